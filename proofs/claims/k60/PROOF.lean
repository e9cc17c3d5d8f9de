import PyProof.Rows.All
import Wide.All
import OpenK.AllK
import Wide.FinOn
import HandS.ForMost
import HandS.More
import HandS.Codes
import HandS.Ends
import PyProof.ReprRoads
import PyProof.ReprReads
import PyProof.RowDictHeap
import HandS.Defaults
import HandS.Property
import HandS.ClsMeth
import HandS.ExcIs
import HandS.RaiseMore
import HandS.ForExc
import HandS.IsInst
import HandS.DeepEq
import HandS.Deep
import HandS.StrMore
import HandS.Steps
import HandS.Style
import HandS.Walk
import HandS.DictComp
import HandS.TupLe
import PySem.Challenge.RW_viewloom_k60_hearers_in_order
set_option Elab.async false
set_option linter.all false
set_option maxRecDepth 100000
set_option maxHeartbeats 4000000
namespace VL
open PySem PySem.Spec PyProof.Rows L2

/-! ### defs, methods, classes, as callers see them -/
structure Cal (P : Program) (w : World) (K : PySem.W.Frag) (mg : Str → Option Value) (base : Heap) (k : Nat) (x : Str) (sp : Sp) : Prop where
  ex : ∃ (f : Addr) (fd : FuncData) (ps : List Str), FnOk P w K mg base CX0 k f fd ps sp ∧ mg x = some (.ref f) ∧ PySem.W.keepIn K (.ref f) = true ∧ Binds K fd ps []
structure Met (P : Program) (w : World) (K : PySem.W.Frag) (mg : Str → Option Value) (base : Heap) (k : Nat) (C : Addr) (m : Str) (sp : Sp) : Prop where
  ex : ∃ (f : Addr) (fd : FuncData) (ps : List Str), Cls K C ∧ Meth K C m f ∧ FnOk P w K mg base CX0 k f fd ps sp ∧ Binds K fd ps []
structure Mak (P : Program) (w : World) (K : PySem.W.Frag) (mg : Str → Option Value) (base : Heap) (k : Nat) (x : Str) (C : Addr) (sp : Sp) : Prop where
  ex : ∃ (f : Addr) (fd : FuncData) (ps : List Str), Mk K C f ∧ FnOk P w K mg base CX0 k f fd ps sp ∧ mg x = some (.ref C) ∧ Binds K fd ps []
section
variable {X : Cx} {k j : Nat} {C : Addr} {x m : Str} {sp : Sp} {p pos apos : Pos} {e o : Expr} {es : List Expr} {ta : TE} {t : TA}
theorem pe_c (c : Cal X.prog X.w X.K X.mg X.base k x sp) (hr : Room j X.A) (hk : k ≤ j) (hg : Gl X x) (ha : PA X (e :: es) t)
    (hdb : (x == ("__debug__" : Str)) = false := by decide) (he : starEach (e :: es) X.env = (false, eval e X.env) :: starEach es X.env := by rfl) (hpl : (backTo pos (starEach es X.env)).any (·.1) = false := by rfl) :
    PE X (.Call (.Name x p) (e :: es) [] pos) (tCall sp [] E0 t) := by
  obtain ⟨f, fd, ps, F, hm, kp, b⟩ := c.ex
  exact pe_call F (hr.mono hk) hg hm kp b .nil pass0 ha hdb he hpl
theorem pe_mk (c : Mak X.prog X.w X.K X.mg X.base k x C sp) (hr : Room j X.A) (hk : k + 1 ≤ j) (hg : Gl X x) (ha : PA X (e :: es) t)
    (hdb : (x == ("__debug__" : Str)) = false := by decide) (he : starEach (e :: es) X.env = (false, eval e X.env) :: starEach es X.env := by rfl) (hpl : (backTo pos (starEach es X.env)).any (·.1) = false := by rfl) :
    PE X (.Call (.Name x p) (e :: es) [] pos) (tMake C sp [] E0 t) := by
  obtain ⟨f, fd, ps, M, F, hm, b⟩ := c.ex
  exact pe_make M F (hr.mono hk) hg hm b .nil pass0 ha hdb he hpl
theorem pe_mk0 (c : Mak X.prog X.w X.K X.mg X.base k x C sp) (hr : Room j X.A) (hk : k + 1 ≤ j) (hg : Gl X x) (hdb : (x == ("__debug__" : Str)) = false := by decide) :
    PE X (.Call (.Name x p) [] [] pos) (tMake C sp [] E0 tNil) := by
  obtain ⟨f, fd, ps, M, F, hm, b⟩ := c.ex
  exact pe_make0 M F (hr.mono hk) hg hm b .nil pass0 hdb
theorem pe_mt {pl : Sem Bool} (c : Met X.prog X.w X.K X.mg X.base k C m sp) (hr : Room j X.A) (hk : k ≤ j) (he : PE X o ta) (ha : PA X (e :: es) t)
    (hst : starEach (e :: es) X.env = (false, eval e X.env) :: starEach es X.env := by rfl) (hpl : (backTo pos (starEach es X.env)).any (·.1) = false := by rfl)
    (ht : eval (.Call (.Attribute o m apos) (e :: es) [] pos) X.env = (do
      let ov ← eval o X.env
      standAt apos.atName
      let (f, first) ← holding [ov] (getMethod ov m pl)
      callWith pos f first (backTo pos (starEach (e :: es) X.env)) (backToKw pos (keywordEach [] X.env))) := by rfl) :
    PE X (.Call (.Attribute o m apos) (e :: es) [] pos) (tMeth C m sp [] E0 ta t) := by
  obtain ⟨f, fd, ps, hc, hm, F, b⟩ := c.ex
  exact pe_meth (pl := pl) he hc hm F (hr.mono hk) b .nil pass0 ha hst hpl ht
theorem pe_mt0 {pl : Sem Bool} (c : Met X.prog X.w X.K X.mg X.base k C m sp) (hr : Room j X.A) (hk : k ≤ j) (he : PE X o ta)
    (ht : eval (.Call (.Attribute o m apos) [] [] pos) X.env = (do
      let ov ← eval o X.env
      standAt apos.atName
      let (f, first) ← holding [ov] (getMethod ov m pl)
      callWith pos f first (backTo pos (starEach [] X.env)) (backToKw pos (keywordEach [] X.env))) := by rfl) :
    PE X (.Call (.Attribute o m apos) [] [] pos) (tMeth C m sp [] E0 ta tNil) := by
  obtain ⟨f, fd, ps, hc, hm, F, b⟩ := c.ex
  exact pe_meth0 (pl := pl) he hc hm F (hr.mono hk) b .nil pass0 ht
end

/-! ### what the text has -/
def DefE (K : PySem.W.Frag) (mg : Str → Option Value) (x : Str) (st : Stmt) (ps : List Str) : Prop := ∃ (f : Addr) (fd : FuncData), Fun K x x st f fd ∧ mg x = some (.ref f) ∧ Binds K fd ps []
def MethE (K : PySem.W.Frag) (C : Addr) (x qual : Str) (st : Stmt) (ps : List Str) : Prop := ∃ (f : Addr) (fd : FuncData), Fun K x qual st f fd ∧ Meth K C x f ∧ Binds K fd ps []
def InitE (K : PySem.W.Frag) (mg : Str → Option Value) (cn : Str) (C : Addr) (qual : Str) (st : Stmt) (ps : List Str) : Prop := ∃ (f : Addr) (fd : FuncData), Fun K "__init__" qual st f fd ∧ Mk K C f ∧ mg cn = some (.ref C) ∧ Binds K fd ps []
/-- a global name of the module has the value v -/
abbrev GV (mg : Str → Option Value) (x : Str) (v : V) : Prop := ∃ u, mg x = some u ∧ RelV v u
section
variable {P : Program} {w : World} {K : PySem.W.Frag} {mg : Str → Option Value} {base : Heap}
theorem cal_of {x : Str} {st : Stmt} {ps N : List Str} {k : Nat} {sp : Sp} (D : DefE K mg x st ps) (S : FnScope N ps (defScope st)) (len : ∀ vs H Q E, sp vs H Q E → vs.length = ps.length)
    (hbody : ∀ (f : Addr) (cdv : Value) (A : Around) (outer : List Env) (s : Shared) (H : Hp) (vs : List V) (Q : VK) (E : XK), Room k (A.deeper (envOfC x (defScope st) s.heap.objs.size f cdv)) → sp vs H Q E →
      ∃ t, PSs (cxOf CX0 P w K mg base N x (defScope st) f cdv A outer s H E).nox (defBody st) t ∧ t { nx := fun _ H' => Q .non H', rt := Q } (start N vs) H) : Cal P w K mg base (k + 1) x sp := by
  obtain ⟨f, fd, F, hm, b⟩ := D
  exact ⟨f, fd, ps, F.ok S len (hbody f), hm, F.kp, b⟩
theorem met_of {C : Addr} {x qual : Str} {st : Stmt} {ps N : List Str} {k : Nat} {sp : Sp} (D : MethE K C x qual st ps) (c : Cls K C) (S : FnScope N ps (defScope st)) (len : ∀ vs H Q E, sp vs H Q E → vs.length = ps.length)
    (hbody : ∀ (f : Addr) (cdv : Value) (A : Around) (outer : List Env) (s : Shared) (H : Hp) (vs : List V) (Q : VK) (E : XK), Room k (A.deeper (envOfC qual (defScope st) s.heap.objs.size f cdv)) → sp vs H Q E →
      ∃ t, PSs (cxOf CX0 P w K mg base N qual (defScope st) f cdv A outer s H E).nox (defBody st) t ∧ t { nx := fun _ H' => Q .non H', rt := Q } (start N vs) H) : Met P w K mg base (k + 1) C x sp := by
  obtain ⟨f, fd, F, hm, b⟩ := D
  exact ⟨f, fd, ps, c, hm, F.ok S len (hbody f), b⟩
theorem mak_of {C : Addr} {cn qual : Str} {st : Stmt} {ps N : List Str} {k : Nat} {sp : Sp} (D : InitE K mg cn C qual st ps) (S : FnScope N ps (defScope st)) (len : ∀ vs H Q E, sp vs H Q E → vs.length = ps.length)
    (hbody : ∀ (f : Addr) (cdv : Value) (A : Around) (outer : List Env) (s : Shared) (H : Hp) (vs : List V) (Q : VK) (E : XK), Room k (A.deeper (envOfC qual (defScope st) s.heap.objs.size f cdv)) → sp vs H Q E →
      ∃ t, PSs (cxOf CX0 P w K mg base N qual (defScope st) f cdv A outer s H E).nox (defBody st) t ∧ t { nx := fun _ H' => Q .non H', rt := Q } (start N vs) H) : Mak P w K mg base (k + 1) cn C sp := by
  obtain ⟨f, fd, F, M, hm, b⟩ := D
  exact ⟨f, fd, ps, M, F.ok S len (hbody f), hm, b⟩
end
theorem ps_str_loc : True := trivial
end VL

set_option Elab.async false
set_option linter.all false
set_option maxRecDepth 100000
set_option maxHeartbeats 4000000
namespace VL
open PySem PySem.Spec PyProof.Rows L2

/-! ### a def that is called where nothing is being shown: the law's own; repr of nested data there -/
structure FnG (P : Program) (w : World) (K : PySem.W.Frag) (mg : Str → Option Value) (base : Heap) (k : Nat) (f : Addr) (fd : FuncData) (ps : List Str) (sp : Sp) : Prop where
  run : ∀ (A : Around) (outer : List Env) (s : Shared) (H : Hp) (args : Args) (us : List Value) (vs : List V) (Q : VK) (E : XK), A.guards = some [] → Room k A → Env0 P w K mg base A outer s H → BindsTo s fd args (ps.zip us) → Vals vs us → sp vs H Q E →
    codeAny (model P w) A (.call (.ref f) args) (CR CX0 outer P w H s Q E) s
theorem fnG_of {P : Program} {w : World} {K : PySem.W.Frag} {mg : Str → Option Value} {base : Heap} {x qual : Str} {st : Stmt} {f : Addr} {fd : FuncData} {N ps : List Str} {k : Nat} {sp : Sp} (F : Fun K x qual st f fd) (S : FnScope N ps (defScope st)) (len : ∀ vs H Q E, sp vs H Q E → vs.length = ps.length)
    (hb0 : ∀ (cdv : Value) (A : Around) (outer : List Env) (s : Shared) (H : Hp) (vs : List V) (Q : VK) (E : XK), A.guards = some [] → Room k (A.deeper (envOfC qual (defScope st) s.heap.objs.size f cdv)) → sp vs H Q E →
      ∃ t, PSs (cxOf CX0 P w K mg base N qual (defScope st) f cdv A outer s H E).nox (defBody st) t ∧ t { nx := fun _ H' => Q .non H', rt := Q } (start N vs) H) : FnG P w K mg base (k + 1) f fd ps sp := by
  obtain ⟨oc, od, kV, doc, pm, an, cdv, ct, osl, rfl, lk, hcd⟩ := F.ex
  refine ⟨fun A outer s H args us vs Q E gd hr en hb rv hsp => ?_⟩
  have hlen := len _ _ _ _ hsp
  have kin : K.In s.heap := en.mod.kin.keeps fun b o e => (en.bs b o e).1
  have nl : s.heap.NoLimit := en.mod.nolimit.keeps fun b o e => (en.bs b o e).1
  have kinds : ∀ y ∈ ps.zip us, (defScope st).names.lookup y.1 = some .local ∨ ((defScope st).names.lookup y.1 = some .cell ∧ ((cellsFrom (s.heap.objs.size + 1) (defScope st).names []).lookup y.1).isSome = true) := fun ⟨n, v⟩ hy => by
    rcases S.par n (List.of_mem_zip hy).1 with c | c
    · exact .inl c
    · exact .inr ⟨c, PySem.W.cellsFrom_some _ _ _ (.inl c)⟩
  refine codeAny_call_function hr.depth (kin _ _ lk) rfl S.co S.gen rfl (PySem.W.codeRec_of kin hcd) (hb _ _ _ _ ?_)
  refine wpAny_newFunctionEnv_cells S.kind kinds fun env he s1 ic => ?_
  subst he
  refine ⟨nl.keeps ic.toInCall.keep, codeAny_func ?_⟩
  obtain ⟨t, hd, hq⟩ := hb0 cdv A outer s H vs Q E gd (hr.deeper _) hsp
  have J0 : Inv (cxOf CX0 P w K mg base N qual (defScope st) f cdv A outer s H E) [] (start N vs) H s1 := inv_start S hr.hd en hlen rv ic
  refine wpAny_mono (hd.nox.run [] s1 (start N vs) H _ J0 hq) (fun fl s2 hs => ?_) fun e s2 hs => hs
  have done : ∀ {σ2 : L2.St} {H2 : Hp} {v : V} {u : Value}, Inv (cxOf CX0 P w K mg base N qual (defScope st) f cdv A outer s H E) [] σ2 H2 s2 → RelV v u → Q v H2 → CE outer P w H s Q u s2 :=
    fun {σ2 H2 v u} J rw q => ⟨v, H2, J.os, J.bare, J.base, J.hok, rw, q⟩
  cases fl with
  | ret u =>
    obtain ⟨v, σ2, H2, J, rw, q⟩ := hs
    exact done J rw q
  | next =>
    obtain ⟨σ2, H2, J, q⟩ := hs
    exact done (v := V.non) (u := Value.none) J rfl q
  | brk => exact hs.elim fun _ z => z.elim fun _ z => z.2.elim
  | cont => exact hs.elim fun _ z => z.elim fun _ z => z.2.elim
/-- the law's call, where nothing is being shown -/
theorem law_callG {P : Program} {w : World} {K : PySem.W.Frag} {mg mb : Str → Option Value} {k : Nat} {fa a : Addr} {fd : FuncData} {x : Str} {sp : Sp} {s₁ : Shared} {vs : List Value} {ns : List Int}
    (kin : K.In s₁.heap) (ng : s₁.heap.Ns mainGlobals mg) (nb : s₁.heap.Ns builtinsNs mb) (bb : ∀ x : Str, x ≠ "__name__" → mb x = bootBuiltins x) (nl : s₁.heap.NoLimit) (hgen : s₁.gens = #[])
    (ea : s₁.heap.get? a = some { cls := .type "list", data := .seq vs.toArray }) (hi : IntsAre vs ns) (hz : ns.length ≤ sizeLine) (hr : Room k callerA)
    (F : ∀ base : Heap, K.In base → base.Ns mainGlobals mg → FnG P w K mg base k fa fd [x] sp) (hbind : ∀ (s : Shared) (u : Value), BindsTo s fd ⟨[u], []⟩ [(x, u)])
    (hsp : ∀ H : Hp, Only H → SqL K H a (ns.map V.int) → sp [.ref a] H (fun v _ => v = .bl true) fun _ _ _ => False) :
    codeAny (model P w) callerA (.call (.ref fa) ⟨[.ref a], []⟩) (fun r s2 => r = .ok (.ret (.bool true)) ∧ OldK s₁.heap s2.heap ∧ s2.os = s₁.os ∧ AllBare s2.gens) s₁ := by
  have rel := vals_ints hi
  have lv := hi.length
  have go : ∀ H : Hp, Only H → SqL K H a (ns.map V.int) → HOk P w H s₁.heap → (∀ b, H b ≠ none → b = a) → (H a ≠ none → K.lookup a = none) →
      codeAny (model P w) callerA (.call (.ref fa) ⟨[.ref a], []⟩) (fun r s2 => r = .ok (.ret (.bool true)) ∧ OldK s₁.heap s2.heap ∧ s2.os = s₁.os ∧ AllBare s2.gens) s₁ := by
    intro H ho hq ok only out
    have low : ∀ {b : Addr} {o : Obj}, s₁.heap.get? b = some o → H b = none → (hidT s₁.heap H).get? b = some o := fun e n => hidT_get e n
    have nod : ∀ {b : Addr} {o : Obj} {es : Array DictEntry} {ep : Nat}, s₁.heap.get? b = some o → o.data = .dict es ep → H b = none := fun {b o es ep} e d => by
      cases c : H b with
      | none => rfl
      | some u =>
        obtain rfl : b = a := only b (by rw [c]; simp)
        rw [ea] at e
        cases e
        exact nomatch (show Data.seq vs.toArray _ = Data.dict es ep from d)
    have nsl : ∀ {b : Addr} {m : Str → Option Value}, s₁.heap.Ns b m → (hidT s₁.heap H).Ns b m := fun {b m} ⟨o, es, ep, e, d, r⟩ => ⟨o, es, ep, low e (nod e d), d, r⟩
    have kl : K.In (hidT s₁.heap H) := fun b o e => low (kin b o e) (by
      cases c : H b with
      | none => rfl
      | some u =>
        obtain rfl : b = a := only b (by rw [c]; simp)
        rw [out (by rw [c]; simp)] at e
        exact nomatch e)
    have md : Mod K mg (hidT s₁.heap H) := ⟨kl, nsl ng, ⟨mb, nsl nb, bb⟩, let ⟨mc, h1, h2⟩ := nl; ⟨mc, nsl h1, h2⟩⟩
    have en : Env0 P w K mg (hidT s₁.heap H) callerA [] s₁ H := ⟨rfl, md, fun b o e => of_hidT e, Nat.le_of_eq (hidT_size _ _), trivial, fun b hb => absurd (show b ∈ ([] : List Addr) from hb) (by simp), ok, .of_eq hgen⟩
    refine codeAny_mono ((F _ kl (nsl ng)).run callerA [] s₁ H ⟨[.ref a], []⟩ [.ref a] [.ref a] _ _ rfl hr en (hbind s₁ (.ref a)) (.cons rfl .nil) (hsp H ho hq)) fun r s2 h => ?_
    cases r with
    | error e => exact False.elim h
    | ok fl =>
      cases fl with
      | next => exact h.elim
      | brk => exact h.elim
      | cont => exact h.elim
      | ret u =>
        obtain ⟨v, H2, os, bare, un, ok2, r2, q⟩ := h
        obtain rfl : v = .bl true := q
        obtain rfl : u = Value.bool true := r2
        refine ⟨rfl, OldK.of_keep fun b o e => ?_, os, bare⟩
        cases c : H b with
        | none => exact un.keep b o e c (by intro z; exact absurd (show b ∈ ([] : List Addr) from z) (by simp)) (by simp)
        | some u =>
          rcases ho b with z | ⟨ob, xs, z⟩
          · exact nomatch c.symm.trans z
          · obtain ⟨e1, _⟩ := ok b _ z
            obtain ⟨e2, _⟩ := ok2 b _ (un.frzs b ob _ z)
            rw [e] at e1
            cases e1
            exact e2
  cases hk : K.lookup a with
  | some o =>
    have e := kin a o hk
    rw [ea] at e
    cases e
    exact go (fun _ => none) (fun _ => .inl rfl) (.inr ⟨_, vs.toArray, _, hk, rfl, rfl, rfl, by rw [List.size_toArray, lv]; exact hz, by simpa using rel⟩) (fun b u z => nomatch (show (none : Option HO) = some u from z)) (fun b z => absurd rfl z) fun z => absurd rfl z
  | none =>
    refine go (fun b => if b = a then some (.frz { cls := .type "list", data := .seq vs.toArray } (.lst (ns.map V.int))) else none) (fun b => ?_) (.inl (.inr ⟨{ cls := .type "list", data := .seq vs.toArray }, if_pos rfl⟩)) (fun b u z => ?_) (fun b z => ?_) fun _ => hk
    · by_cases hb : b = a
      · exact Or.inr ⟨_, _, if_pos hb⟩
      · exact Or.inl (if_neg hb)
    · by_cases hb : b = a
      · cases (if_pos hb).symm.trans z
        subst hb
        exact ⟨ea, by rw [List.length_map]; exact hz, vs, _, rel, ea⟩
      · exact nomatch (if_neg hb).symm.trans z
    · by_cases hb : b = a
      · exact hb
      · exact absurd (if_neg hb) z
theorem walk_ofG {l : PySem.W.OpenLaw} {n k : Nat} {q : Program} {loose : List Str} {XP : (Str → Option Value) → Heap → Prop} {YP : World → Heap → Prop} {d : DefRec} {K : Params → PySem.W.Frag} {sp : World → Sp} {x : Str}
    (hn : l.most = some n) (hn2 : n ≤ sizeLine) (hdf : d.params.defaults = []) (hr : Room k callerA) (hY : ∀ (w : World) (h : Heap), YP w h → (K w.params).In h)
    (F : ∀ (w : World) (mg : Str → Option Value) (fa : Addr) (h : Heap), (K w.params).In h → h.Ns mainGlobals mg → mg d.name = some (.ref fa) →
      ∃ fd : FuncData, (∀ (s : Shared) (u : Value), BindsTo s fd ⟨[u], []⟩ [(x, u)]) ∧ ∀ base : Heap, (K w.params).In base → base.Ns mainGlobals mg → FnG l.prog w (K w.params) mg base k fa fd [x] (sp w))
    (hsp : ∀ (w : World) (H : Hp) (a : Addr) (ns : List Int), ns.length ≤ n → Only H → SqL (K w.params) H a (ns.map V.int) → sp w [.ref a] H (fun v _ => v = .bl true) fun _ _ _ => False) :
    PySem.W.WalkO q loose XP YP l.row.toRowW d [] (fun f vs => PySem.call f vs) := by
  refine Att.attach_call hn hdf fun w s₀ s₁ mg mb fa o pm cd doc a vs ns G Y ho hd hcd hmg hobj hints hlen hgen => ?_
  have kin := hY w _ Y
  obtain ⟨fd, hb, hF⟩ := F w mg fa _ kin G.T.g hmg
  exact law_callG kin G.T.g G.T.b G.T.builtins G.T.nolimit hgen hobj hints (Nat.le_trans hlen hn2) hr hF hb fun H ho hq => hsp w H a ns hlen ho hq
end VL

set_option Elab.async false
set_option linter.all false
set_option maxRecDepth 100000
set_option maxHeartbeats 4000000
namespace VL
open PySem PySem.Spec PyProof.Rows L2 PyProof.V

/-! ### repr of a dict of nested data, where nothing is being shown -/
def enK : Key → PyData
  | .inl i => .int i
  | .inr x => .str x
def zipK : List (Key × V) → List PyData → List (PyData × PyData)
  | p :: ks, d :: ds => (enK p.1, d) :: zipK ks ds
  | _, _ => []
theorem zipK_vals : ∀ {ks : List (Key × V)} {ds : List PyData}, ks.length = ds.length → (zipK ks ds).map (·.2) = ds
  | [], [], _ => rfl
  | p :: ks, d :: ds, h => by
    show d :: (zipK ks ds).map (·.2) = d :: ds
    rw [zipK_vals (Nat.succ.inj h)]
theorem dpAll_len {K : PySem.W.Frag} {H : Hp} : ∀ {vs : List V} {ds : List PyData}, DpAll K H vs ds → vs.length = ds.length
  | _, _, .nil => rfl
  | _, _, .cons _ h => by simp [dpAll_len h]
section
variable {X : Cx} {pins : List (Addr × Obj)} {σ : L2.St} {H : Hp} {s : Shared}
theorem enK_reads {h : Heap} {P : Program} {w : World} (k : Key) (key : Value) (e : (mixKind P w).is k key = true) : Reads h key (enK k) [] := by
  rcases keyIs_shape (show keyIs k key = true from e) with ⟨i, t, rfl, rfl⟩ | ⟨x, t, rfl, rfl⟩
  · exact Reads.int i t
  · exact Reads.str x t
theorem pairs_read (I : Inv X pins σ H s) : ∀ {ks : List (Key × V)} {vs : List (Key × Value)} {ds : List PyData}, KV ks vs → DpAll X.K H (ks.map (·.2)) ds → ∃ bs, PairsRead s.heap enK vs (zipK ks ds) bs
  | [], _, _, r, h => by
    cases r
    exact ⟨[], by unfold zipK; exact .nil⟩
  | p :: ks, _, _, r, h => by
    cases r with
    | @cons _ q _ qs h1 h2 =>
      cases h with
      | @cons _ _ d ds g1 g2 =>
        obtain ⟨k, v⟩ := q
        obtain ⟨kp, vp⟩ := p
        obtain ⟨rfl, rv⟩ := h1
        obtain ⟨as, r1⟩ := Dp.reads I d _ _ g1 rv
        obtain ⟨bs, r2⟩ := pairs_read I h2 g2
        exact ⟨as ++ bs, .cons r1 r2⟩
def rRepD (K : PySem.W.Frag) : List V → Hp → VK → Prop := fun xs H Q => ∃ (a : Addr) (ks : List (Key × V)) (ds : List PyData), xs = [.ref a] ∧ H a = some (.dK ks) ∧ DpAll K H (ks.map (·.2)) ds ∧ PyData.showableKv (zipK ks ds) = true ∧ PyData.hasDictAll ds = false ∧
  PyData.depthKv (zipK ks ds) ≤ 40 ∧ (dictText (PyData.shownKv (zipK ks ds))).length ≤ sizeLine ∧ Q (.str (dictText (PyData.shownKv (zipK ks ds)))) H
theorem call_repD (gd : X.A.guards = some []) (hu : X.A.units + 64 < cLine) : CallR X (.builtin "repr") (rRepD X.K) := by
  intro pins s σ H xs us Q I r h
  obtain ⟨a, ks, ds, rfl, ha, hd, sh, nd, dep, len, q⟩ := h
  obtain ⟨u, rfl, ru⟩ := vals1 r
  cases (show u = Value.ref a from ru)
  obtain ⟨_, hsys, vs, rk, dic⟩ := (show ObjOk X.prog X.w H s.heap a (.dK ks) from I.hok a _ ha)
  obtain ⟨bs, pr⟩ := pairs_read I rk hd
  have rd := reads_dictOf (fun k key e => enK_reads k key e) dic pr
  obtain ⟨o, es, ep, ho, hx, hdat, _, hp, _⟩ := dic
  obtain ⟨rk1, rk2⟩ := readsAll_of_pairs (fun k key e => enK_reads k key e) hp pr
  obtain ⟨sh1, sh2⟩ := PyData.showableKv_split _ sh
  have vv : (zipK ks ds).map (·.2) = ds := zipK_vals (by have := dpAll_len hd; rw [List.length_map] at this; exact this)
  obtain ⟨b1, hb1, k1⟩ := ReprAllK.of_readsAll (prog := X.prog) (w := X.w) rk1 sh1 (fun _ z => nomatch z) (fun t ht => let ⟨p, hp, hl⟩ := PyData.shownKv_key_le _ t ht; Nat.le_trans hl (Nat.le_trans (dictText_mem_le hp) len))
  obtain ⟨b2, hb2, k2⟩ := ReprAllK.of_readsAll (prog := X.prog) (w := X.w) rk2 sh2 (fun z => by rw [vv, nd] at z; exact nomatch z) (fun t ht => let ⟨p, hp, hl⟩ := PyData.shownKv_val_le _ t ht; Nat.le_trans hl (Nat.le_trans (dictText_mem_le hp) len))
  have rm : ReadAtMost s.heap (PyData.depthKv (zipK ks ds)) (b1 ++ b2) := (hb1.mono (PyData.depthAll_keys_le _)).append (hb2.mono (PyData.depthAll_vals_le _))
  have na : a ∉ b1 ++ b2 := not_mem_of_deeper rd (by simp only [PyData.depth]; omega) rm
  have EK := ReprEntriesK.of_two es.toList _ _ (k1.more_le (fun b z => List.mem_append_left b2 z) (PyData.depthAll_keys_le (zipK ks ds))) (k2.more_le (fun b z => List.mem_append_right b1 z) (PyData.depthAll_vals_le (zipK ks ds)))
  rw [← PyData.shownKv_eq] at EK
  refine call_repr_slot (T := "dict") (idr := "dict.__repr__") (by omega) ⟨o, ho, hx.1⟩ F.slot_dict_repr (call_dict_reprK (h₀ := s.heap) ho hx.1 hdat hsys na EK gd (fun b _ => Clear.nil b) (by show X.A.units + 1 + (PyData.depthKv (zipK ks ds) + 1) < cLine; omega) (fun _ _ e => e) (fun h2 u tk hk => ?_) len)
  exact ⟨_, _, rfl, .str _, H, I.kept hk, ⟨u, rfl⟩, q⟩
end
theorem strApp (x y : Str) : (x ++ y).length = x.length + y.length := strLen_append x y
theorem textFrom_le : ∀ (ts : List Str) (k : Nat) (acc : Str), (textFrom k acc ts).length ≤ acc.length + piled ts
  | [], k, acc => by show acc.length ≤ _; omega
  | t :: ts, k, acc => by
    have ih := textFrom_le ts (k + 1) (acc ++ (if k > 0 then ", " else "" : String) ++ t)
    have e : (acc ++ (if k > 0 then ", " else "" : String) ++ t).length ≤ acc.length + 2 + t.length := by
      rw [strApp, strApp]
      split
      · exact Nat.le_of_eq rfl
      · show acc.length + 0 + t.length ≤ _
        omega
    show (textFrom (k + 1) (acc ++ (if k > 0 then ", " else "" : String) ++ t) ts).length ≤ _
    have : piled (t :: ts) = t.length + 2 + piled ts := by simp [piled]
    omega
theorem listText_le (ts : List Str) : (listText ts).length ≤ 2 + piled ts := by
  have := textFrom_le ts 0 "["
  have e1 : (("[" : String) : Str).length = 1 := rfl
  have e2 : (("]" : String) : Str).length = 1 := rfl
  unfold listText
  rw [strApp, e2]
  omega
theorem dictText_le (ts : List Str) : (dictText ts).length ≤ 2 + piled ts := by
  have e1 : (("{" : String) : Str).length = 1 := rfl
  have e2 : (("}" : String) : Str).length = 1 := rfl
  unfold dictText
  rw [strApp, strApp, e1, e2]
  by_cases h : ts = []
  · subst h
    show 1 + 0 + 1 ≤ _
    omega
  · have := join_length_add ts h
    omega
theorem piled_le {c : Nat} : ∀ {ts : List Str}, (∀ t ∈ ts, t.length ≤ c) → piled ts ≤ ts.length * (c + 2)
  | [], _ => by simp [piled]
  | t :: ts, h => by
    have ih := piled_le (ts := ts) fun x hx => h x (List.mem_cons_of_mem _ hx)
    have := h t List.mem_cons_self
    have e : piled (t :: ts) = t.length + 2 + piled ts := by simp [piled]
    have e2 : (t :: ts).length * (c + 2) = ts.length * (c + 2) + (c + 2) := by rw [List.length_cons, Nat.succ_mul]
    omega
end VL

set_option Elab.async false
set_option linter.all false
set_option maxRecDepth 100000
set_option maxHeartbeats 4000000
namespace VL
open PySem PySem.Spec PyProof.Rows L2

/-! ### what the text has: methods with keyword-only parameters, properties, written tuples, own exceptions without a text of their own -/
def WrT (K : PySem.W.Frag) (a : Addr) (xs : List V) : Prop := ∃ (o : Obj) (its : Array Value) (n : Nat), K.lookup a = some o ∧ o.cls = .type "tuple" ∧ o.data = .seq its n ∧ its.size ≤ sizeLine ∧ Vals xs its.toList ∧ o.dict = none
abbrev catG {α : Type} (us ws : List α) : List α := us ++ ws
def MethKE (K : PySem.W.Frag) (C : Addr) (x qual : Str) (st : Stmt) (ps : List Str) (n : Nat) (ks : List Str) : Prop :=
  ∃ (f : Addr) (fd : FuncData), Fun K x qual st f fd ∧ Meth K C x f ∧ KBn K fd ps n ks catG catG
def PropE (K : PySem.W.Frag) (C : Addr) (x qual : Str) (st : Stmt) : Prop := ∃ (p g : Addr) (fd : FuncData), PropOf K C x p g ∧ Fun K x qual st g fd ∧ Binds K fd ["self"] []
structure ExT (K : PySem.W.Frag) (mg : Str → Option Value) (x : Str) (D : Addr) : Prop where
  g : mg x = some (.ref D)
  xx : PySem.W.excIn K D [.type "ValueError", .type "Exception", .type "BaseException", .type "object"] "ValueError.__new__" = true
  kp : PySem.W.keepIn K (.ref D) = true
  bP : PySem.W.subIn K (.ref D) (.type "BaseException") = some true
  tP : PySem.W.typeIn K (.ref D) = some (.type "type")
  em : PySem.W.exmOne K (.ref D) (.ref D) = some true
  ec : ExcC K D
theorem fun_kbn {K : PySem.W.Frag} {x qual : Str} {st : Stmt} {f : Addr} {fd : FuncData} {ps : List Str} (F : Fun K x qual st f fd) (n : Nat) (ks : List Str)
    (h : ∀ (kV doc pm : Value) (an : Option Addr) (cdv ct : Value) (us ws : List Value), us.length = n → ws.length = ks.length → bindArgs (PySem.W.fnOf x qual (defArgs st) (defBody st) (defScope st) .none kV doc pm an cdv ct) ⟨us, ks.zip ws⟩ = pure (ps.zip (us ++ ws))) :
    KBn K fd ps n ks catG catG := by
  obtain ⟨oc, od, kV, doc, pm, an, cdv, ct, osl, rfl, lk, hcd⟩ := F.ex
  exact ⟨fun s us ws X l1 l2 => .of_eq (h kV doc pm an cdv ct us ws l1 l2), fun r1 r2 => r1.append r2⟩
/-! ### as callers see them -/
structure MetK (P : Program) (w : World) (K : PySem.W.Frag) (mg : Str → Option Value) (base : Heap) (k : Nat) (C : Addr) (m : Str) (sp : Sp) (n : Nat) (ks : List Str) (gV : List V → List V → List V) : Prop where
  ex : ∃ (f : Addr) (fd : FuncData) (ps : List Str) (g : List Value → List Value → List Value), Cls K C ∧ Meth K C m f ∧ FnOk P w K mg base CX0 k f fd ps sp ∧ KBn K fd ps n ks g gV
structure Pro (P : Program) (w : World) (K : PySem.W.Frag) (mg : Str → Option Value) (base : Heap) (k : Nat) (C : Addr) (x : Str) (sp : Sp) : Prop where
  ex : ∃ (p g : Addr) (fd : FuncData), Cls K C ∧ PropOf K C x p g ∧ FnOk P w K mg base CX0 k g fd ["self"] sp ∧ Binds K fd ["self"] []
/-- o.m(.., k = v, ..): n is one more than the values written -/
def tMethK (C : Addr) (m : Str) (sp : Sp) (n kn : Nat) (gV : List V → List V → List V) (ta : TE) (t tk : TA) : TE := fun σ H Q => ta σ H fun x H1 => ∃ a dx fs, x = .ref a ∧ H1 a = some (.ins C dx fs) ∧ fs.lookup m = none ∧ t σ H1 fun vs H2 => tk σ H2 fun zs H3 => vs.length + 1 = n ∧ zs.length = kn ∧ sp (gV (.ref a :: vs) zs) H3 Q E0
section
variable {X : Cx} {k j n : Nat} {C : Addr} {m x : Str} {ks : List Str} {sp : Sp} {pos apos : Pos} {e o : Expr} {es : List Expr} {kws : List Keyword} {ta : TE} {t tk : TA} {gV : List V → List V → List V}
theorem pe_mtK {pl : Sem Bool} (c : MetK X.prog X.w X.K X.mg X.base k C m sp n ks gV) (hr : Room j X.A) (hk : k ≤ j) (he : PE X o ta) (ha : PA X (e :: es) t) (hkw : PK X kws tk)
    (hall : (backToKw pos (keywordEach kws X.env)).all (·.1.isSome) = true := by rfl) (hks : (backToKw pos (keywordEach kws X.env)).filterMap (·.1) = ks := by rfl)
    (hst : starEach (e :: es) X.env = (false, eval e X.env) :: starEach es X.env := by rfl)
    (hpl : ((backTo pos (starEach (e :: es) X.env)).any (·.1) || (backToKw pos (keywordEach kws X.env)).any (·.1.isNone)) = false := by rfl)
    (ht : eval (.Call (.Attribute o m apos) (e :: es) kws pos) X.env = (do
      let ov ← eval o X.env
      standAt apos.atName
      let (f, first) ← holding [ov] (getMethod ov m pl)
      callWith pos f first (backTo pos (starEach (e :: es) X.env)) (backToKw pos (keywordEach kws X.env))) := by rfl) :
    PE X (.Call (.Attribute o m apos) (e :: es) kws pos) (tMethK C m sp n ks.length gV ta t tk) := by
  obtain ⟨f, fd, ps, g, hc, hm, F, b⟩ := c.ex
  refine ⟨fun pins s σ H Q I h => ?_⟩
  refine PySem.W.methodCall_KW (pl := pl) (thn (he.run pins s σ H _ I h) fun u s1 ⟨x, H1, I1, rx, a, dx, fs, ex, ea, l, q⟩ => ?_) ht
  subst ex
  obtain rfl : u = Value.ref a := rx
  refine getmeth_ok I1 ea hc hm l ?_
  refine PySem.W.callWith_KW (first := [.ref a]) (h₀ := X.base) I.ok.mod.kin hm.kp hall (thn (ha.run pos pins s1 σ H1 _ I1 q) fun us s2 ⟨vs, H2, I2, r, q2⟩ => ?_) hpl hst
  refine thn (hkw.run pos pins s2 σ H2 _ I2 q2) fun ws s3 ⟨zs, H3, I3, rz, l1, l2, q3⟩ => ⟨I3.kIn, ?_⟩
  rw [hks]
  exact run_fnN (us := .ref a :: us) (vs := .ref a :: vs) F (hr.mono hk) b pass0 I3 (.cons rfl r) rz l1 l2 q3
theorem pe_mtK0 {pl : Sem Bool} (c : MetK X.prog X.w X.K X.mg X.base k C m sp n ks gV) (hr : Room j X.A) (hk : k ≤ j) (he : PE X o ta) (hkw : PK X kws tk)
    (hall : (backToKw pos (keywordEach kws X.env)).all (·.1.isSome) = true := by rfl) (hks : (backToKw pos (keywordEach kws X.env)).filterMap (·.1) = ks := by rfl)
    (hpl : ((backTo pos (starEach [] X.env)).any (·.1) || (backToKw pos (keywordEach kws X.env)).any (·.1.isNone)) = false := by rfl)
    (ht : eval (.Call (.Attribute o m apos) [] kws pos) X.env = (do
      let ov ← eval o X.env
      standAt apos.atName
      let (f, first) ← holding [ov] (getMethod ov m pl)
      callWith pos f first (backTo pos (starEach [] X.env)) (backToKw pos (keywordEach kws X.env))) := by rfl) :
    PE X (.Call (.Attribute o m apos) [] kws pos) (tMethK C m sp n ks.length gV ta tNil tk) := by
  obtain ⟨f, fd, ps, g, hc, hm, F, b⟩ := c.ex
  refine ⟨fun pins s σ H Q I h => ?_⟩
  refine PySem.W.methodCall_KW (pl := pl) (thn (he.run pins s σ H _ I h) fun u s1 ⟨x, H1, I1, rx, a, dx, fs, ex, ea, l, q⟩ => ?_) ht
  subst ex
  obtain rfl : u = Value.ref a := rx
  refine getmeth_ok I1 ea hc hm l ?_
  refine PySem.W.callWith_KW0 (first := [.ref a]) (h₀ := X.base) I.ok.mod.kin hm.kp hall ?_ hpl
  refine thn (hkw.run pos pins s1 σ H1 _ I1 q) fun ws s3 ⟨zs, H3, I3, rz, l1, l2, q3⟩ => ⟨I3.kIn, ?_⟩
  rw [hks]
  exact run_fnN (us := [.ref a]) (vs := [.ref a]) F (hr.mono hk) b pass0 I3 (.cons rfl .nil) rz l1 l2 q3
theorem pe_pr (c : Pro X.prog X.w X.K X.mg X.base k C x sp) (hr : Room j X.A) (hk : k + 1 ≤ j) (he : PE X e ta) (hab : attributeBase e x X.env (eval e X.env) = eval e X.env := by rfl) : PE X (.Attribute e x pos) (tProp C sp [] E0 ta) := by
  obtain ⟨p, g, fd, hc, hp, F, b⟩ := c.ex
  exact pe_prop he hc hp F (hr.mono hk) b .nil pass0 hab
end
section
variable {P : Program} {w : World} {K : PySem.W.Frag} {mg : Str → Option Value} {base : Heap}
theorem metK_of {C : Addr} {x qual : Str} {st : Stmt} {ps ks N : List Str} {k n : Nat} {sp : Sp} (D : MethKE K C x qual st ps n ks) (c : Cls K C) (S : FnScope N ps (defScope st)) (len : ∀ vs H Q E, sp vs H Q E → vs.length = ps.length)
    (hbody : ∀ (f : Addr) (cdv : Value) (A : Around) (outer : List Env) (s : Shared) (H : Hp) (vs : List V) (Q : VK) (E : XK), Room k (A.deeper (envOfC qual (defScope st) s.heap.objs.size f cdv)) → sp vs H Q E →
      ∃ t, PSs (cxOf CX0 P w K mg base N qual (defScope st) f cdv A outer s H E).nox (defBody st) t ∧ t { nx := fun _ H' => Q .non H', rt := Q } (start N vs) H) : MetK P w K mg base (k + 1) C x sp n ks catG := by
  obtain ⟨f, fd, F, hm, b⟩ := D
  exact ⟨f, fd, ps, _, c, hm, F.ok S len (hbody f), b⟩
theorem pro_of {C : Addr} {x qual : Str} {st : Stmt} {N : List Str} {k : Nat} {sp : Sp} (D : PropE K C x qual st) (c : Cls K C) (S : FnScope N ["self"] (defScope st)) (len : ∀ vs H Q E, sp vs H Q E → vs.length = 1)
    (hbody : ∀ (f : Addr) (cdv : Value) (A : Around) (outer : List Env) (s : Shared) (H : Hp) (vs : List V) (Q : VK) (E : XK), Room k (A.deeper (envOfC qual (defScope st) s.heap.objs.size f cdv)) → sp vs H Q E →
      ∃ t, PSs (cxOf CX0 P w K mg base N qual (defScope st) f cdv A outer s H E).nox (defBody st) t ∧ t { nx := fun _ H' => Q .non H', rt := Q } (start N vs) H) : Pro P w K mg base (k + 1) C x sp := by
  obtain ⟨p, g, fd, hp, F, b⟩ := D
  exact ⟨p, g, fd, c, hp, F.ok S len (hbody g), b⟩
end
end VL

set_option Elab.async false
set_option linter.all false
set_option maxRecDepth 100000
set_option maxHeartbeats 4000000
namespace VL
open PySem PySem.Spec PyProof.Rows L2
/-! ### rules whose readings speak of K, with K told: within comprehensions and except suites -/
theorem u65 {A : Around} {k : Nat} (r : Room k A) : A.units + 65 < cLine := by have := r.un; omega
section
variable {X : Cx} {K : PySem.W.Frag} {e o : Expr} {f : Str} {pos : Pos} {ta : TE}
theorem pe_fldS (hK : X.K = K) (he : PE X e ta) (hb : attributeBase e f X.env (eval e X.env) = eval e X.env) : PE X (.Attribute e f pos) (tFld K ta f) := by subst hK; exact pe_fld he hb
theorem pe_conS (hK : X.K = K) (he : PE X e ta) (hb : attributeBase e f X.env (eval e X.env) = eval e X.env) : PE X (.Attribute e f pos) (tCon K ta f) := by subst hK; exact pe_con he hb
theorem pe_cvalS (hK : X.K = K) (he : PE X e ta) (hb : attributeBase e f X.env (eval e X.env) = eval e X.env := by rfl) : PE X (.Attribute e f pos) (ClX.tCVal K ta f) := by subst hK; exact ClX.pe_cval he hb
theorem ix_listS (hK : X.K = K) : IxR X (rIxL K) := by subst hK; exact ix_list
theorem ix_tupS (hK : X.K = K) : IxR X (rIxT K) := by subst hK; exact ix_tup
theorem sl_listS (hK : X.K = K) : SlR X (rSlL K) := by subst hK; exact sl_list
theorem sl_tupS (hK : X.K = K) : SlR X (rSlT K) := by subst hK; exact sl_tup
theorem op_in_seqS (hK : X.K = K) : OpR X (compareOp .In) (rIn K false) := by subst hK; exact op_in_seq
theorem op_notIn_seqS (hK : X.K = K) : OpR X (compareOp .NotIn) (rIn K true) := by subst hK; exact op_notIn_seq
theorem call_len_seqS (hK : X.K = K) : CallR X (.builtin "len") (fun xs H Q => ∃ p ys, xs = [.ref p] ∧ (SqL K H p ys ∨ SqT K H p ys) ∧ Q (.int ys.length) H) := by subst hK; exact call_len_seq
theorem call_list_ofS (hK : X.K = K) : CallR X (.type "list") (fun xs H Q => ∃ p ys, xs = [.ref p] ∧ (SqL K H p ys ∨ SqT K H p ys) ∧ ∀ l, H l = none → Q (.ref l) (upd H l (.lst ys))) := by subst hK; exact call_list_of
theorem call_isiS (hK : X.K = K) : CallR X (.builtin "isinstance") (rIsi K) := by subst hK; exact call_isi
theorem op_eqDS (hK : X.K = K) (hu : X.A.units + 64 < cLine) : OpR X (compareOp .Eq) (rEqD K) := by subst hK; exact op_eqD hu
theorem op_neDS (hK : X.K = K) (hu : X.A.units + 64 < cLine) : OpR X (compareOp .NotEq) (rNeD K) := by subst hK; exact op_neD hu
theorem cr_maxS (hK : X.K = K) (hc : X.calm = true) : CallR X (.builtin "max") (rMax K) := by subst hK; exact cr_max hc
theorem cr_minS (hK : X.K = K) (hc : X.calm = true) : CallR X (.builtin "min") (rMin K) := by subst hK; exact cr_min hc
theorem op_inDS (hK : X.K = K) (hu : X.A.units + 65 < cLine) : OpR X (compareOp .In) (rInD K) := by subst hK; exact op_inD hu
theorem pt_truthS (hK : X.K = K) (ha : PE X e ta) (he : ∀ whole, isTrue e X.env whole = (do let v ← whole; standAt e.pos; holding [v] (truthy v))) :
    PT X e (fun σ H Q => ta σ H fun x H' => ∃ k, TruV K x H' k ∧ Q k H') := by subst hK; exact pt_truth ha he
theorem pi_listS {tg : Expr} (hK : X.K = K) (hl : PE X e ta) : PI X tg e (iList K ta) := by subst hK; exact pi_list hl
theorem pi_tupS {tg : Expr} (hK : X.K = K) (hl : PE X e ta) : PI X tg e (iTup K ta) := by subst hK; exact pi_tup hl
theorem pg_tupS {es : List Expr} {k : Nat} {t : TGs} {n : Nat} (hK : X.K = K) (hc : X.calm = true) (h : PGs X es t)
    (hn : (assignEach es X.env).length = n := by rfl) (hst : (assignEach es X.env).findIdx? (·.1) = none := by rfl) : PG X (.Tuple es k pos) (gTup K n t) := by subst hK; exact pg_tup hc h hn hst
end
end VL

set_option Elab.async false
set_option linter.all false
set_option maxRecDepth 100000
set_option maxHeartbeats 4000000
namespace VL
open PySem PySem.Spec PyProof.Rows L2

/-! ### texts as lists of signs -/
abbrev TX (l : List Nat) : Str := ⟨l.toArray⟩
theorem TX_tl (l : List Nat) : (TX l).cps.toList = l := by simp
theorem TX_len (l : List Nat) : (TX l).length = l.length := by simp [Str.length]
theorem TX_cat (a b : List Nat) : TX a ++ TX b = TX (a ++ b) := SX.S_cat a b
theorem TX_inj {a b : List Nat} (h : TX a = TX b) : a = b := SX.S_inj h
theorem vstr_TX {a b : List Nat} : decide (V.str (TX a) = V.str (TX b)) = decide (a = b) := by
  by_cases e : a = b
  · subst e; simp
  · have : ¬ V.str (TX a) = V.str (TX b) := fun q => e (TX_inj (V.str.inj q))
    rw [decide_eq_false this, decide_eq_false e]
theorem one_eq {c d : Nat} : decide (V.str (TX [c]) = V.str (TX [d])) = decide (c = d) := by
  rw [vstr_TX]
  by_cases e : c = d
  · subst e; simp
  · simp [e]
/-- the sign at a place -/
theorem at_mid {pre r : List Nat} {c : Nat} {i : Int} (hi : i = (pre.length : Int)) : atI (TX (pre ++ c :: r)).cps.toList i = some c := by
  subst hi
  rw [TX_tl]
  unfold atI ixN
  rw [if_pos (by omega), if_pos (by simp; omega)]
  show (pre ++ c :: r)[(pre.length : Int).toNat]? = _
  rw [Int.toNat_natCast]
  simp
theorem getD_TX (l : List Nat) (v : Nat) : (TX l).cps.getD v 0 = l.getD v 0 := by
  simp only [Array.getD, List.getD_eq_getElem?_getD]
  by_cases h : v < l.length
  · rw [dif_pos (by simpa using h)]
    simp [h]
  · rw [dif_neg (by simpa using h), List.getElem?_eq_none (by omega)]
    rfl
theorem lt_one {c d : Nat} : ([c] < [d]) ↔ c < d := by
  constructor
  · intro h
    cases h with
    | rel h => exact h
    | cons h => cases h
  · intro h
    exact .rel h
/-- s.startswith(y, i) -/
theorem starts_at {pre R y : List Nat} {i : Int} (hi : i = (pre.length : Int)) : Txt.startswith3 (TX (pre ++ R)) (TX y) i = (R.take y.length == y) := by
  subst hi
  have e : fromIndex (TX (pre ++ R)).length (pre.length : Int) = pre.length := by
    unfold fromIndex
    rw [if_neg (by omega)]
    omega
  unfold Txt.startswith3
  rw [e, StrLaws.subAt_eq]
  have h1 : (TX (pre ++ R)).cps.toList.drop pre.length = R := by simp
  rw [h1, TX_len, TX_len]
  show (decide (pre.length + y.length ≤ (pre ++ R).length) && (R.take y.length == (TX y).cps.toList)) = _
  rw [TX_tl, List.length_append]
  by_cases h : y.length ≤ R.length
  · rw [decide_eq_true (by omega)]
    rfl
  · rw [decide_eq_false (by omega)]
    have : (R.take y.length == y) = false := by
      refine beq_eq_false_iff_ne.mpr fun q => h ?_
      have := congrArg List.length q
      rw [List.length_take] at this
      omega
    rw [this]
    rfl
/-- s.find("\n", i) -/
theorem find_nl {pre c r : List Nat} {d : Nat} {i : Int} (hi : i = (pre.length : Int)) (hc : d ∉ c) : Txt.find3 (TX (pre ++ (c ++ d :: r))) (TX [d]) i = ((pre.length + c.length : Nat) : Int) := by
  subst hi
  have e : fromIndex (TX (pre ++ (c ++ d :: r))).length (pre.length : Int) = pre.length := by
    unfold fromIndex
    rw [if_neg (by omega)]
    omega
  have hg : ∀ v, v < (pre ++ (c ++ d :: r)).length → (TX (pre ++ (c ++ d :: r))).cps.getD v 0 = (pre ++ (c ++ d :: r)).getD v 0 := fun v _ => getD_TX _ v
  have hat : (pre ++ (c ++ d :: r)).getD (pre.length + c.length) 0 = d := by simp [List.getD_eq_getElem?_getD]
  have hlt : pre.length + c.length < (pre ++ (c ++ d :: r)).length := by rw [List.length_append, List.length_append, List.length_cons]; omega
  rcases StrLaws.find3_spec (TX (pre ++ (c ++ d :: r))) d (pre.length : Int) with ⟨_, h2⟩ | ⟨k, h1, h2, h3, h4, h5⟩
  · rw [e, TX_len] at h2
    exact absurd (by rw [hg _ hlt]; exact hat) (h2 (pre.length + c.length) (by omega) hlt)
  · rw [e] at h2 h5
    rw [TX_len] at h3
    rw [h1]
    have hk : k = pre.length + c.length := by
      rcases Nat.lt_trichotomy k (pre.length + c.length) with q | q | q
      · exfalso
        rw [hg k h3] at h4
        have e3 : (pre ++ (c ++ d :: r)).getD k 0 = c.getD (k - pre.length) 0 := by
          rw [List.getD_eq_getElem?_getD, List.getD_eq_getElem?_getD, List.getElem?_append_right h2, List.getElem?_append_left (by omega)]
        rw [e3] at h4
        apply hc
        have hlt2 : k - pre.length < c.length := by omega
        rw [List.getD_eq_getElem?_getD, List.getElem?_eq_getElem hlt2] at h4
        have h4 : c[k - pre.length] = d := h4
        rw [← h4]
        exact List.getElem_mem hlt2
      · exact q
      · exfalso
        exact h5 (pre.length + c.length) (by omega) q (by rw [hg _ hlt]; exact hat)
    rw [hk]
/-- s[i:j] -/
theorem cut_mid {pre m r : List Nat} {i j : Int} (hi : i = (pre.length : Int)) (hj : j = ((pre.length + m.length : Nat) : Int)) : cutS (TX (pre ++ (m ++ r))) (some i) (some j) = TX m := by
  subst hi hj
  unfold cutS
  rw [TX_len, HT.sIx_nat, HT.sIx_nat, TX_tl]
  have e1 : min pre.length (pre ++ (m ++ r)).length = pre.length := by simp
  have e2 : min (pre.length + m.length) (pre ++ (m ++ r)).length = pre.length + m.length := by simp
  rw [e1, e2]
  refine congrArg TX ?_
  rw [List.drop_left, Nat.add_sub_cancel_left, List.take_left]

/-! ### rows -/
def rws : List Nat → List Nat → List (List Nat)
  | acc, [] => [acc]
  | acc, c :: r => if c = 10 then acc :: rws [] r else rws (acc ++ [c]) r
theorem spl_rws : ∀ (l acc : List Nat), TL.spl [10] 0 acc l = rws acc l
  | [], acc => by rw [TL.spl_nil]; rfl
  | c :: r, acc => by
    unfold rws
    by_cases h : c = 10
    · subst h
      rw [if_pos rfl, TL.spl_hit (by rfl)]
      exact congrArg (acc :: ·) (spl_rws r [])
    · rw [if_neg h, TL.spl_miss (by
        show TL.pre [10] (c :: r) = false
        unfold TL.pre
        simp [h])]
      exact spl_rws r _
theorem rws_ne : ∀ (l acc : List Nat), rws acc l ≠ []
  | [], acc => by unfold rws; simp
  | c :: r, acc => by
    unfold rws
    split
    · simp
    · exact rws_ne r _
def lnOf (l : List Nat) : Nat := (rws [] l).length
def clOf (l : List Nat) : Nat := ((rws [] l).getLast (rws_ne _ _)).length
theorem rws_plain : ∀ (l acc m : List Nat), 10 ∉ m → ∃ fr la, rws acc l = fr ++ [la] ∧ rws acc (l ++ m) = fr ++ [la ++ m]
  | [], acc, m, h => by
    refine ⟨[], acc, rfl, ?_⟩
    show rws acc m = [acc ++ m]
    induction m generalizing acc with
    | nil => rw [List.append_nil]; rfl
    | cons c m ih =>
      have hc : c ≠ 10 := fun e => h (by rw [e]; exact List.mem_cons_self)
      unfold rws
      rw [if_neg hc, ih _ fun e => h (List.mem_cons_of_mem _ e), List.append_assoc]
      rfl
  | c :: r, acc, m, h => by
    rw [List.cons_append]
    unfold rws
    by_cases hc : c = 10
    · rw [if_pos hc, if_pos hc]
      obtain ⟨fr, la, e1, e2⟩ := rws_plain r [] m h
      exact ⟨acc :: fr, la, by rw [e1]; rfl, by rw [e2]; rfl⟩
    · rw [if_neg hc, if_neg hc]
      exact rws_plain r _ m h
theorem rws_nl : ∀ (l acc : List Nat), rws acc (l ++ [10]) = rws acc l ++ [[]]
  | [], acc => by
    show rws acc [10] = [acc] ++ [[]]
    unfold rws
    rw [if_pos rfl]
    rfl
  | c :: r, acc => by
    rw [List.cons_append]
    unfold rws
    split
    · rw [rws_nl r []]; rfl
    · exact rws_nl r _
theorem getLast_of {α : Type} {l fr : List α} {la : α} (h : l ≠ []) (e : l = fr ++ [la]) : l.getLast h = la := by
  subst e
  simp
theorem ln_plain (l m : List Nat) (h : 10 ∉ m) : lnOf (l ++ m) = lnOf l := by
  obtain ⟨fr, la, e1, e2⟩ := rws_plain l [] m h
  unfold lnOf
  rw [e1, e2]
  simp
theorem cl_plain (l m : List Nat) (h : 10 ∉ m) : clOf (l ++ m) = clOf l + m.length := by
  obtain ⟨fr, la, e1, e2⟩ := rws_plain l [] m h
  unfold clOf
  rw [getLast_of _ e1, getLast_of _ e2, List.length_append]
theorem ln_nl (l : List Nat) : lnOf (l ++ [10]) = lnOf l + 1 := by
  unfold lnOf
  rw [rws_nl]
  simp
theorem cl_nl (l : List Nat) : clOf (l ++ [10]) = 0 := by
  unfold clOf
  rw [getLast_of _ (rws_nl l [])]
  rfl
theorem cl_le : ∀ l : List Nat, clOf l ≤ l.length := by
  intro l
  have : ∀ (l acc : List Nat), ((rws acc l).getLast (rws_ne _ _)).length ≤ acc.length + l.length := by
    intro l
    induction l with
    | nil => intro acc; simp [rws]
    | cons c r ih =>
      intro acc
      by_cases hc : c = 10
      · have e : rws acc (c :: r) = acc :: rws [] r := by
          show (if c = 10 then _ else _) = _
          rw [if_pos hc]
        have e2 : (rws acc (c :: r)).getLast (rws_ne _ _) = (rws [] r).getLast (rws_ne _ _) := by
          simp only [e]
          exact List.getLast_cons (rws_ne _ _)
        rw [e2]
        have := ih []
        simp at this ⊢
        omega
      · have e : rws acc (c :: r) = rws (acc ++ [c]) r := by
          show (if c = 10 then _ else _) = _
          rw [if_neg hc]
        have e2 : (rws acc (c :: r)).getLast (rws_ne _ _) = (rws (acc ++ [c]) r).getLast (rws_ne _ _) := by simp only [e]
        rw [e2]
        have := ih (acc ++ [c])
        simp at this ⊢
        omega
  have := this l []
  simpa [clOf] using this
/-- row = source.split("\n"): how many, and the last one's length -/
theorem split_rows (l : List Nat) : Txt.split (TX l) (TX [10]) = (rws [] l).map TX := by
  have := SX.split_S (a := l) (b := [10]) (by simp) (by decide)
  rw [spl_rws] at this
  exact this
theorem rows_last (l : List Nat) : ∃ la : List Nat, atI ((rws [] l).map fun r => V.str (TX r)) (-1) = some (.str (TX la)) ∧ la.length = clOf l := by
  refine ⟨(rws [] l).getLast (rws_ne _ _), ?_, rfl⟩
  have hp : 0 < (rws [] l).length := List.length_pos_iff.mpr (rws_ne _ _)
  unfold atI ixN
  rw [if_neg (by decide), if_pos (by rw [List.length_map]; omega)]
  show ((rws [] l).map fun r => V.str (TX r))[_]? = _
  have e : (-1 + (((rws [] l).map fun r => V.str (TX r)).length : Int)).toNat = (rws [] l).length - 1 := by rw [List.length_map]; omega
  rw [e, List.getElem?_map, List.getElem?_eq_getElem (by omega), List.getLast_eq_getElem]
  rfl

/-! ### signs -/
def isLet (c : Nat) : Bool := (decide (97 ≤ c) && decide (c ≤ 122)) || (decide (65 ≤ c) && decide (c ≤ 90))
def isDig (c : Nat) : Bool := decide (48 ≤ c) && decide (c ≤ 57)
def isWs (c : Nat) : Bool := isLet c || isDig c || decide (c = 95)
end VL

set_option Elab.async false
set_option linter.all false
set_option maxRecDepth 100000
set_option maxHeartbeats 4000000
namespace VL
open PySem PySem.Spec PyProof.Rows L2

def top (i : Nat) : Stmt := PySem.Challenge.pw_viewloom_k60_hearers_in_order.main.body.getD i (.Pass ⟨0, 0, 0, 0⟩)
abbrev s__wall : Stmt := top 0
abbrev s_Schedule___init__ : Stmt := inClass (top 2) 6
abbrev s_Schedule_pending : Stmt := inClass (top 2) 7
abbrev s_Schedule_done : Stmt := inClass (top 2) 8
abbrev s_Schedule___contains__ : Stmt := inClass (top 2) 9
abbrev s_Schedule_wake : Stmt := inClass (top 2) 10
abbrev s_Schedule_is_overdue : Stmt := inClass (top 2) 11
abbrev s_Schedule_next_pass : Stmt := inClass (top 2) 12
abbrev s_Schedule_portion : Stmt := inClass (top 2) 13
abbrev s_Schedule_give_up : Stmt := inClass (top 2) 14
abbrev s_Schedule_end : Stmt := inClass (top 2) 15
abbrev s_Schedule_clear : Stmt := inClass (top 2) 16
abbrev s_copy_of : Stmt := top 4
abbrev s_hearers : Stmt := top 9
abbrev s_acts_for : Stmt := top 10
abbrev s_lane_of : Stmt := top 11
abbrev s_can_prevent : Stmt := top 12
abbrev s__law_rows : Stmt := top 14
abbrev s_law : Stmt := top 15
abbrev t_SYNC_EVENTS : List V := [(V.str "click"), (V.str "input"), (V.str "change"), (V.str "keydown"), (V.str "keyup")]
abbrev t_EVENTS_TO_THE_END : List V := [(V.str "input"), (V.str "change")]
abbrev t_Schedule_PATIENCE : List V := [(V.int 0), (V.int 5000), (V.int 10000), (V.int 60000)]
abbrev t_Schedule_NAMES : List V := [(V.str "sync"), (V.str "usual"), (V.str "transition"), (V.str "idle")]
structure Ad where
  u0 : Unit
  Schedule : Addr
structure Txt (K : PySem.W.Frag) (w : World) (mg : Str → Option Value) (C : Ad) : Prop where
  g_Schedule : GV mg "Schedule" (.ref C.Schedule)
  cl_Schedule : Cls K C.Schedule
  n_Schedule_ticks : NoAttr K C.Schedule "ticks"
  n_Schedule_portions : NoAttr K C.Schedule "portions"
  rd_Schedule : ClX.CRead K C.Schedule (.type "type")
  cc_Schedule_SYNC : ∃ u, ClX.CVal K C.Schedule (.type "type") "SYNC" (V.int 0) u ∧ Con K C.Schedule "SYNC" (V.int 0) u
  cc_Schedule_USUAL : ∃ u, ClX.CVal K C.Schedule (.type "type") "USUAL" (V.int 1) u ∧ Con K C.Schedule "USUAL" (V.int 1) u
  cc_Schedule_TRANSITION : ∃ u, ClX.CVal K C.Schedule (.type "type") "TRANSITION" (V.int 2) u ∧ Con K C.Schedule "TRANSITION" (V.int 2) u
  cc_Schedule_IDLE : ∃ u, ClX.CVal K C.Schedule (.type "type") "IDLE" (V.int 3) u ∧ Con K C.Schedule "IDLE" (V.int 3) u
  cc_Schedule_PATIENCE : ∃ a u, ClX.CVal K C.Schedule (.type "type") "PATIENCE" (.ref a) u ∧ Con K C.Schedule "PATIENCE" (.ref a) u ∧ (∀ H, SqT K H a t_Schedule_PATIENCE) ∧ WrT K a t_Schedule_PATIENCE
  cc_Schedule_NAMES : ∃ a u, ClX.CVal K C.Schedule (.type "type") "NAMES" (.ref a) u ∧ Con K C.Schedule "NAMES" (.ref a) u ∧ (∀ H, SqT K H a t_Schedule_NAMES) ∧ WrT K a t_Schedule_NAMES
  z_bool : mg "bool" = none
  z_dict : mg "dict" = none
  z_int : mg "int" = none
  z_isinstance : mg "isinstance" = none
  z_len : mg "len" = none
  z_list : mg "list" = none
  z_range : mg "range" = none
  z_repr : mg "repr" = none
  z_reversed : mg "reversed" = none
  z_str : mg "str" = none
  z_tuple : mg "tuple" = none
  g_SYNC_EVENTS : ∃ a, GV mg "SYNC_EVENTS" (.ref a) ∧ (∀ H, SqT K H a t_SYNC_EVENTS) ∧ WrT K a t_SYNC_EVENTS
  g_EVENTS_TO_THE_END : ∃ a, GV mg "EVENTS_TO_THE_END" (.ref a) ∧ (∀ H, SqT K H a t_EVENTS_TO_THE_END) ∧ WrT K a t_EVENTS_TO_THE_END
  g_ON_THE_WAY_DOWN : GV mg "ON_THE_WAY_DOWN" (V.str "_down")
  d_copy_of : DefE K mg "copy_of" s_copy_of ["value"]
  d_hearers : DefE K mg "hearers" s_hearers ["acts", "path", "event"]
  d_acts_for : DefE K mg "acts_for" s_acts_for ["pairs", "word"]
  d_lane_of : DefE K mg "lane_of" s_lane_of ["event"]
  d_can_prevent : DefE K mg "can_prevent" s_can_prevent ["event"]
  d__law_rows : DefE K mg "_law_rows" s__law_rows ["script", "count"]
end VL

set_option Elab.async false
set_option linter.all false
set_option maxRecDepth 100000
set_option maxHeartbeats 4000000
namespace VL
open PySem PySem.Spec PyProof.Rows L2
theorem Sm.new {t : Addr} {o : HO} {H : Hp} (h : H t = none) : Same H (upd H t o) := fun b u e => by rw [upd_ne (ne_of_none e h)]; exact e
theorem Same.tr {H H1 H2 : Hp} (a : Same H H1) (b : Same H1 H2) : Same H H2 := fun x o e => b _ _ (a _ _ e)
theorem Same.rf {H : Hp} : Same H H := fun _ _ e => e
theorem paired_sn {α β : Type} {G : α → β → Prop} {a : α} {b : β} (h : G a b) : ∀ {l₁ : List α} {l₂ : List β}, Paired G l₁ l₂ → Paired G (l₁ ++ [a]) (l₂ ++ [b])
  | _, _, .nil => .cons h .nil
  | _, _, .cons g p => .cons g (paired_sn h p)
theorem paired_ap {α β : Type} {G : α → β → Prop} : ∀ {l₁ m₁ : List α} {l₂ m₂ : List β}, Paired G l₁ l₂ → Paired G m₁ m₂ → Paired G (l₁ ++ m₁) (l₂ ++ m₂)
  | _, _, _, _, .nil, q => q
  | _, _, _, _, .cons g p, q => .cons g (paired_ap p q)
theorem paired_ln {α β : Type} {G : α → β → Prop} : ∀ {l₁ : List α} {l₂ : List β}, Paired G l₁ l₂ → l₁.length = l₂.length
  | _, _, .nil => rfl
  | _, _, .cons _ p => by simp [paired_ln p]
theorem paired_mp {α β : Type} {F G : α → β → Prop} (h : ∀ a b, F a b → G a b) : ∀ {l₁ : List α} {l₂ : List β}, Paired F l₁ l₂ → Paired G l₁ l₂
  | _, _, .nil => .nil
  | _, _, .cons g p => .cons (h _ _ g) (paired_mp h p)
theorem paired_gt {α β : Type} {G : α → β → Prop} : ∀ {l₁ : List α} {l₂ : List β}, Paired G l₁ l₂ → ∀ {i : Nat} {a : α}, l₁[i]? = some a → ∃ b, l₂[i]? = some b ∧ G a b
  | _, _, .nil, i, a, h => by simp at h
  | _, _, .cons g p, 0, a, h => by
    simp at h
    subst h
    exact ⟨_, rfl, g⟩
  | _, _, .cons g p, i + 1, a, h => by
    simp at h
    obtain ⟨b, h1, h2⟩ := paired_gt p h
    exact ⟨b, by simpa using h1, h2⟩
theorem take_s {α : Type} {l : List α} {i : Nat} {a : α} (h : l[i]? = some a) : l.take (i + 1) = l.take i ++ [a] := by
  rw [List.take_add_one, h]
  rfl
/-- what an act is of: the id, its handler's word, its number -/
structure Ac where
  n : Int
  h : Str
  j : Int
structure En where
  w : Str
  a : Ac
abbrev Tab := List (Int × List En)
def ActA (H : Hp) (p : Addr) (a : Ac) : Prop := ∃ g, H p = some (.tup [.str "act", .int a.n, .str a.h, .ref g]) ∧ H g = some (.lst [.int a.j])
def EntA (H : Hp) (p : Addr) (e : En) : Prop := ∃ q, H p = some (.tup [.str e.w, .ref q]) ∧ ActA H q e.a
def EnsA (H : Hp) (p : Addr) (es : List En) : Prop := ∃ ps : List Addr, H p = some (.lst (ps.map V.ref)) ∧ Paired (EntA H) ps es
def RowA (H : Hp) (k : Key × V) (r : Int × List En) : Prop := k.1 = .inl r.1 ∧ ∃ p, k.2 = .ref p ∧ EnsA H p r.2
def TabA (H : Hp) (d : Addr) (As : Tab) : Prop := ∃ ks : List (Key × V), H d = some (.dK ks) ∧ Paired (RowA H) ks As
def AcsA (H : Hp) (p : Addr) (as : List Ac) : Prop := ∃ ps : List Addr, H p = some (.lst (ps.map V.ref)) ∧ Paired (ActA H) ps as
theorem ActA.same {H H' : Hp} {p : Addr} {a : Ac} (h : ActA H p a) (s : Same H H') : ActA H' p a := by
  obtain ⟨g, h1, h2⟩ := h
  exact ⟨g, s _ _ h1, s _ _ h2⟩
theorem EntA.same {H H' : Hp} {p : Addr} {a : En} (h : EntA H p a) (s : Same H H') : EntA H' p a := by
  obtain ⟨g, h1, h2⟩ := h
  exact ⟨g, s _ _ h1, h2.same s⟩
theorem EnsA.same {H H' : Hp} {p : Addr} {a : List En} (h : EnsA H p a) (s : Same H H') : EnsA H' p a := by
  obtain ⟨g, h1, h2⟩ := h
  exact ⟨g, s _ _ h1, paired_mp (fun _ _ x => x.same s) h2⟩
theorem RowA.same {H H' : Hp} {k : Key × V} {r : Int × List En} (h : RowA H k r) (s : Same H H') : RowA H' k r := by
  obtain ⟨h0, p, h1, h2⟩ := h
  exact ⟨h0, p, h1, h2.same s⟩
theorem TabA.same {H H' : Hp} {d : Addr} {As : Tab} (h : TabA H d As) (s : Same H H') : TabA H' d As := by
  obtain ⟨g, h1, h2⟩ := h
  exact ⟨g, s _ _ h1, paired_mp (fun _ _ x => x.same s) h2⟩
/-- what stands for a number -/
def getE : Tab → Int → Option (List En)
  | [], _ => none
  | r :: As, n => if r.1 = n then some r.2 else getE As n
theorem getE_at {H : Hp} {n : Int} : ∀ {ks : List (Key × V)} {As : Tab}, Paired (RowA H) ks As → (getE As n = none ∧ valV ks (.inl n) = none) ∨ ∃ es p, getE As n = some es ∧ valV ks (.inl n) = some (.ref p) ∧ EnsA H p es
  | _, _, .nil => .inl ⟨rfl, rfl⟩
  | _, _, .cons (a := k) (b := r) (l₁ := ks) (l₂ := As) g p => by
    obtain ⟨g0, q, g1, g2⟩ := g
    by_cases e : r.1 = n
    · refine .inr ⟨r.2, q, ?_, ?_, g2⟩
      · show (if r.1 = n then some r.2 else getE As n) = _
        rw [if_pos e]
      · rw [valV_pos (by rw [g0, e]), g1]
    · have e1 : getE (r :: As) n = getE As n := by
        show (if r.1 = n then some r.2 else getE As n) = _
        rw [if_neg e]
      have e2 : valV (k :: ks) (.inl n) = valV ks (.inl n) := valV_neg (by rw [g0]; exact fun z => e (Sum.inl.inj z))
      rw [e1, e2]
      exact getE_at p
def selA (es : List En) (w : Str) : List Ac := (es.filter fun e => decide (e.w = w)).map (·.a)
def therE (As : Tab) (path : List Int) : List Int := path.filter fun n => (getE As n).isSome
def foldA (As : Tab) (ns : List Int) (w : Str) : List Ac := ns.flatMap fun n => selA ((getE As n).getD []) w
def hearL (As : Tab) (path : List Int) (ev : Str) : List Ac := foldA As (therE As path).reverse (ev ++ "_down") ++ foldA As (therE As path) ev
theorem fold_there (As : Tab) (w : Str) : ∀ path : List Int, foldA As (therE As path) w = foldA As path w
  | [] => rfl
  | n :: path => by
    have ih := fold_there As w path
    unfold foldA therE at ih ⊢
    cases e : getE As n with
    | none => rw [List.filter_cons_of_neg (by rw [e]; simp), ih, List.flatMap_cons, e]; rfl
    | some es => rw [List.filter_cons_of_pos (by rw [e]; rfl), List.flatMap_cons, List.flatMap_cons, ih]
theorem there_rev (As : Tab) (path : List Int) : (therE As path).reverse = therE As path.reverse := by
  unfold therE
  rw [List.filter_reverse]
theorem hear_eq (As : Tab) (path : List Int) (ev : Str) : hearL As path ev = foldA As path.reverse (ev ++ "_down") ++ foldA As path ev := by
  unfold hearL
  rw [there_rev, fold_there, fold_there]
/-- few entries in each row -/
def Few (As : Tab) : Prop := ∀ r ∈ As, r.2.length ≤ 4
theorem few_get {As : Tab} (h : Few As) {n : Int} {es : List En} (e : getE As n = some es) : es.length ≤ 4 := by
  induction As with
  | nil => exact nomatch (show (none : Option (List En)) = some es from e)
  | cons r As ih =>
    have e' : (if r.1 = n then some r.2 else getE As n) = some es := e
    by_cases q : r.1 = n
    · rw [if_pos q] at e'
      cases e'
      exact h r List.mem_cons_self
    · rw [if_neg q] at e'
      exact ih (fun x hx => h x (List.mem_cons_of_mem _ hx)) e'
theorem sel_len (es : List En) (w : Str) : (selA es w).length ≤ es.length := by
  unfold selA
  rw [List.length_map]
  exact List.length_filter_le _ _
def spFalse : Sp := fun _ _ _ _ => False
def spCopyI (K : PySem.W.Frag) : Sp := fun vs H Q _ => ∃ (a : Addr) (j : Int), vs = [.ref a] ∧ H a = some (.lst [.int j]) ∧ ∀ p H', Same H H' → H p = none → H' p = some (.lst [.int j]) → Q (.ref p) H'
def spCopyA : Sp := fun vs H Q _ => ∃ (p : Addr) (a : Ac), vs = [.ref p] ∧ ActA H p a ∧ ∀ q H', Same H H' → H q = none → ActA H' q a → Q (.ref q) H'
def spFor : Sp := fun vs H Q _ => ∃ (p : Addr) (es : List En) (w : Str), vs = [.ref p, .str w] ∧ EnsA H p es ∧ es.length ≤ 4 ∧ ∀ q H', Same H H' → H q = none → AcsA H' q (selA es w) → Q (.ref q) H'
def spHear : Sp := fun vs H Q _ => ∃ (d pl : Addr) (As : Tab) (path : List Int) (ev : Str), vs = [.ref d, .ref pl, .str ev] ∧ TabA H d As ∧ Few As ∧ H pl = some (.lst (path.map V.int)) ∧ path.length ≤ 8 ∧ ev.length ≤ 100 ∧
  ∀ q H', Same H H' → H q = none → AcsA H' q (hearL As path ev) → Q (.ref q) H'
def spLane : Sp := fun vs H Q _ => ∃ ev : Str, vs = [.str ev] ∧ Q (.int (if ev ∈ [("click" : Str), "input", "change", "keydown", "keyup"] then 0 else 1)) H
def spPrev : Sp := fun vs H Q _ => ∃ ev : Str, vs = [.str ev] ∧ Q (.bl (!decide (ev ∈ [("input" : Str), "change"]))) H
def spRows (K : PySem.W.Frag) : Sp := fun vs H Q _ => ∃ (s : Addr) (ns : List Int) (m : Nat), vs = [.ref s, .int m] ∧ SqL K H s (ns.map V.int) ∧ ns.length ≤ 63 ∧ m ≤ 100 ∧ ∀ r (zs : List Int) H', Same H H' → H r = none → H' r = some (.lst (zs.map V.int)) → zs.length = m → Q (.ref r) H'
section
variable {P : Program} {w : World} {K : PySem.W.Frag} {mg : Str → Option Value} {base : Heap} {C : Ad}
theorem sc_copy_of : FnScope ["value", "part", "name"] ["value"] (defScope s_copy_of) := ⟨rfl, rfl, rfl, by decide +kernel, rfl, by decide +kernel, by decide +kernel⟩
theorem ok_copyI (T : Txt K w mg C) : Cal P w K mg base 2 "copy_of" (spCopyI K) := by
  have Gcopy_of : Cal P w K mg base 1 "copy_of" spFalse := cal_of T.d_copy_of sc_copy_of (fun vs H Q E h => h.elim) (fun f cdv A outer s H vs Q E hr h => h.elim)
  refine cal_of T.d_copy_of sc_copy_of (fun vs H Q E h => ?_) (fun f cdv A outer s H vs Q E hr h => ?_)
  · obtain ⟨a, j, rfl, _⟩ := h
    rfl
  · obtain ⟨a, j, rfl, ha, k⟩ := h
    have hu := hu_of hr
    refine ⟨_, (pss_cons (ps_if (pt_val (pe_callB call_isi (by rfl) T.z_isinstance (by decide +kernel) (pa_cons (pv 0) (pa_cons (pe_bltn (v := .ty "list") (by rfl) T.z_list (by decide +kernel) rfl) pa_nil)))) (pss_one (ps_ret (pe_lc (own := [("part", 1)]) (g := gName 1) (tt := tYes) rfl sc_copy_of.nd (pi_list (pv 0)) (blkOk_by (N := ["value", "part", "name"]) (sc := (defScope s_copy_of)) (by decide +kernel)) (fun _ _ _ _ _ => pg_name (i := 1) sc_copy_of.nd rfl (Or.inl rfl)) (fun _ _ _ _ _ => pts_nil) (fun _ _ _ _ _ => (pe_ifExp (PW.pt (pw_or (pt_val (pe_callB (call_isiS (K := K) rfl) (by rfl) T.z_isinstance (by decide +kernel) (pa_cons (pv 1) (pa_cons (pe_bltn (v := .ty "int") (by rfl) T.z_int (by decide +kernel) rfl) pa_nil)))) (pw_or (pt_val (pe_callB (call_isiS (K := K) rfl) (by rfl) T.z_isinstance (by decide +kernel) (pa_cons (pv 1) (pa_cons (pe_bltn (v := .ty "str") (by rfl) T.z_str (by decide +kernel) rfl) pa_nil)))) (pw_or1 (pt_cmp (pc_isN (pv 1))))))) (pv 1) (pe_c Gcopy_of hr (by decide) (by rfl) (pa_cons (pv 1) pa_nil))))))) pss_nil) (pss_cons (ps_if (pt_val (pe_callB call_isi (by rfl) T.z_isinstance (by decide +kernel) (pa_cons (pv 0) (pa_cons (pe_bltn (v := .ty "dict") (by rfl) T.z_dict (by decide +kernel) rfl) pa_nil)))) (pss_one (ps_ret (pe_dc (own := [("name", 2)]) (g := gName 2) (tt := tYes) rfl sc_copy_of.nd (pi_list (pv 0)) (blkOk_by (N := ["value", "part", "name"]) (sc := (defScope s_copy_of)) (by decide +kernel)) (fun _ _ _ _ _ => pg_name (i := 2) sc_copy_of.nd rfl (Or.inl rfl)) (fun _ _ _ _ _ => pts_nil) (fun _ _ _ _ _ => (pv 2)) (fun _ _ _ _ _ => (pe_c Gcopy_of hr (by decide) (by rfl) (pa_cons (pe_ix (ix_listS (K := K) rfl) (pv 0) (pv 2) (fun _ _ => rfl)) pa_nil)))))) pss_nil) (pss_cons (ps_if (pt_val (pe_callB call_isi (by rfl) T.z_isinstance (by decide +kernel) (pa_cons (pv 0) (pa_cons (pe_bltn (v := .ty "tuple") (by rfl) T.z_tuple (by decide +kernel) rfl) pa_nil)))) (pss_one (ps_ret (pe_tup (pa_cons (pe_ix ix_tup (pv 0) pe_int (fun _ _ => rfl)) (pa_cons (pe_ix ix_tup (pv 0) pe_int (fun _ _ => rfl)) (pa_cons (pe_ix ix_tup (pv 0) pe_int (fun _ _ => rfl)) (pa_cons (pe_c Gcopy_of hr (by decide) (by rfl) (pa_cons (pe_ix ix_tup (pv 0) pe_int (fun _ _ => rfl)) pa_nil)) pa_nil))))))) pss_nil) (pss_one (ps_ret (pv 0)))))), ?_⟩
    refine ⟨_, rfl, .ref a, .ty "list", _, _, true, rfl, .ty _, .base (.lst ha), kit_ty (by decide +kernel), true, rfl, ?_⟩
    refine iteT ?_
    refine ⟨_, rfl, a, rfl, ⟨_, SqL.of ha⟩, fun D hD => ?_⟩
    have hDa : a ≠ D := ne_of_none ha hD
    refine lc_it (walk_list (K := K) (a := a) (xs := [.int j])) (fun i H' => Same H H' ∧ H' D = some (.lst ([V.int j].take i))) ⟨Sm.new hD, upd_same⟩ (fun i H' _ z => SqL.of (z.1 _ _ ha)) ?_ ?_
    · rintro i x H1 H2 hi ⟨s1, h1⟩ ⟨rfl, hx⟩
      have x0 : i = 0 ∧ x = .int j := by
        have i0 : i = 0 := by
          have : ([V.int j] : List V).length = 1 := rfl
          omega
        subst i0
        exact ⟨rfl, (Option.some.inj hx).symm⟩
      obtain ⟨rfl, rfl⟩ := x0
      refine ⟨rfl, ?_⟩
      refine ⟨_, rfl, .int j, .ty "int", _, _, true, rfl, .ty _, .base (.int j), kit_ty (by decide +kernel), true, rfl, ?_⟩
      refine iteT ?_
      refine iteT ?_
      refine ⟨_, rfl, _, h1, (by show 0 < sizeLine; decide), fun c o e => ?_, upd_same⟩
      rw [upd_ne (ne_of_none e hD)]
      exact s1 _ _ e
    · rintro H1 ⟨s1, h1⟩
      exact k D H1 s1 hD h1
theorem ok_copyA (T : Txt K w mg C) : Cal P w K mg base 3 "copy_of" spCopyA := by
  have Gcopy_of : Cal P w K mg base 2 "copy_of" (spCopyI K) := ok_copyI T
  refine cal_of T.d_copy_of sc_copy_of (fun vs H Q E h => ?_) (fun f cdv A outer s H vs Q E hr h => ?_)
  · obtain ⟨a, j, rfl, _⟩ := h
    rfl
  · obtain ⟨p, a, rfl, ⟨g, hp, hg⟩, k⟩ := h
    have hu := hu_of hr
    refine ⟨_, (pss_cons (ps_if (pt_val (pe_callB call_isi (by rfl) T.z_isinstance (by decide +kernel) (pa_cons (pv 0) (pa_cons (pe_bltn (v := .ty "list") (by rfl) T.z_list (by decide +kernel) rfl) pa_nil)))) (pss_one (ps_ret (pe_lc (own := [("part", 1)]) (g := gName 1) (tt := tYes) rfl sc_copy_of.nd (pi_list (pv 0)) (blkOk_by (N := ["value", "part", "name"]) (sc := (defScope s_copy_of)) (by decide +kernel)) (fun _ _ _ _ _ => pg_name (i := 1) sc_copy_of.nd rfl (Or.inl rfl)) (fun _ _ _ _ _ => pts_nil) (fun _ _ _ _ _ => (pe_ifExp (PW.pt (pw_or (pt_val (pe_callB (call_isiS (K := K) rfl) (by rfl) T.z_isinstance (by decide +kernel) (pa_cons (pv 1) (pa_cons (pe_bltn (v := .ty "int") (by rfl) T.z_int (by decide +kernel) rfl) pa_nil)))) (pw_or (pt_val (pe_callB (call_isiS (K := K) rfl) (by rfl) T.z_isinstance (by decide +kernel) (pa_cons (pv 1) (pa_cons (pe_bltn (v := .ty "str") (by rfl) T.z_str (by decide +kernel) rfl) pa_nil)))) (pw_or1 (pt_cmp (pc_isN (pv 1))))))) (pv 1) (pe_c Gcopy_of hr (by decide) (by rfl) (pa_cons (pv 1) pa_nil))))))) pss_nil) (pss_cons (ps_if (pt_val (pe_callB call_isi (by rfl) T.z_isinstance (by decide +kernel) (pa_cons (pv 0) (pa_cons (pe_bltn (v := .ty "dict") (by rfl) T.z_dict (by decide +kernel) rfl) pa_nil)))) (pss_one (ps_ret (pe_dc (own := [("name", 2)]) (g := gName 2) (tt := tYes) rfl sc_copy_of.nd (pi_list (pv 0)) (blkOk_by (N := ["value", "part", "name"]) (sc := (defScope s_copy_of)) (by decide +kernel)) (fun _ _ _ _ _ => pg_name (i := 2) sc_copy_of.nd rfl (Or.inl rfl)) (fun _ _ _ _ _ => pts_nil) (fun _ _ _ _ _ => (pv 2)) (fun _ _ _ _ _ => (pe_c Gcopy_of hr (by decide) (by rfl) (pa_cons (pe_ix (ix_listS (K := K) rfl) (pv 0) (pv 2) (fun _ _ => rfl)) pa_nil)))))) pss_nil) (pss_cons (ps_if (pt_val (pe_callB call_isi (by rfl) T.z_isinstance (by decide +kernel) (pa_cons (pv 0) (pa_cons (pe_bltn (v := .ty "tuple") (by rfl) T.z_tuple (by decide +kernel) rfl) pa_nil)))) (pss_one (ps_ret (pe_tup (pa_cons (pe_ix ix_tup (pv 0) pe_int (fun _ _ => rfl)) (pa_cons (pe_ix ix_tup (pv 0) pe_int (fun _ _ => rfl)) (pa_cons (pe_ix ix_tup (pv 0) pe_int (fun _ _ => rfl)) (pa_cons (pe_c Gcopy_of hr (by decide) (by rfl) (pa_cons (pe_ix ix_tup (pv 0) pe_int (fun _ _ => rfl)) pa_nil)) pa_nil))))))) pss_nil) (pss_one (ps_ret (pv 0)))))), ?_⟩
    refine ⟨_, rfl, .ref p, .ty "list", _, _, false, rfl, .ty _, .base (.tup hp), kit_ty (by decide +kernel), false, rfl, ?_⟩
    refine iteF ?_
    refine ⟨_, rfl, .ref p, .ty "dict", _, _, false, rfl, .ty _, .base (.tup hp), kit_ty (by decide +kernel), false, rfl, ?_⟩
    refine iteF ?_
    refine ⟨_, rfl, .ref p, .ty "tuple", _, _, true, rfl, .ty _, .base (.tup hp), kit_ty (by decide +kernel), true, rfl, ?_⟩
    refine iteT ?_
    refine ⟨_, rfl, p, _, _, _, rfl, rfl, SqT.of hp, rfl, ?_⟩
    refine ⟨_, rfl, p, _, _, _, rfl, rfl, SqT.of hp, rfl, ?_⟩
    refine ⟨_, rfl, p, _, _, _, rfl, rfl, SqT.of hp, rfl, ?_⟩
    refine ⟨_, rfl, p, _, _, _, rfl, rfl, SqT.of hp, rfl, ?_⟩
    refine ⟨g, a.j, rfl, hg, fun q H1 s1 hq h1 => ?_⟩
    refine ⟨by show 4 ≤ sizeLine; decide, fun t ht => ?_⟩
    have tq : q ≠ t := ne_of_none h1 ht
    have hpt : H t = none := by
      cases c : H t with
      | none => rfl
      | some u =>
        rw [s1 _ _ c] at ht
        exact nomatch ht
    exact k t _ (Same.trans s1 (Sm.new ht)) hpt ⟨q, upd_same, by rw [upd_ne tq]; exact h1⟩
theorem sc_acts_for : FnScope ["pairs", "word", "event", "act"] ["pairs", "word"] (defScope s_acts_for) := ⟨rfl, rfl, rfl, by decide +kernel, rfl, by decide +kernel, by decide +kernel⟩
theorem ok_for (T : Txt K w mg C) : Cal P w K mg base 4 "acts_for" spFor := by
  have Gcopy_of : Cal P w K mg base 3 "copy_of" spCopyA := ok_copyA T
  refine cal_of T.d_acts_for sc_acts_for (fun vs H Q E h => ?_) (fun f cdv A outer s H vs Q E hr h => ?_)
  · obtain ⟨p, es, w, rfl, _⟩ := h
    rfl
  · obtain ⟨p, es, wd, rfl, ⟨ps, hp, pr⟩, hl, k⟩ := h
    have hu := hu_of hr
    have pl := paired_ln pr
    refine ⟨_, (pss_one (ps_ret (pe_lc (own := [("event", 2), ("act", 3)]) (g := gTup K 2 (gCons (gName 2) (gCons (gName 3) (gNil)))) (tt := _) rfl sc_acts_for.nd (pi_list (pv 0)) (blkOk_by (N := ["pairs", "word", "event", "act"]) (sc := (defScope s_acts_for)) (by decide +kernel)) (fun _ _ _ _ _ => pg_tupS (K := K) rfl rfl (pgs_cons (pg_name (i := 2) sc_acts_for.nd rfl (Or.inl rfl)) (pgs_cons (pg_name (i := 3) sc_acts_for.nd rfl (Or.inl rfl)) pgs_nil))) (fun _ _ _ _ _ => pts_one (pt_cmpR op_eq (pv 2) (pv 1) (nomark _))) (fun _ _ _ _ _ => (pe_c Gcopy_of hr (by decide) (by rfl) (pa_cons (pv 3) pa_nil)))))), ?_⟩
    refine ⟨_, rfl, p, rfl, ⟨_, SqL.of hp⟩, fun D hD => ?_⟩
    refine lc_it (walk_list (K := K) (a := p) (xs := ps.map V.ref)) (fun i H' => Same H H' ∧ ∃ qs : List Addr, H' D = some (.lst (qs.map V.ref)) ∧ Paired (ActA H') qs (selA (es.take i) wd)) ⟨Sm.new hD, [], upd_same, .nil⟩ (fun i H' _ z => SqL.of (z.1 _ _ hp)) ?_ ?_
    · rintro i x H1 H2 hi ⟨s1, qs, h1, pq⟩ ⟨rfl, hx⟩
      have hi' : i < ps.length := by rw [List.length_map] at hi; exact hi
      have hx' : x = .ref ps[i] := by
        rw [List.getElem?_map, List.getElem?_eq_getElem hi'] at hx
        exact (Option.some.inj hx).symm
      subst hx'
      obtain ⟨e, he, ⟨q, hq, ha⟩⟩ := paired_gt pr (List.getElem?_eq_getElem hi')
      have hq1 := s1 _ _ hq
      have htk : es.take (i + 1) = es.take i ++ [e] := take_s he
      have sel1 : selA (es.take (i + 1)) wd = selA (es.take i) wd ++ selA [e] wd := by
        rw [htk]
        unfold selA
        rw [List.filter_append, List.map_append]
      refine ⟨_, _, rfl, SqT.of hq1, rfl, ?_⟩
      refine ⟨_, _, rfl, _, _, rfl, rfl, rfl, ?_⟩
      refine ⟨_, rfl, _, rfl, rfl, _, rfl, ?_⟩
      refine ite2 (fun c => ?_) (fun c => ?_)
      · have ew : e.w = wd := V.str.inj (of_decide_eq_true c)
        refine ⟨_, rfl, q, e.a, rfl, ha.same s1, fun r H3 s3 hr3 h3 => ?_⟩
        refine ⟨_, s3 _ _ h1, ?_, ?_⟩
        · rw [List.length_map, paired_ln pq]
          have := sel_len (es.take i) wd
          rw [List.length_take] at this
          exact Nat.lt_of_le_of_lt (show _ ≤ 4 by omega) (by decide)
        · have keep : ∀ b o, H b = some o → upd H3 D (.lst (qs.map V.ref ++ [V.ref r])) b = some o := fun b o eb => by
            rw [upd_ne (ne_of_none eb hD)]
            exact s3 _ _ (s1 _ _ eb)
          have keep3 : ∀ {x : Addr} {a : Ac}, ActA H3 x a → ActA (upd H3 D (.lst (qs.map V.ref ++ [V.ref r]))) x a := fun {x a} ⟨g, g1, g2⟩ => by
            have hD3 := s3 _ _ h1
            have n1 : x ≠ D := ne_of g1 hD3 (by simp)
            have n2 : g ≠ D := fun z => by
              rw [z, hD3] at g2
              injection g2 with g2
              injection g2 with g2
              cases qs with
              | nil => exact nomatch g2
              | cons y ys => exact nomatch g2
            exact ⟨g, by rw [upd_ne n1]; exact g1, by rw [upd_ne n2]; exact g2⟩
          refine ⟨keep, qs ++ [r], ?_, ?_⟩
          · rw [upd_same, List.map_append]
            rfl
          · rw [sel1]
            refine paired_ap (paired_mp (fun _ _ x => keep3 (x.same s3)) pq) ?_
            have : selA [e] wd = [e.a] := by
              unfold selA
              rw [List.filter_cons_of_pos (by rw [ew]; simp)]
              rfl
            rw [this]
            exact .cons (keep3 h3) .nil
      · have ew : ¬ e.w = wd := fun z => c (by rw [z]; simp)
        refine ⟨s1, qs, h1, ?_⟩
        have : selA [e] wd = [] := by
          unfold selA
          rw [List.filter_cons_of_neg (by simp [ew])]
          rfl
        rw [sel1, this, List.append_nil]
        exact pq
    · rintro H1 ⟨s1, qs, h1, pq⟩
      rw [List.length_map, pl, List.take_length] at pq
      exact k D H1 s1 hD ⟨qs, h1, pq⟩
theorem inV_s (x : Str) : ∀ l : List Str, inV (.str x) (l.map V.str) = decide (x ∈ l)
  | [] => rfl
  | y :: l => by
    have ih := inV_s x l
    unfold inV at ih ⊢
    rw [List.map_cons, List.any_cons, ih]
    by_cases e : y = x
    · subst e
      simp [eqV]
    · have e2 : ¬ x = y := fun z => e z.symm
      simp [eqV, e, e2]
theorem flat_s (l : List Str) : (l.map V.str).all flatV = true := List.all_eq_true.mpr fun y hy => by
  obtain ⟨x, _, rfl⟩ := List.mem_map.mp hy
  rfl
theorem sc_lane_of : FnScope ["event"] ["event"] (defScope s_lane_of) := ⟨rfl, rfl, rfl, by decide +kernel, rfl, by decide +kernel, by decide +kernel⟩
theorem ok_lane (T : Txt K w mg C) : Cal P w K mg base 1 "lane_of" spLane := by
  refine cal_of T.d_lane_of sc_lane_of (fun vs H Q E h => ?_) (fun f cdv A outer s H vs Q E hr h => ?_)
  · obtain ⟨ev, rfl, _⟩ := h
    rfl
  · obtain ⟨ev, rfl, k⟩ := h
    have hu := hu_of hr
    obtain ⟨ta, tg, ts, _⟩ := T.g_SYNC_EVENTS
    obtain ⟨u0, c0, _⟩ := T.cc_Schedule_SYNC
    obtain ⟨u1, c1, _⟩ := T.cc_Schedule_USUAL
    refine ⟨_, (pss_cons (ps_if (pt_cmpR op_in_seq (pv 0) (C8.pe_gc (by rfl) tg) rfl) (pss_one (ps_ret (ClX.pe_cval (C8.pe_gc (by rfl) T.g_Schedule)))) pss_nil) (pss_one (ps_ret (ClX.pe_cval (C8.pe_gc (by rfl) T.g_Schedule))))), ?_⟩
    have e : inV (.str ev) t_SYNC_EVENTS = decide (ev ∈ [("click" : Str), "input", "change", "keydown", "keyup"]) := inV_s ev [("click" : Str), "input", "change", "keydown", "keyup"]
    refine ⟨_, rfl, ta, _, rfl, .inr (ts _), rfl, flat_s [("click" : Str), "input", "change", "keydown", "keyup"], _, rfl, ?_⟩
    refine ite2 (fun c => ?_) (fun c => ?_)
    · have c' : ev ∈ [("click" : Str), "input", "change", "keydown", "keyup"] := of_decide_eq_true (e.symm.trans c)
      rw [if_pos c'] at k
      exact ⟨_, _, _, _, rfl, T.rd_Schedule, c0, k⟩
    · have c' : ¬ ev ∈ [("click" : Str), "input", "change", "keydown", "keyup"] := fun z => c (e.trans (decide_eq_true z))
      rw [if_neg c'] at k
      exact ⟨_, _, _, _, rfl, T.rd_Schedule, c1, k⟩
theorem sc_can_prevent : FnScope ["event"] ["event"] (defScope s_can_prevent) := ⟨rfl, rfl, rfl, by decide +kernel, rfl, by decide +kernel, by decide +kernel⟩
theorem ok_prev (T : Txt K w mg C) : Cal P w K mg base 1 "can_prevent" spPrev := by
  refine cal_of T.d_can_prevent sc_can_prevent (fun vs H Q E h => ?_) (fun f cdv A outer s H vs Q E hr h => ?_)
  · obtain ⟨ev, rfl, _⟩ := h
    rfl
  · obtain ⟨ev, rfl, k⟩ := h
    have hu := hu_of hr
    obtain ⟨ta, tg, ts, _⟩ := T.g_EVENTS_TO_THE_END
    refine ⟨_, (pss_one (ps_ret (pe_cmpR op_notIn_seq (pv 0) (C8.pe_gc (by rfl) tg) rfl))), ?_⟩
    have e : inV (.str ev) t_EVENTS_TO_THE_END = decide (ev ∈ [("input" : Str), "change"]) := inV_s ev [("input" : Str), "change"]
    refine ⟨_, rfl, ta, _, rfl, .inr (ts _), rfl, flat_s [("input" : Str), "change"], ?_⟩
    show Q (.bl (!inV (.str ev) t_EVENTS_TO_THE_END)) H
    rw [e]
    exact k
theorem actA_upd {H : Hp} {F x : Addr} {qs : List Addr} {a : Ac} {o : HO} (hF : H F = some (.lst (qs.map V.ref))) (h : ActA H x a) : ActA (upd H F o) x a := by
  obtain ⟨g, g1, g2⟩ := h
  have n1 : x ≠ F := ne_of g1 hF (by simp)
  have n2 : g ≠ F := fun z => by
    rw [z, hF] at g2
    injection g2 with g2
    injection g2 with g2
    cases qs with
    | nil => exact nomatch g2
    | cons y ys => exact nomatch g2
  exact ⟨g, by rw [upd_ne n1]; exact g1, by rw [upd_ne n2]; exact g2⟩
theorem fold_snoc (As : Tab) (ns : List Int) (n : Int) (w : Str) : foldA As (ns ++ [n]) w = foldA As ns w ++ selA ((getE As n).getD []) w := by
  unfold foldA
  rw [List.flatMap_append]
  simp
theorem there_mem {As : Tab} {path : List Int} {n : Int} (h : n ∈ therE As path) : (getE As n).isSome = true := (List.mem_filter.mp h).2
theorem there_len (As : Tab) (path : List Int) : (therE As path).length ≤ path.length := List.length_filter_le _ _
theorem sc_hearers : FnScope ["acts", "path", "event", "number", "there", "found"] ["acts", "path", "event"] (defScope s_hearers) := ⟨rfl, rfl, rfl, by decide +kernel, rfl, by decide +kernel, by decide +kernel⟩
theorem ok_hear (T : Txt K w mg C) : Cal P w K mg base 5 "hearers" spHear := by
  have Gacts_for : Cal P w K mg base 4 "acts_for" spFor := ok_for T
  refine cal_of T.d_hearers sc_hearers (fun vs H Q E h => ?_) (fun f cdv A outer s H vs Q E hr h => ?_)
  · obtain ⟨d, pl, As, path, ev, rfl, _⟩ := h
    rfl
  · obtain ⟨d, pl, As, path, ev, rfl, ⟨ks, hd, prd⟩, few, hpl, hp8, hev, k⟩ := h
    have hu := hu_of hr
    have big : 100000 < sizeLine := by decide
    refine ⟨_, (pss_cons (ps_setLc (i := 4) (own := [("number", 3)]) (g := gName 3) (tt := _) rfl sc_hearers.nd rfl rfl (sw_true rfl rfl rfl (by decide +kernel)) (pi_list (pv 1)) (blkOk_by (N := ["acts", "path", "event", "number", "there", "found"]) (sc := (defScope s_hearers)) (by decide +kernel)) (fun _ _ _ _ _ => pg_name (i := 3) sc_hearers.nd rfl (Or.inl rfl)) (fun _ _ _ _ _ => pts_one (pt_cmp (pc_din hu (pv 3) (pv 0)))) (fun _ _ _ _ _ => (pv 3))) (pss_cons (ps_set (i := 5) sc_hearers.nd rfl (Or.inl rfl) (pe_lst pa_nil)) (pss_cons (ps_for PassesOwn.never rfl (pi_reversed (by rfl) T.z_reversed (pa_cons (pv 4) pa_nil)) (pg_name (i := 3) sc_hearers.nd rfl (Or.inl rfl)) (pss_one (ps_aug (i := 5) sc_hearers.nd rfl (Or.inl rfl) (pe_c Gacts_for hr (by decide) (by rfl) (pa_cons (pe_dget hu (pv 0) (pv 3) (fun _ _ => rfl)) (pa_cons (pe_op op_add_str (pv 2) (C8.pe_gc (by rfl) T.g_ON_THE_WAY_DOWN)) pa_nil))) iop_ext))) (pss_cons (ps_for PassesOwn.never rfl (pi_list (pv 4)) (pg_name (i := 3) sc_hearers.nd rfl (Or.inl rfl)) (pss_one (ps_aug (i := 5) sc_hearers.nd rfl (Or.inl rfl) (pe_c Gacts_for hr (by decide) (by rfl) (pa_cons (pe_dget hu (pv 0) (pv 3) (fun _ _ => rfl)) (pa_cons (pv 2) pa_nil))) iop_ext))) (pss_one (ps_ret (pv 5))))))), ?_⟩
    refine ⟨_, rfl, pl, rfl, ⟨_, SqL.of hpl⟩, fun D hD => ?_⟩
    refine lc_it (walk_list (K := K) (a := pl) (xs := path.map V.int)) (fun i H' => Same H H' ∧ H' D = some (.lst ((therE As (path.take i)).map V.int))) ⟨Sm.new hD, upd_same⟩ (fun i H' _ z => SqL.of (z.1 _ _ hpl)) ?_ ?_
    · rintro i x H1 H2 hi ⟨s1, h1⟩ ⟨rfl, hx⟩
      have hi' : i < path.length := by rw [List.length_map] at hi; exact hi
      have hp : path[i]? = some path[i] := List.getElem?_eq_getElem hi'
      have hx' : x = .int path[i] := by
        rw [List.getElem?_map, hp] at hx
        exact (Option.some.inj hx).symm
      subst hx'
      have tk : path.take (i + 1) = path.take i ++ [path[i]] := take_s hp
      have th : therE As (path.take (i + 1)) = therE As (path.take i) ++ therE As [path[i]] := by
        rw [tk]
        unfold therE
        rw [List.filter_append]
      refine ⟨rfl, ?_⟩
      refine ⟨_, rfl, _, rfl, d, _, rfl, DGet.k (k := .inl path[i]) (s1 _ _ hd), _, rfl, ?_⟩
      have iff1 : (valV ks (.inl path[i])).isSome = (getE As path[i]).isSome := by
        rcases getE_at (n := path[i]) prd with ⟨e1, e2⟩ | ⟨es, p, e1, e2, _⟩
        · rw [e1, e2]; rfl
        · rw [e1, e2]; rfl
      rw [iff1]
      refine ite2 (fun c => ?_) (fun c => ?_)
      · refine ⟨_, rfl, _, h1, ?_, fun b o eb => ?_, ?_⟩
        · have := there_len As (path.take i)
          rw [List.length_take] at this
          rw [List.length_map]
          omega
        · rw [upd_ne (ne_of_none eb hD)]
          exact s1 _ _ eb
        · rw [upd_same, th, show therE As [path[i]] = [path[i]] from List.filter_cons_of_pos c, List.map_append]
          rfl
      · refine ⟨s1, ?_⟩
        rw [th, show therE As [path[i]] = [] from List.filter_cons_of_neg c, List.append_nil]
        exact h1
    rintro H1 ⟨s1, h1⟩
    rw [List.length_map, List.take_length] at h1
    have tl := there_len As path
    refine ⟨by show 0 ≤ sizeLine; decide, fun F hF => ?_⟩
    have hDF : D ≠ F := ne_of_none h1 hF
    have h1F : upd H1 F (.lst []) D = some (.lst ((therE As path).map V.int)) := by rw [upd_ne hDF]; exact h1
    have step : ∀ (n : Int) (wd : Str) (H2 : Hp) (qs : List Addr) (L : List Ac), n ∈ therE As path → Same H1 H2 → H2 F = some (.lst (qs.map V.ref)) → Paired (ActA H2) qs L → ∃ p es, getE As n = some es ∧ valV ks (.inl n) = some (.ref p) ∧ EnsA H2 p es ∧ es.length ≤ 4 ∧
        ∀ q H3, Same H2 H3 → AcsA H3 q (selA es wd) → ∃ zs : List Addr, H3 q = some (.lst (zs.map V.ref)) ∧ zs.length ≤ 4 ∧ H3 F = some (.lst (qs.map V.ref)) ∧ Same H1 (upd H3 F (.lst (qs.map V.ref ++ zs.map V.ref))) ∧ Paired (ActA (upd H3 F (.lst (qs.map V.ref ++ zs.map V.ref)))) (qs ++ zs) (L ++ selA es wd) := by
      intro n wd H2 qs L hn s2 h2 pq
      have hs := there_mem hn
      rcases getE_at (n := n) prd with ⟨e1, e2⟩ | ⟨es, p, e1, e2, e3⟩
      · rw [e1] at hs
        exact nomatch hs
      · refine ⟨p, es, e1, e2, (e3.same s1).same s2, few_get few e1, fun q H3 s3 ⟨zs, z1, z2⟩ => ⟨zs, z1, ?_, s3 _ _ h2, fun b o eb => ?_, ?_⟩⟩
        · have := sel_len es wd
          have := few_get few e1
          rw [paired_ln z2]
          omega
        · rw [upd_ne (ne_of_none eb hF)]
          exact s3 _ _ (s2 _ _ eb)
        · exact paired_ap (paired_mp (fun _ _ x => actA_upd (s3 _ _ h2) (x.same s3)) pq) (paired_mp (fun _ _ x => actA_upd (s3 _ _ h2) x) z2)
    refine ⟨_, rfl, D, _, rfl, SqL.of h1F, ?_⟩
    refine for_it (walk_rev (K := K) (a := D) (xs := (therE As path).map V.int)) (fun i σ H' => ∃ (qs : List Addr) (y : Option V), Same H1 H' ∧ H' F = some (.lst (qs.map V.ref)) ∧ qs.length ≤ 4 * i ∧ Paired (ActA H') qs (foldA As ((therE As path).reverse.take i) (ev ++ "_down")) ∧ σ = [some (.ref d), some (.ref pl), some (.str ev), y, some (.ref D), some (.ref F)])
      ⟨[], none, Sm.new hF, upd_same, Nat.le_refl _, .nil, rfl⟩ (fun i σ H' _ ⟨_, _, z, _⟩ => SqL.of (z _ _ h1)) ?_ ?_
    · rintro i x σ H2 H3 hi ⟨qs, y, s2, h2, ql, pq, rfl⟩ ⟨rfl, hx⟩
      have hi' : i < (therE As path).length := by rw [List.length_map] at hi; exact hi
      have hj : (therE As path).length - 1 - i < (therE As path).length := by omega
      have hr1 : (therE As path).reverse[i]? = some (therE As path)[(therE As path).length - 1 - i] := by
        rw [List.getElem?_reverse hi', List.getElem?_eq_getElem hj]
      have hx' : x = .int (therE As path)[(therE As path).length - 1 - i] := by
        rw [List.length_map, List.getElem?_map, List.getElem?_eq_getElem hj] at hx
        exact (Option.some.inj hx).symm
      subst hx'
      obtain ⟨p, es, e1, e2, e3, e4, e5⟩ := step (therE As path)[(therE As path).length - 1 - i] (ev ++ "_down") H3 qs _ (List.getElem_mem hj) s2 h2 pq
      refine ⟨_, rfl, _, rfl, _, rfl, d, _, rfl, (by rw [← e2]; exact DGet.k (k := .inl ((therE As path)[(therE As path).length - 1 - i])) (s2 _ _ (s1 _ _ hd))), _, rfl, _, _, rfl, rfl, ?_, p, es, _, rfl, e3, e4, fun q H4 s4 hq hacs => ?_⟩
      · show ev.length + 5 ≤ sizeLine
        omega
      obtain ⟨zs, z1, z2, z3, z4, z5⟩ := e5 q H4 s4 hacs
      refine ⟨F, q, _, _, rfl, rfl, z3, z1, ?_, qs ++ zs, _, z4, ?_, ?_, ?_, rfl⟩
      · rw [List.length_map, List.length_map]
        omega
      · rw [upd_same, List.map_append]
      · rw [List.length_append]
        omega
      · rw [take_s hr1, fold_snoc, e1]
        exact z5
    · rintro σ H2 ⟨qs, y, s2, h2, ql, pq, rfl⟩
      rw [List.length_map] at ql pq
      have pq' : Paired (ActA H2) qs (foldA As (therE As path).reverse (ev ++ "_down")) := by
        have e : (therE As path).reverse.take (therE As path).length = (therE As path).reverse := List.take_of_length_le (by rw [List.length_reverse]; exact Nat.le_refl _)
        rw [e] at pq
        exact pq
      refine ⟨_, rfl, D, rfl, ⟨_, SqL.of (s2 _ _ h1)⟩, ?_⟩
      refine for_it (walk_list (K := K) (a := D) (xs := (therE As path).map V.int)) (fun i σ H' => ∃ (qs : List Addr) (y : Option V), Same H1 H' ∧ H' F = some (.lst (qs.map V.ref)) ∧ qs.length ≤ 100 + 4 * i ∧ Paired (ActA H') qs (foldA As (therE As path).reverse (ev ++ "_down") ++ foldA As ((therE As path).take i) ev) ∧ σ = [some (.ref d), some (.ref pl), some (.str ev), y, some (.ref D), some (.ref F)])
        ⟨qs, _, s2, h2, by omega, by rw [show foldA As ((therE As path).take 0) ev = [] from rfl, List.append_nil]; exact pq', rfl⟩ (fun i σ H' _ ⟨_, _, z, _⟩ => SqL.of (z _ _ h1)) ?_ ?_
      · rintro i x σ H3 H4 hi ⟨qs, y, s2, h2, ql, pq, rfl⟩ ⟨rfl, hx⟩
        have hi' : i < (therE As path).length := by rw [List.length_map] at hi; exact hi
        have hg := List.getElem?_eq_getElem hi'
        have hx' : x = .int (therE As path)[i] := by
          rw [List.getElem?_map, hg] at hx
          exact (Option.some.inj hx).symm
        subst hx'
        obtain ⟨p, es, e1, e2, e3, e4, e5⟩ := step (therE As path)[i] ev H4 qs _ (List.getElem_mem hi') s2 h2 pq
        refine ⟨_, rfl, _, rfl, _, rfl, d, _, rfl, (by rw [← e2]; exact DGet.k (k := .inl ((therE As path)[i])) (s2 _ _ (s1 _ _ hd))), _, rfl, p, es, _, rfl, e3, e4, fun q H5 s5 hq hacs => ?_⟩
        obtain ⟨zs, z1, z2, z3, z4, z5⟩ := e5 q H5 s5 hacs
        refine ⟨F, q, _, _, rfl, rfl, z3, z1, ?_, qs ++ zs, _, z4, ?_, ?_, ?_, rfl⟩
        · rw [List.length_map, List.length_map]
          omega
        · rw [upd_same, List.map_append]
        · rw [List.length_append]
          omega
        · rw [take_s hg, fold_snoc, e1, ← List.append_assoc]
          exact z5
      · rintro σ H3 ⟨qs, y, s2, h2, ql, pq, rfl⟩
        rw [List.length_map, List.take_length] at pq
        exact ⟨_, rfl, k F H3 (Same.trans s1 s2) (Same.free s1 hF) ⟨qs, h2, pq⟩⟩
end
end VL

set_option Elab.async false
set_option linter.all false
set_option maxRecDepth 100000
set_option maxHeartbeats 4000000
namespace VL
open PySem PySem.Spec PyProof.Rows L2
theorem map_int_atR {ns : List Int} {j : Int} (h0 : 0 ≤ j) (h1 : j < (ns.length : Int)) : ∃ z, atI (ns.map V.int) j = some (.int z) := by
  have hj : j.toNat < ns.length := by omega
  refine ⟨ns[j.toNat], ?_⟩
  unfold atI ixN
  rw [if_pos h0, if_pos (by rw [List.length_map]; exact h1)]
  show (ns.map V.int)[j.toNat]? = _
  rw [List.getElem?_map, List.getElem?_eq_getElem hj]
  rfl
section
variable {P : Program} {w : World} {K : PySem.W.Frag} {mg : Str → Option Value} {base : Heap} {C : Ad}
theorem sc__law_rows : FnScope ["script", "count", "rows", "k", "cell"] ["script", "count"] (defScope s__law_rows) := ⟨rfl, rfl, rfl, by decide +kernel, rfl, by decide +kernel, by decide +kernel⟩
theorem ok_rows (T : Txt K w mg C) : Cal P w K mg base 1 "_law_rows" (spRows K) := by
  refine cal_of T.d__law_rows sc__law_rows (fun vs H Q E h => ?_) (fun f cdv A outer s H vs Q E hr h => ?_)
  · obtain ⟨a, ns, m, rfl, _⟩ := h
    rfl
  · obtain ⟨a, ns, m, rfl, ha, hn, hm, k⟩ := h
    have hu := hu_of hr
    have big : 100000 < sizeLine := by decide
    refine ⟨_, (pss_cons (ps_set (i := 2) sc__law_rows.nd rfl (Or.inl rfl) (pe_lst pa_nil)) (pss_cons (ps_for PassesOwn.never rfl (pi_range1 (by rfl) T.z_range (pa_cons (pv 1) pa_nil)) (pg_name (i := 3) sc__law_rows.nd rfl (Or.inl rfl)) (pss_cons (ps_set (i := 4) sc__law_rows.nd rfl (Or.inl rfl) pe_int) (C8.pss_cut (ps_if (pt_cmpR op_gt (pe_callB call_len_seq (by rfl) T.z_len PySem.boot_len (pa_cons (pv 0) pa_nil)) pe_int (nomark _)) (pss_one (ps_set (i := 4) sc__law_rows.nd rfl (Or.inl rfl) (pe_callTy call_int1 (by rfl) T.z_int (by decide +kernel) (pa_cons (pe_ix ix_list (pv 0) (pe_op op_mod (pe_callTy call_int1 (by rfl) T.z_int (by decide +kernel) (pa_cons (pv 3) pa_nil)) (pe_callB call_len_seq (by rfl) T.z_len PySem.boot_len (pa_cons (pv 0) pa_nil))) (fun _ _ => rfl)) pa_nil)))) pss_nil) (C8.pss_cut (ps_if (pt_cmpR op_lt (pv 4) pe_int (nomark _)) (pss_one (ps_set (i := 4) sc__law_rows.nd rfl (Or.inl rfl) (pe_op op_sub pe_int (pe_op op_mul pe_int (pv 4))))) pss_nil) (C8.pss_cut (ps_if (PW.pt (pw_or (pt_cmpR op_ge (pv 3) (pe_callB call_len_seq (by rfl) T.z_len PySem.boot_len (pa_cons (pv 0) pa_nil)) (nomark _)) (pw_or1 (pt_cmpR op_lt (pv 4) pe_int (nomark _))))) (pss_cons (ps_set (i := 4) sc__law_rows.nd rfl (Or.inl rfl) (pe_op op_mod (pe_callTy call_int1 (by rfl) T.z_int (by decide +kernel) (pa_cons (pe_op op_add (pe_op op_mul (pe_op op_add (pe_op op_add (pv 4) (pe_op op_mul pe_int (pv 3))) pe_int) pe_int) (pe_op op_mul (pe_op op_mul (pv 3) (pv 3)) pe_int)) pa_nil)) pe_int)) (pss_one (ps_set (i := 4) sc__law_rows.nd rfl (Or.inl rfl) (pe_op op_mod (pe_callTy call_int1 (by rfl) T.z_int (by decide +kernel) (pa_cons (pe_op op_mul (pe_op op_add (pe_op op_add (pv 4) (pe_op op_mul pe_int (pv 3))) pe_int) pe_int) pa_nil)) pe_int)))) pss_nil) (pss_one (ps_expr (pe_bm PySem.F.plainAttrs_list PySem.F.slot_list_append PySem.F.type_list_append mt_append (pv 2) (pa_cons (pv 4) pa_nil))))))))) (pss_one (ps_ret (pv 2))))), ?_⟩
    refine ⟨by show 0 ≤ sizeLine; decide, fun r hr0 => ?_⟩
    refine ⟨_, rfl, _, rfl, by omega, by omega, ?_⟩
    refine for_range (lo := 0) (n := ((m : Nat) : Int).toNat) (fun i σ H' => ∃ (zs : List Int) (y1 y2 : Option V), Same H H' ∧ H' r = some (.lst (zs.map V.int)) ∧ zs.length = i ∧ σ = [some (.ref a), some (.int m), some (.ref r), y1, y2]) ⟨[], none, none, Sm.new hr0, upd_same, rfl, rfl⟩ ?_ ?_
    · rintro i σ H1 hi ⟨zs, y1, y2, s1, h1, zl, rfl⟩
      have hi' : i < m := by omega
      have ha1 := Same.seq s1 ha
      have hL : ((ns.map V.int).length : Int) = (ns.length : Int) := by rw [List.length_map]
      refine ⟨fun σ' H' => H' = H1 ∧ ∃ c : Int, σ' = [some (.ref a), some (.int m), some (.ref r), some (.int (0 + (i : Int))), some (.int c)], ?_, ?_⟩
      · refine ⟨_, rfl, a, _, rfl, .inl ha1, _, _, rfl, rfl, _, rfl, ?_⟩
        rw [hL]
        refine ite2 (fun q => ?_) (fun q => ⟨rfl, 0, rfl⟩)
        have q' : (0 : Int) < ns.length := of_decide_eq_true q
        obtain ⟨z, hz⟩ := map_int_atR (ns := ns) (j := (0 + (i : Int)) % (ns.length : Int)) (Int.emod_nonneg _ (by omega)) (Int.emod_lt_of_pos _ q')
        refine ⟨_, rfl, _, rfl, .inl ⟨_, rfl, _, rfl, a, _, rfl, .inl ha1, _, _, rfl, rfl, by rw [hL]; exact q', a, _, _, .int z, rfl, rfl, ha1, by rw [hL]; exact hz, .inl ⟨_, rfl, rfl, z, rfl⟩⟩⟩
      · rintro σ' H' ⟨eH, c, rfl⟩
        rw [eH]
        refine ⟨fun σ' H' => H' = H1 ∧ ∃ c : Int, σ' = [some (.ref a), some (.int m), some (.ref r), some (.int (0 + (i : Int))), some (.int c)], ?_, ?_⟩
        · refine ⟨_, rfl, _, _, rfl, rfl, _, rfl, ?_⟩
          refine ite2 (fun q => ?_) (fun q => ⟨rfl, c, rfl⟩)
          exact ⟨_, rfl, _, _, rfl, rfl, .inl ⟨by decide, by decide⟩, _, _, rfl, rfl, rfl, _, rfl⟩
        · rintro σ' H' ⟨eH, c, rfl⟩
          rw [eH]
          refine ⟨fun σ' H' => H' = H1 ∧ ∃ c : Int, σ' = [some (.ref a), some (.int m), some (.ref r), some (.int (0 + (i : Int))), some (.int c)], ?_, ?_⟩
          · refine ⟨_, rfl, _, rfl, a, _, rfl, .inl ha1, _, _, rfl, rfl, _, rfl, ?_⟩
            refine ite2 (fun q => ?_) (fun q => ?_)
            · refine ⟨_, rfl, _, rfl, _, _, rfl, rfl, .inl ⟨by decide, by decide⟩, _, _, rfl, rfl, _, _, rfl, rfl, _, _, rfl, rfl, .inr ⟨by decide, by decide⟩, _, rfl, _, rfl, _, _, rfl, rfl, .inl ⟨by omega, by omega⟩, _, _, rfl, rfl, .inr ⟨by decide, by decide⟩, _, _, rfl, rfl, .inl ⟨_, rfl, _, _, rfl, rfl, (by show (0 : Int) < 1000000007; decide), ?_⟩⟩
              exact ⟨_, rfl, _, rfl, _, _, rfl, rfl, .inl ⟨by decide, by decide⟩, _, _, rfl, rfl, _, _, rfl, rfl, _, _, rfl, rfl, .inr ⟨by decide, by decide⟩, .inl ⟨_, rfl, _, _, rfl, rfl, (by show (0 : Int) < 18446744073709551557; decide), rfl, _, rfl⟩⟩
            · refine ⟨_, rfl, _, _, rfl, rfl, _, rfl, ?_⟩
              refine ite2 (fun q => ?_) (fun q => ⟨rfl, c, rfl⟩)
              refine ⟨_, rfl, _, rfl, _, _, rfl, rfl, .inl ⟨by decide, by decide⟩, _, _, rfl, rfl, _, _, rfl, rfl, _, _, rfl, rfl, .inr ⟨by decide, by decide⟩, _, rfl, _, rfl, _, _, rfl, rfl, .inl ⟨by omega, by omega⟩, _, _, rfl, rfl, .inr ⟨by decide, by decide⟩, _, _, rfl, rfl, .inl ⟨_, rfl, _, _, rfl, rfl, (by show (0 : Int) < 1000000007; decide), ?_⟩⟩
              exact ⟨_, rfl, _, rfl, _, _, rfl, rfl, .inl ⟨by decide, by decide⟩, _, _, rfl, rfl, _, _, rfl, rfl, _, _, rfl, rfl, .inr ⟨by decide, by decide⟩, .inl ⟨_, rfl, _, _, rfl, rfl, (by show (0 : Int) < 18446744073709551557; decide), rfl, _, rfl⟩⟩
          · rintro σ' H' ⟨eH, c, rfl⟩
            rw [eH]
            refine ⟨_, rfl, .inl ⟨rfl, _, SqL.of h1⟩, _, rfl, r, _, _, rfl, rfl, h1, ?_, ?_⟩
            · rw [List.length_map]
              omega
            · refine ⟨zs ++ [c], _, _, fun b o eb => ?_, ?_, by rw [List.length_append, zl]; rfl, rfl⟩
              · rw [upd_ne (ne_of_none eb hr0)]
                exact s1 _ _ eb
              · rw [upd_same, List.map_append]
                rfl
    · rintro σ H1 ⟨zs, y1, y2, s1, h1, zl, rfl⟩
      exact ⟨_, rfl, k r zs H1 s1 hr0 h1 (by omega)⟩
end
end VL

set_option Elab.async false
set_option linter.all false
set_option maxRecDepth 100000
set_option maxHeartbeats 4000000
namespace VL
open PySem PySem.Spec PyProof.Rows L2
/-! ### what stands there, as data -/
def dAc (a : Ac) : PyData := .tuple [.str "act", .int a.n, .str a.h, .list [.int a.j]]
def dEn (e : En) : PyData := .tuple [.str e.w, dAc e.a]
def dEs (es : List En) : PyData := .list (es.map dEn)
section
variable {K : PySem.W.Frag} {H : Hp}
theorem dp_ac {p : Addr} {a : Ac} (h : ActA H p a) : Dp K H (.ref p) (dAc a) := by
  obtain ⟨g, h1, h2⟩ := h
  exact .tup (SqT.of h1) (.cons (.str _) (.cons (.int _) (.cons (.str _) (.cons (.lst (SqL.of h2) (.cons (.int _) .nil)) .nil))))
theorem dp_acs {ps : List Addr} {as : List Ac} (h : Paired (ActA H) ps as) : DpAll K H (ps.map V.ref) (as.map dAc) := by
  induction h with
  | nil => exact .nil
  | cons a _ ih => exact .cons (dp_ac a) ih
theorem dp_acl {q : Addr} {as : List Ac} (h : AcsA H q as) : Dp K H (.ref q) (.list (as.map dAc)) := by
  obtain ⟨ps, h1, h2⟩ := h
  exact .lst (SqL.of h1) (dp_acs h2)
theorem dp_en {p : Addr} {e : En} (h : EntA H p e) : Dp K H (.ref p) (dEn e) := by
  obtain ⟨q, h1, h2⟩ := h
  exact .tup (SqT.of h1) (.cons (.str _) (.cons (dp_ac h2) .nil))
theorem dp_es {p : Addr} {es : List En} (h : EnsA H p es) : Dp K H (.ref p) (dEs es) := by
  obtain ⟨ps, h1, h2⟩ := h
  refine .lst (SqL.of h1) ?_
  clear h1
  induction h2 with
  | nil => exact .nil
  | cons a _ ih => exact .cons (dp_en a) ih
theorem dp_tab {ks : List (Key × V)} {As : Tab} (h : Paired (RowA H) ks As) : DpAll K H (ks.map (·.2)) (As.map fun r => dEs r.2) := by
  induction h with
  | nil => exact .nil
  | cons a _ ih =>
    obtain ⟨_, p, e, h2⟩ := a
    refine .cons ?_ ih
    show Dp K H (Prod.snd _) (dEs _)
    rw [e]
    exact dp_es h2
end
theorem shaped_acs {as : List Ac} (ok : ∀ a ∈ as, PyData.strOk a.h = true) : SeqAt.shaped (.list (as.map dAc)) = true := by
  have h1 : PyData.canLayAll0 (as.map dAc) = true := by
    induction as with
    | nil => rfl
    | cons e E ih =>
      have i2 := ih fun a ha => ok a (List.mem_cons_of_mem _ ha)
      have i3 := ok e List.mem_cons_self
      have i4 : PyData.strOk "act" = true := by decide +kernel
      show PyData.canLayAll0 (.tuple [.str "act", .int e.n, .str e.h, .list [.int e.j]] :: E.map dAc) = true
      simp [PyData.canLayAll0, PyData.canLay0, i2, i3, i4]
  have h2 : PyData.depthAll (as.map dAc) ≤ 4 := by
    clear h1 ok
    induction as with
    | nil => decide
    | cons e E ih =>
      show PyData.depthAll (.tuple [.str "act", .int e.n, .str e.h, .list [.int e.j]] :: E.map dAc) ≤ 4
      simp [PyData.depthAll, PyData.depth]
      omega
  unfold SeqAt.shaped
  rw [Bool.and_eq_true]
  refine ⟨by simpa [PyData.canLay0] using h1, decide_eq_true ?_⟩
  show PyData.depth (.list (as.map dAc)) ≤ 64
  simp [PyData.depth]
  omega
theorem eqv_selfH {d : PyData} (h : SeqAt.shaped d = true) : PyData.eqv d d = true := by
  refine SeqAt.eqv_refl _ ?_
  unfold SeqAt.shaped at h
  exact (Bool.and_eq_true_iff.mp h).1
/-! ### their texts are short -/
def words8 : List Str := ["click", "input", "pick", "click_down", "input_down", "pick_down", "click_down_down", "clicks"]
structure GoodE (e : En) : Prop where
  w : e.w ∈ words8
  n : 1 ≤ e.a.n ∧ e.a.n ≤ 30
  h : e.a.h = "h" ++ toString e.a.j
  j : 0 ≤ e.a.j ∧ e.a.j < 4
structure GoodT (As : Tab) : Prop where
  len : As.length ≤ 12
  row : ∀ r ∈ As, (1 ≤ r.1 ∧ r.1 ≤ 30) ∧ r.2.length ≤ 4 ∧ ∀ e ∈ r.2, GoodE e
theorem GoodT.few {As : Tab} (g : GoodT As) : Few As := fun r hr => (g.row r hr).2.1
theorem log30 {i : Int} (h0 : 0 ≤ i) (h1 : i ≤ 30) : i.natAbs.log2 < 1920 := by
  rcases Nat.eq_zero_or_pos i.natAbs with z | z
  · rw [z]; decide
  · exact (Nat.log2_lt (by omega)).mpr (Nat.lt_of_lt_of_le (show i.natAbs < 2 ^ 5 by omega) (Nat.pow_le_pow_right (by decide) (by decide)))
theorem hand_ok {e : En} (g : GoodE e) : PyData.strOk e.a.h = true := by
  have all : ∀ k : Fin 4, PyData.strOk (("h" : Str) ++ ((toString ((k.val : Nat) : Int) : String) : Str)) = true := by decide +kernel
  have := all ⟨e.a.j.toNat, by have := g.j; omega⟩
  rw [show (((⟨e.a.j.toNat, by have := g.j; omega⟩ : Fin 4).val : Nat) : Int) = e.a.j from Int.toNat_of_nonneg g.j.1] at this
  rw [g.h]
  exact this
theorem getE_mem {As : Tab} {n : Int} {es : List En} (e : getE As n = some es) : ∃ r ∈ As, r.2 = es := by
  induction As with
  | nil => exact nomatch (show (none : Option (List En)) = some es from e)
  | cons r As ih =>
    have e' : (if r.1 = n then some r.2 else getE As n) = some es := e
    by_cases q : r.1 = n
    · rw [if_pos q] at e'
      cases e'
      exact ⟨r, List.mem_cons_self, rfl⟩
    · rw [if_neg q] at e'
      obtain ⟨r2, h1, h2⟩ := ih e'
      exact ⟨r2, List.mem_cons_of_mem _ h1, h2⟩
theorem fold_ok {As : Tab} (g : GoodT As) {ns : List Int} {w : Str} : ∀ a ∈ foldA As ns w, PyData.strOk a.h = true := by
  intro a ha
  unfold foldA at ha
  obtain ⟨n, hn, h2⟩ := List.mem_flatMap.mp ha
  cases e : getE As n with
  | none => rw [e] at h2; exact nomatch h2
  | some es =>
    rw [e] at h2
    unfold selA at h2
    obtain ⟨x, hx, rfl⟩ := List.mem_map.mp h2
    obtain ⟨r, hr, rfl⟩ := getE_mem e
    exact hand_ok ((g.row r hr).2.2 x (List.mem_filter.mp hx).1)
theorem num_len {i : Int} (h0 : 0 ≤ i) (h1 : i ≤ 30) : ((toString i : String) : Str).length ≤ 2 := by
  have all : ∀ k : Fin 31, ((toString ((k.val : Nat) : Int) : String) : Str).length ≤ 2 := by decide +kernel
  have := all ⟨i.toNat, by omega⟩
  rwa [show (((⟨i.toNat, by omega⟩ : Fin 31).val : Nat) : Int) = i from Int.toNat_of_nonneg h0] at this
theorem word_len {w : Str} (h : w ∈ words8) : (reprText w).length ≤ 20 := by
  have all : ∀ x ∈ words8, (reprText x).length ≤ 20 := by decide +kernel
  exact all w h
theorem hand_len {j : Int} (h0 : 0 ≤ j) (h1 : j < 4) : (reprText (("h" : Str) ++ ((toString j : String) : Str))).length ≤ 20 := by
  have all : ∀ k : Fin 4, (reprText (("h" : Str) ++ ((toString ((k.val : Nat) : Int) : String) : Str))).length ≤ 20 := by decide +kernel
  have := all ⟨j.toNat, by omega⟩
  rwa [show (((⟨j.toNat, by omega⟩ : Fin 4).val : Nat) : Int) = j from Int.toNat_of_nonneg h0] at this
theorem act_len : (reprText ("act" : Str)).length ≤ 20 := by decide +kernel
theorem tupleText_le (ts : List Str) : (tupleText ts).length ≤ 3 + piled ts := by
  have e1 : ((("(" : String) : Str)).length = 1 := rfl
  have e3 : (((if ts.length == 1 then ",)" else ")" : String) : Str)).length ≤ 2 := by split <;> decide
  unfold tupleText
  rw [strApp, strApp, e1]
  by_cases h : ts = []
  · subst h
    have : (Str.join ", " ([] : List Str)).length = 0 := rfl
    omega
  · have := join_length_add ts h
    omega
theorem piled_cons' (t : Str) (ts : List Str) : piled (t :: ts) = t.length + 2 + piled ts := by simp [piled]
theorem piled_nil' : piled [] = 0 := by simp [piled]
theorem shown_ac {e : En} (g : GoodE e) : (PyData.shown (dAc e.a)).length ≤ 100 := by
  show (tupleText [reprText "act", toString e.a.n, reprText e.a.h, listText [toString e.a.j]]).length ≤ 100
  have h1 := tupleText_le [reprText "act", toString e.a.n, reprText e.a.h, listText [toString e.a.j]]
  have h2 := listText_le [toString e.a.j]
  have n1 := num_len (i := e.a.n) (by have := g.n; omega) g.n.2
  have n2 := num_len (i := e.a.j) g.j.1 (by have := g.j; omega)
  have n3 := hand_len g.j.1 g.j.2
  rw [← g.h] at n3
  have n4 := act_len
  simp only [piled_cons', piled_nil'] at h1 h2
  omega
theorem shown_en {e : En} (g : GoodE e) : (PyData.shown (dEn e)).length ≤ 200 := by
  show (tupleText [reprText e.w, PyData.shown (dAc e.a)]).length ≤ 200
  have h1 := tupleText_le [reprText e.w, PyData.shown (dAc e.a)]
  have h2 := shown_ac g
  have h3 := word_len g.w
  simp only [piled_cons', piled_nil'] at h1
  omega
theorem shownAll_map {α : Type} (f : α → PyData) : ∀ l : List α, PyData.shownAll (l.map f) = l.map fun x => PyData.shown (f x)
  | [] => rfl
  | x :: l => by
    show PyData.shown (f x) :: PyData.shownAll (l.map f) = _
    rw [shownAll_map f l]
    rfl
theorem shown_es {es : List En} (hl : es.length ≤ 4) (g : ∀ e ∈ es, GoodE e) : (PyData.shown (dEs es)).length ≤ 1000 := by
  show (listText (PyData.shownAll (es.map dEn))).length ≤ 1000
  rw [shownAll_map]
  have h1 := listText_le (es.map fun x => PyData.shown (dEn x))
  have h2 := piled_le (c := 200) (ts := es.map fun x => PyData.shown (dEn x)) fun t ht => by
    obtain ⟨e, he, rfl⟩ := List.mem_map.mp ht
    exact shown_en (g e he)
  rw [List.length_map] at h2
  have : es.length * 202 ≤ 4 * 202 := Nat.mul_le_mul_right _ hl
  omega
theorem zip_mem {H : Hp} : ∀ {ks : List (Key × V)} {As : Tab}, Paired (RowA H) ks As → zipK ks (As.map fun r => dEs r.2) = As.map fun r => (.int r.1, dEs r.2)
  | _, _, .nil => by unfold zipK; rfl
  | _, _, .cons (a := k) (b := r) (l₁ := ks) (l₂ := As) g p => by
    obtain ⟨e, _⟩ := g
    show (enK k.1, dEs r.2) :: zipK ks (As.map fun r => dEs r.2) = _
    rw [zip_mem p, e]
    rfl
def dKv (As : Tab) : List (PyData × PyData) := As.map fun r => (.int r.1, dEs r.2)
theorem shown_kv {As : Tab} (g : GoodT As) : (dictText (PyData.shownKv (dKv As))).length ≤ sizeLine := by
  have big : 100000 < sizeLine := by decide
  have h1 := dictText_le (PyData.shownKv (dKv As))
  have h0 : ∀ L : Tab, PyData.shownKv (dKv L) = L.map fun r => ((toString r.1 : String) : Str) ++ (": " : Str) ++ PyData.shown (dEs r.2) := fun L => by
    induction L with
    | nil => rfl
    | cons r L ih =>
      show (((toString r.1 : String) : Str) ++ (": " : Str) ++ PyData.shown (dEs r.2)) :: PyData.shownKv (dKv L) = _
      rw [ih]
      rfl
  have h2 := piled_le (c := 1010) (ts := PyData.shownKv (dKv As)) fun t ht => by
    rw [h0] at ht
    obtain ⟨r, hr, rfl⟩ := List.mem_map.mp ht
    obtain ⟨g1, g2, g3⟩ := g.row r hr
    have a1 := num_len (i := r.1) (by omega) g1.2
    have a2 := shown_es g2 g3
    rw [strApp, strApp]
    have : ((": " : String) : Str).length = 2 := rfl
    omega
  rw [h0, List.length_map] at h2
  have : As.length * 1012 ≤ 12 * 1012 := Nat.mul_le_mul_right _ g.len
  rw [h0] at h1 ⊢
  omega
theorem showable_ac {e : En} (g : GoodE e) : PyData.showable (dAc e.a) = true := by
  have n1 := log30 (i := e.a.n) (by have := g.n; omega) g.n.2
  have n2 := log30 (i := e.a.j) g.j.1 (by have := g.j; omega)
  simp [dAc, PyData.showable, PyData.showableAll, n1, n2]
theorem showable_es {es : List En} (g : ∀ e ∈ es, GoodE e) : PyData.showable (dEs es) = true := by
  show PyData.showableAll (es.map dEn) = true
  induction es with
  | nil => rfl
  | cons e es ih =>
    show (PyData.showable (dEn e) && PyData.showableAll (es.map dEn)) = true
    rw [ih fun x hx => g x (List.mem_cons_of_mem _ hx), Bool.and_true]
    have := showable_ac (g e List.mem_cons_self)
    simp [dEn, PyData.showable, PyData.showableAll, this]
theorem showable_kv {As : Tab} (g : ∀ r ∈ As, (1 ≤ r.1 ∧ r.1 ≤ 30) ∧ ∀ e ∈ r.2, GoodE e) : PyData.showableKv (dKv As) = true := by
  induction As with
  | nil => rfl
  | cons r As ih =>
    show (PyData.showable (.int r.1) && PyData.showable (dEs r.2) && PyData.showableKv (dKv As)) = true
    obtain ⟨g1, g2⟩ := g r List.mem_cons_self
    have n1 := log30 (i := r.1) (by omega) g1.2
    rw [ih fun x hx => g x (List.mem_cons_of_mem _ hx), showable_es g2]
    simp [PyData.showable, n1]
theorem nodict_es (es : List En) : PyData.hasDict (dEs es) = false := by
  show PyData.hasDictAll (es.map dEn) = false
  induction es with
  | nil => rfl
  | cons e es ih =>
    show (PyData.hasDict (dEn e) || PyData.hasDictAll (es.map dEn)) = false
    rw [ih]
    simp [dEn, dAc, PyData.hasDict, PyData.hasDictAll]
theorem nodict_all (As : Tab) : PyData.hasDictAll (As.map fun r => dEs r.2) = false := by
  induction As with
  | nil => rfl
  | cons r As ih =>
    show (PyData.hasDict (dEs r.2) || PyData.hasDictAll (As.map fun r => dEs r.2)) = false
    rw [ih, nodict_es]
    rfl
theorem depth_es (es : List En) : PyData.depth (dEs es) ≤ 10 := by
  have : PyData.depthAll (es.map dEn) ≤ 8 := by
    induction es with
    | nil => decide
    | cons e es ih =>
      show max (PyData.depth (dEn e)) (PyData.depthAll (es.map dEn)) ≤ 8
      have : PyData.depth (dEn e) ≤ 8 := by simp [dEn, dAc, PyData.depth, PyData.depthAll]
      omega
  show PyData.depthAll (es.map dEn) + 1 ≤ 10
  omega
theorem depth_kv (As : Tab) : PyData.depthKv (dKv As) ≤ 40 := by
  induction As with
  | nil => decide
  | cons r As ih =>
    show max (max (PyData.depth (.int r.1)) (PyData.depth (dEs r.2))) (PyData.depthKv (dKv As)) ≤ 40
    have := depth_es r.2
    have : PyData.depth (.int r.1) = 0 := rfl
    omega
def dsOf (As : Tab) : List PyData := As.map fun r => dEs r.2
def txt (ks : List (Key × V)) (As : Tab) : Str := dictText (PyData.shownKv (zipK ks (dsOf As)))
theorem rep_pack {K : PySem.W.Frag} {H : Hp} {ks : List (Key × V)} {As : Tab} (h : Paired (RowA H) ks As) (g : GoodT As) : DpAll K H (ks.map (·.2)) (dsOf As) ∧ PyData.showableKv (zipK ks (dsOf As)) = true ∧ PyData.hasDictAll (dsOf As) = false ∧
    PyData.depthKv (zipK ks (dsOf As)) ≤ 40 ∧ (dictText (PyData.shownKv (zipK ks (dsOf As)))).length ≤ sizeLine := by
  have e : zipK ks (dsOf As) = dKv As := zip_mem h
  refine ⟨dp_tab h, ?_, nodict_all As, ?_, ?_⟩
  · rw [e]
    exact showable_kv fun r hr => ⟨(g.row r hr).1, (g.row r hr).2.2⟩
  · rw [e]
    exact depth_kv As
  · rw [e]
    exact shown_kv g
end VL

set_option Elab.async false
set_option linter.all false
set_option maxRecDepth 100000
set_option maxHeartbeats 4000000

namespace VL
open PySem PySem.Spec PyProof.Rows L2
def spLaw (K : PySem.W.Frag) : Sp := fun vs H Q _ => ∃ (a : Addr) (ns : List Int), vs = [.ref a] ∧ SqL K H a (ns.map V.int) ∧ ns.length ≤ 63 ∧ ∀ H', Q (.bl true) H'
theorem upd_sw {H : Hp} {a b : Addr} {o u : HO} (h : a ≠ b) : upd (upd H a o) b u = upd (upd H b u) a o := by
  funext x
  unfold upd
  by_cases h1 : x = b
  · by_cases h2 : x = a
    · exact absurd (h2.symm.trans h1) h
    · rw [if_pos h1, if_neg h2, if_pos h1]
  · by_cases h2 : x = a
    · rw [if_neg h1, if_pos h2, if_pos h2]
    · rw [if_neg h1, if_neg h2, if_neg h2, if_neg h1]
theorem entA_upd {H : Hp} {F x : Addr} {qs : List Addr} {e : En} {o : HO} (hF : H F = some (.lst (qs.map V.ref))) (h : EntA H x e) : EntA (upd H F o) x e := by
  obtain ⟨q, h1, h2⟩ := h
  have n1 : x ≠ F := ne_of h1 hF (by simp)
  exact ⟨q, by rw [upd_ne n1]; exact h1, actA_upd hF h2⟩
theorem actA_updD {H : Hp} {d x : Addr} {ks : List (Key × V)} {a : Ac} {o : HO} (hd : H d = some (.dK ks)) (h : ActA H x a) : ActA (upd H d o) x a := by
  obtain ⟨g, g1, g2⟩ := h
  exact ⟨g, by rw [upd_ne (ne_of g1 hd (by simp))]; exact g1, by rw [upd_ne (ne_of g2 hd (by simp))]; exact g2⟩
theorem ensA_updD {H : Hp} {d p : Addr} {ks : List (Key × V)} {es : List En} {o : HO} (hd : H d = some (.dK ks)) (h : EnsA H p es) : EnsA (upd H d o) p es := by
  obtain ⟨ps, h1, h2⟩ := h
  refine ⟨ps, by rw [upd_ne (ne_of h1 hd (by simp))]; exact h1, paired_mp (fun x e ⟨q, e1, e2⟩ => ?_) h2⟩
  exact ⟨q, by rw [upd_ne (ne_of e1 hd (by simp))]; exact e1, actA_updD hd e2⟩
theorem rowA_updD {H : Hp} {d : Addr} {ks : List (Key × V)} {k : Key × V} {r : Int × List En} {o : HO} (hd : H d = some (.dK ks)) (h : RowA H k r) : RowA (upd H d o) k r := by
  obtain ⟨h0, p, h1, h2⟩ := h
  exact ⟨h0, p, h1, ensA_updD hd h2⟩
theorem putK_new {ks : List (Key × V)} {k : Key} {v : V} (h : valV ks k = none) : putK ks k v = ks ++ [(k, v)] := by
  unfold putK
  rw [valV_any, h]
  rfl
theorem map_int_atE {ns : List Int} {j : Int} (h0 : 0 ≤ j) (h1 : j < (ns.length : Int)) : ∃ z, atI (ns.map V.int) j = some (.int z) := map_int_atR h0 h1
theorem map_str_at {ns : List Str} {j : Int} (h0 : 0 ≤ j) (h1 : j < (ns.length : Int)) : ∃ z, z ∈ ns ∧ atI (ns.map V.str) j = some (.str z) := by
  have hj : j.toNat < ns.length := by omega
  refine ⟨ns[j.toNat], List.getElem_mem hj, ?_⟩
  unfold atI ixN
  rw [if_pos h0, if_pos (by rw [List.length_map]; exact h1)]
  show (ns.map V.str)[j.toNat]? = _
  rw [List.getElem?_map, List.getElem?_eq_getElem hj]
  rfl
theorem flat_is (P : List Int) : (P.map V.int).all flatV = true := List.all_eq_true.mpr fun y hy => by
  obtain ⟨x, _, rfl⟩ := List.mem_map.mp hy
  rfl
theorem alc {G : Hp} {pl t : Addr} {X o : HO} (ht : upd G pl X t = none) (np : G pl = none) : pl ≠ t ∧ G t = none ∧ upd (upd G pl X) t o = upd (upd G t o) pl X ∧ (upd G t o) pl = none := by
  have n : pl ≠ t := ne_of_none upd_same ht
  exact ⟨n, by rw [upd_ne n.symm] at ht; exact ht, upd_sw n, by rw [upd_ne n]; exact np⟩
theorem new_ent {G2 : Hp} {E g q p : Addr} {ps : List Addr} {es : List En} {wd h : Str} {n j : Int} (hE : G2 E = some (.lst (ps.map V.ref))) (pr : Paired (EntA G2) ps es) (hg : G2 g = none) (hq : upd G2 g (.lst [.int j]) q = none)
    (hp : upd (upd G2 g (.lst [.int j])) q (.tup [.str "act", .int n, .str h, .ref g]) p = none) :
    EnsA (upd (upd (upd (upd G2 g (.lst [.int j])) q (.tup [.str "act", .int n, .str h, .ref g])) p (.tup [.str wd, .ref q])) E (.lst (ps.map V.ref ++ [V.ref p]))) E (es ++ [⟨wd, ⟨n, h, j⟩⟩]) ∧
      ∀ b o, G2 b = some o → b ≠ E → upd (upd (upd (upd G2 g (.lst [.int j])) q (.tup [.str "act", .int n, .str h, .ref g])) p (.tup [.str wd, .ref q])) E (.lst (ps.map V.ref ++ [V.ref p])) b = some o := by
  have sa := Sm.new (o := .lst [.int j]) hg
  have sb := Sm.new (o := .tup [.str "act", .int n, .str h, .ref g]) hq
  have sc := Sm.new (o := .tup [.str wd, .ref q]) hp
  have sabc := Same.trans (Same.trans sa sb) sc
  have hE3 := sabc _ _ hE
  have eg := sc _ _ (sb _ _ (show upd G2 g (.lst [.int j]) g = some (.lst [.int j]) from upd_same))
  have eq := sc _ _ (show upd (upd G2 g (.lst [.int j])) q (.tup [.str "act", .int n, .str h, .ref g]) q = some (.tup [.str "act", .int n, .str h, .ref g]) from upd_same)
  refine ⟨⟨ps ++ [p], by rw [upd_same, List.map_append]; rfl, ?_⟩, fun b o e ne => by rw [upd_ne ne]; exact sabc _ _ e⟩
  refine paired_ap (paired_mp (fun _ _ x => entA_upd hE3 (x.same sabc)) pr) (.cons (entA_upd hE3 ⟨q, upd_same, g, eq, eg⟩) .nil)
theorem fold_len {As : Tab} (few : Few As) (w : Str) : ∀ ns : List Int, (foldA As ns w).length ≤ 4 * ns.length
  | [] => Nat.le_refl _
  | n :: ns => by
    have ih := fold_len few w ns
    have e : foldA As (n :: ns) w = selA ((getE As n).getD []) w ++ foldA As ns w := rfl
    rw [e, List.length_append, List.length_cons]
    have : (selA ((getE As n).getD []) w).length ≤ 4 := by
      cases h : getE As n with
      | none => exact Nat.zero_le _
      | some es => exact Nat.le_trans (sel_len es w) (few_get few h)
    omega
theorem comp_ok {K : PySem.W.Frag} {tw : TE} {H : Hp} {wd ev : Str} {As : Tab} {n : Int} {d : Addr} {x0 x1 x2 x4 x5 x7 x8 x9 x11 x12 x13 x14 : Option V} (hw : ∀ (σ' : L2.St) (H' : Hp) (Q' : VK), σ'[10]? = some (some (.str ev)) → Q' (.str wd) H' → tw σ' H' Q') (tab : TabA H d As) (few : Few As) {Q : VK}
    (q : ∀ D H', Same H H' → H D = none → AcsA H' D (selA ((getE As n).getD []) wd) → Q (.ref D) H') :
    tLc (iList K (tDGet2 (tVar 3) (tVar 6) (tLst tNil))) (gName 14) (tTest (tOp rEq (tOp (rIxT K) (tVar 14) (tC (.int 0))) tw)) (tOp (rIxT K) (tVar 14) (tC (.int 1))) [14]
      [x0, x1, x2, some (.ref d), x4, x5, some (.int n), x7, x8, x9, some (.str ev), x11, x12, x13, x14] H Q := by
  obtain ⟨ks, hd, pr⟩ := tab
  have big : 100000 < sizeLine := by decide
  refine ⟨_, rfl, d, rfl, .inl ⟨ks, .inl hd⟩, _, rfl, by show 0 ≤ sizeLine; decide, fun Z hZ => ?_⟩
  have sZ := Sm.new (o := .lst []) hZ
  have key : ∃ (b : Addr) (ps : List Addr), (valV ks (.inl n)).getD (.ref Z) = .ref b ∧ upd H Z (.lst []) b = some (.lst (ps.map V.ref)) ∧ Paired (EntA (upd H Z (.lst []))) ps ((getE As n).getD []) ∧ ((getE As n).getD []).length ≤ 4 := by
    rcases getE_at (n := n) pr with ⟨e1, e2⟩ | ⟨es, p, e1, e2, e3⟩
    · rw [e1, e2]
      exact ⟨Z, [], rfl, upd_same, .nil, Nat.zero_le _⟩
    · rw [e1, e2]
      obtain ⟨ps, p1, p2⟩ := e3.same sZ
      exact ⟨p, ps, rfl, p1, p2, few_get few e1⟩
  obtain ⟨b, ps, kb, hb, prE, l4⟩ := key
  refine ⟨_, DGet.k (k := .inl n) (sZ _ _ hd), b, kb, ⟨_, SqL.of hb⟩, fun D hD => ?_⟩
  generalize (getE As n).getD [] = es at prE l4 q
  generalize hH1 : upd H Z (.lst []) = H1 at hb prE hD sZ ⊢
  have pl := paired_ln prE
  refine lc_it (walk_list (K := K) (a := b) (xs := ps.map V.ref)) (fun i H' => Same H1 H' ∧ ∃ qs : List Addr, H' D = some (.lst (qs.map V.ref)) ∧ Paired (ActA H') qs (selA (es.take i) wd)) ⟨Sm.new hD, [], upd_same, .nil⟩ (fun i H' _ z => SqL.of (z.1 _ _ hb)) ?_ ?_
  · rintro i x H2 H3 hi ⟨s1, qs, h1, pq⟩ ⟨rfl, hx⟩
    have hi' : i < ps.length := by rw [List.length_map] at hi; exact hi
    have hx' : x = .ref ps[i] := by
      rw [List.getElem?_map, List.getElem?_eq_getElem hi'] at hx
      exact (Option.some.inj hx).symm
    subst hx'
    obtain ⟨e, he, ⟨q0, hq, ha⟩⟩ := paired_gt prE (List.getElem?_eq_getElem hi')
    have hq1 := s1 _ _ hq
    have sel1 : selA (es.take (i + 1)) wd = selA (es.take i) wd ++ selA [e] wd := by
      rw [take_s he]
      unfold selA
      rw [List.filter_append, List.map_append]
    refine ⟨rfl, ?_⟩
    refine ⟨_, rfl, ps[i], _, _, _, rfl, rfl, SqT.of hq1, rfl, hw _ _ _ rfl ⟨rfl, _, rfl, ?_⟩⟩
    refine ite2 (fun c => ?_) (fun c => ?_)
    · have ew : e.w = wd := V.str.inj (of_decide_eq_true c)
      have sel2 : selA [e] wd = [e.a] := by
        unfold selA
        rw [List.filter_cons_of_pos (by rw [ew]; simp)]
        rfl
      refine ⟨_, rfl, ps[i], _, _, _, rfl, rfl, SqT.of hq1, rfl, _, h1, ?_, fun b o eb => ?_, qs ++ [q0], ?_, ?_⟩
      · rw [List.length_map, paired_ln pq]
        have := sel_len (es.take i) wd
        rw [List.length_take] at this
        omega
      · rw [upd_ne (ne_of_none eb hD)]
        exact s1 _ _ eb
      · rw [upd_same, List.map_append]
        rfl
      · rw [sel1, sel2]
        exact paired_ap (paired_mp (fun _ _ x => actA_upd h1 x) pq) (.cons (actA_upd h1 (ha.same s1)) .nil)
    · have ew : ¬ e.w = wd := fun z => c (by rw [z]; simp)
      have sel2 : selA [e] wd = [] := by
        unfold selA
        rw [List.filter_cons_of_neg (by simp [ew])]
        rfl
      rw [sel1, sel2, List.append_nil]
      exact ⟨s1, qs, h1, pq⟩
  · rintro H2 ⟨s1, qs, h1, pq⟩
    rw [List.length_map, pl, List.take_length] at pq
    exact q D H2 (Same.trans sZ s1) (Same.free sZ hD) ⟨qs, h1, pq⟩
theorem AcsA.same8 {H H' : Hp} {p : Addr} {as : List Ac} (h : AcsA H p as) (s : Same H H') : AcsA H' p as := by
  obtain ⟨ps, h1, h2⟩ := h
  exact ⟨ps, s _ _ h1, paired_mp (fun _ _ x => x.same s) h2⟩
def ev6 : List Str := ["click", "input", "pick", "click_down", "change", "keydown"]
def sy5 : List Str := ["click", "input", "change", "keydown", "keyup"]
/-- what has been built before the questions -/
structure B1 (Hw : Hp) (d pl : Addr) (n : Nat) (As : Tab) (path : List Int) (G H : Hp) : Prop where
  e : H = upd G pl (.lst (path.map V.int))
  np : G pl = none
  s : Same Hw G
  t : TabA G d As
  len : As.length ≤ n
  row : ∀ r ∈ As, (1 ≤ r.1 ∧ r.1 ≤ 30) ∧ r.2.length ≤ 4 ∧ ∀ e ∈ r.2, GoodE e
  p8 : path.length ≤ 8
section
variable {P : Program} {w : World} {K : PySem.W.Frag} {mg : Str → Option Value} {base : Heap} {C : Ad}
theorem sc_law : FnScope ["script", "rows", "words", "acts", "path", "k", "number", "entries", "j", "kept", "event", "due", "lane", "told", "entry"] ["script"] (defScope s_law) := ⟨rfl, rfl, rfl, by decide +kernel, rfl, by decide +kernel, by decide +kernel⟩
theorem ok_law {f : Addr} {fd : FuncData} (F : Fun K "law" "law" s_law f fd) (T : Txt K w mg C) : FnG P w K mg base 6 f fd ["script"] (spLaw K) := by
  have G_law_rows : Cal P w K mg base 1 "_law_rows" (spRows K) := ok_rows T
  have Ghearers : Cal P w K mg base 5 "hearers" spHear := ok_hear T
  have Glane_of : Cal P w K mg base 1 "lane_of" spLane := ok_lane T
  have Gcan_prevent : Cal P w K mg base 1 "can_prevent" spPrev := ok_prev T
  refine fnG_of F sc_law (fun vs H Q E h => ?_) (fun cdv A outer s H vs Q E gd hr h => ?_)
  · obtain ⟨a, ns, rfl, _⟩ := h
    rfl
  · obtain ⟨sa, ns, rfl, hS, hlen, k⟩ := h
    have hu := hu_of hr
    have big : 100000 < sizeLine := by decide
    refine ⟨_, (pss_cons (ps_set (i := 1) sc_law.nd rfl (Or.inl rfl) (pe_c G_law_rows hr (by decide) (by rfl) (pa_cons (pv 0) (pa_cons pe_int pa_nil)))) (pss_cons (ps_set (i := 2) sc_law.nd rfl (Or.inl rfl) (pe_lst (pa_cons pe_str (pa_cons pe_str (pa_cons pe_str (pa_cons pe_str (pa_cons pe_str (pa_cons pe_str (pa_cons pe_str (pa_cons pe_str pa_nil)))))))))) (pss_cons (ps_set (i := 3) sc_law.nd rfl (Or.inl rfl) pe_dnewK) (pss_cons (ps_set (i := 4) sc_law.nd rfl (Or.inl rfl) (pe_lst pa_nil)) (C8.pss_cut (ps_for PassesOwn.never rfl (pi_range1 (by rfl) T.z_range (pa_cons pe_int pa_nil)) (pg_name (i := 5) sc_law.nd rfl (Or.inl rfl)) (C8.pss_cut (ps_set (i := 6) sc_law.nd rfl (Or.inl rfl) (pe_op op_add pe_int (pe_op op_mod (pe_callTy call_int1 (by rfl) T.z_int (by decide +kernel) (pa_cons (pe_ix ix_list (pv 1) (pv 5) (fun _ _ => rfl)) pa_nil)) pe_int))) (pss_one (ps_if (pt_cmp (pc_dnotin hu (pv 6) (pv 3))) (pss_cons (ps_set (i := 7) sc_law.nd rfl (Or.inl rfl) (pe_lst pa_nil)) (pss_cons (ps_for PassesOwn.never rfl (pi_range1 (by rfl) T.z_range (pa_cons (pe_op op_mod (pe_callTy call_int1 (by rfl) T.z_int (by decide +kernel) (pa_cons (pe_op op_fdiv (pe_ix ix_list (pv 1) (pv 5) (fun _ _ => rfl)) pe_int) pa_nil)) pe_int) pa_nil)) (pg_name (i := 8) sc_law.nd rfl (Or.inl rfl)) (pss_one (ps_expr (pe_bm PySem.F.plainAttrs_list PySem.F.slot_list_append PySem.F.type_list_append mt_append (pv 7) (pa_cons (pe_tup (pa_cons (pe_ix ix_list (pv 2) (pe_op op_mod (pe_callTy call_int1 (by rfl) T.z_int (by decide +kernel) (pa_cons (pe_op op_fdiv (pe_ix ix_list (pv 1) (pe_op op_add (pv 5) (pv 8)) (fun _ _ => rfl)) pe_int) pa_nil)) pe_int) (fun _ _ => rfl)) (pa_cons (pe_tup (pa_cons pe_str (pa_cons (pv 6) (pa_cons (pe_op op_add_str pe_str (pe_callTy call_str_int (by rfl) T.z_str (by decide +kernel) (pa_cons (pv 8) pa_nil))) (pa_cons (pe_lst (pa_cons (pv 8) pa_nil)) pa_nil))))) pa_nil))) pa_nil))))) (C8.pss_cut (ps_if (pt_cmpR op_gt (pe_op op_mod (pe_op op_fdiv (pe_ix ix_list (pv 1) (pv 5) (fun _ _ => rfl)) pe_int) pe_int) pe_int (nomark _)) (pss_one (ps_dput hu (pv 3) (pv 6) (pv 7) rfl)) pss_nil) (pss_one (ps_if (PW.pt (pw_and (pt_cmpR op_lt (pe_callB call_len_seq (by rfl) T.z_len PySem.boot_len (pa_cons (pv 4) pa_nil)) pe_int (nomark _)) (pw_and1 (pt_cmpR op_notIn_seq (pv 6) (pv 4) rfl)))) (pss_one (ps_expr (pe_bm PySem.F.plainAttrs_list PySem.F.slot_list_append PySem.F.type_list_append mt_append (pv 4) (pa_cons (pv 6) pa_nil)))) pss_nil))))) pss_nil)))) (pss_cons (ps_set (i := 9) sc_law.nd rfl (Or.inl rfl) (pe_callB (call_repD gd hr.units) (by rfl) T.z_repr (by decide +kernel) (pa_cons (pv 3) pa_nil))) (C8.pss_cut (ps_for PassesOwn.never rfl (pi_list (pe_lst (pa_cons pe_str (pa_cons pe_str (pa_cons pe_str (pa_cons pe_str (pa_cons pe_str (pa_cons pe_str pa_nil)))))))) (pg_name (i := 10) sc_law.nd rfl (Or.inr rfl)) (pss_cons (ps_set (i := 11) sc_law.nd rfl (Or.inl rfl) (pe_lst pa_nil)) (pss_cons (ps_for PassesOwn.never rfl (pi_list (pe_revL (pv 4))) (pg_name (i := 6) sc_law.nd rfl (Or.inl rfl)) (pss_one (ps_set (i := 11) sc_law.nd rfl (Or.inl rfl) (pe_op op_cat (pv 11) (pe_lc (own := [("entry", 14)]) (g := gName 14) (tt := _) rfl sc_law.nd (pi_list (pe_dget2 hu (pv 3) (pv 6) (pe_lst pa_nil) ⟨rfl, rfl, rfl, rfl⟩)) (blkOk_by (N := ["script", "rows", "words", "acts", "path", "k", "number", "entries", "j", "kept", "event", "due", "lane", "told", "entry"]) (sc := (defScope s_law)) (by decide +kernel)) (fun _ _ _ _ _ => pg_name (i := 14) sc_law.nd rfl (Or.inl rfl)) (fun _ _ _ _ _ => pts_one (pt_cmpR op_eq (pe_ix (ix_tupS (K := K) rfl) (pv 14) pe_int (fun _ _ => rfl)) (pe_op op_add_str (pv 10) pe_str) (nomark _))) (fun _ _ _ _ _ => (pe_ix (ix_tupS (K := K) rfl) (pv 14) pe_int (fun _ _ => rfl)))))))) (pss_cons (ps_for PassesOwn.never rfl (pi_list (pv 4)) (pg_name (i := 6) sc_law.nd rfl (Or.inl rfl)) (pss_one (ps_set (i := 11) sc_law.nd rfl (Or.inl rfl) (pe_op op_cat (pv 11) (pe_lc (own := [("entry", 14)]) (g := gName 14) (tt := _) rfl sc_law.nd (pi_list (pe_dget2 hu (pv 3) (pv 6) (pe_lst pa_nil) ⟨rfl, rfl, rfl, rfl⟩)) (blkOk_by (N := ["script", "rows", "words", "acts", "path", "k", "number", "entries", "j", "kept", "event", "due", "lane", "told", "entry"]) (sc := (defScope s_law)) (by decide +kernel)) (fun _ _ _ _ _ => pg_name (i := 14) sc_law.nd rfl (Or.inl rfl)) (fun _ _ _ _ _ => pts_one (pt_cmpR op_eq (pe_ix (ix_tupS (K := K) rfl) (pv 14) pe_int (fun _ _ => rfl)) (pv 10) (nomark _))) (fun _ _ _ _ _ => (pe_ix (ix_tupS (K := K) rfl) (pv 14) pe_int (fun _ _ => rfl)))))))) (pss_cons (ps_if (PW.pt (pw_or (pt_cmpR (op_neD hr.units) (pe_c Ghearers hr (by decide) (by rfl) (pa_cons (pv 3) (pa_cons (pe_callTy call_list_of (by rfl) T.z_list (by decide +kernel) (pa_cons (pv 4) pa_nil)) (pa_cons (pv 10) pa_nil)))) (pv 11) (nomark _)) (pw_or1 (pt_cmpR op_ne (pe_callB (call_repD gd hr.units) (by rfl) T.z_repr (by decide +kernel) (pa_cons (pv 3) pa_nil)) (pv 9) (nomark _))))) (pss_one (ps_ret pe_bl)) pss_nil) (pss_cons (ps_set (i := 12) sc_law.nd rfl (Or.inl rfl) pe_int) (C8.pss_cut (ps_if (pt_cmpR op_in_seq (pv 10) (pe_lst (pa_cons pe_str (pa_cons pe_str (pa_cons pe_str (pa_cons pe_str (pa_cons pe_str pa_nil)))))) rfl) (pss_one (ps_set (i := 12) sc_law.nd rfl (Or.inl rfl) pe_int)) pss_nil) (pss_cons (ps_set (i := 13) sc_law.nd rfl (Or.inl rfl) (pe_c Gcan_prevent hr (by decide) (by rfl) (pa_cons (pv 10) pa_nil))) (pss_one (ps_if (PW.pt (pw_or (pt_cmpR op_ne (pe_c Glane_of hr (by decide) (by rfl) (pa_cons (pv 10) pa_nil)) (pv 12) (nomark _)) (pw_or (pt_not (pt_val (pe_callB call_isi (by rfl) T.z_isinstance (by decide +kernel) (pa_cons (pv 13) (pa_cons (pe_bltn (v := .ty "bool") (by rfl) T.z_bool (by decide +kernel) rfl) pa_nil))))) (pw_or1 (pt_cmpR op_ne (pv 13) (pe_cmpR op_notIn_seq (pv 10) (pe_lst (pa_cons pe_str (pa_cons pe_str pa_nil))) rfl) (nomark _)))))) (pss_one (ps_ret pe_bl)) pss_nil)))))))))) (pss_one (ps_ret (pe_and (pe_cmpR op_eq (pe_c Glane_of hr (by decide) (by rfl) (pa_cons pe_str pa_nil)) pe_int (nomark _)) (pe_and (pe_cmpR op_eq (pe_c Glane_of hr (by decide) (by rfl) (pa_cons pe_str pa_nil)) pe_int (nomark _)) (pe_one (pe_cmpR op_is_bl (pe_c Gcan_prevent hr (by decide) (by rfl) (pa_cons pe_str pa_nil)) pe_bl (nomark _)))))))))))))), ?_⟩
    refine ⟨_, rfl, sa, ns, 40, rfl, hS, hlen, by decide, fun rl zs H1 s1 hrl hr1 zl => ?_⟩
    refine ⟨by show 8 ≤ sizeLine; decide, fun W hW d hd => ⟨by show 0 ≤ sizeLine; decide, fun pl hpl => ?_⟩⟩
    have eW : ∀ o, upd H1 W o W = some o := fun o => upd_same
    generalize hHw : upd H1 W (.lst [V.str "click", V.str "input", V.str "pick", V.str "click_down", V.str "input_down", V.str "pick_down", V.str "click_down_down", V.str "clicks"]) = Hw at hd hpl ⊢
    have hw : Hw W = some (.lst (words8.map V.str)) := by rw [← hHw]; exact eW _
    have sw : Same H1 Hw := by rw [← hHw]; exact Sm.new hW
    have hrw := sw _ _ hr1
    refine ⟨fun σ H' => ∃ (As : Tab) (path : List Int) (G : Hp) (y5 y6 y7 y8 : Option V), B1 Hw d pl 12 As path G H' ∧ σ = [some (.ref sa), some (.ref rl), some (.ref W), some (.ref d), some (.ref pl), y5, y6, y7, y8, none, none, none, none, none, none], ?_, ?_⟩
    · refine ⟨_, rfl, by decide, by decide, ?_⟩
      refine for_range (lo := 0) (n := (12 : Int).toNat) (fun i σ H' => ∃ (As : Tab) (path : List Int) (G : Hp) (y5 y6 y7 y8 : Option V), B1 Hw d pl i As path G H' ∧ σ = [some (.ref sa), some (.ref rl), some (.ref W), some (.ref d), some (.ref pl), y5, y6, y7, y8, none, none, none, none, none, none])
        ⟨[], [], _, none, none, none, none, ⟨rfl, hpl, Sm.new hd, ⟨[], upd_same, .nil⟩, Nat.le_refl _, (fun r hr => nomatch hr), by decide⟩, rfl⟩ ?_ (fun σ H' h => h)
      rintro i σ H2 hi ⟨As, path, G, y5, y6, y7, y8, ⟨eG, np, sG, ⟨ks, hdk, prk⟩, al, rows, p8⟩, rfl⟩
      have hi' : i < 12 := hi
      subst eG
      have up := Sm.new (o := .lst (path.map V.int)) np
      have hrl2 := up _ _ (sG _ _ hrw)
      have hdk2 := up _ _ hdk
      obtain ⟨z, hz⟩ := map_int_atE (ns := zs) (j := 0 + (i : Int)) (by omega) (by omega)
      have n0 : 0 ≤ z % 30 := Int.emod_nonneg _ (by decide)
      have n1 : z % 30 < 30 := Int.emod_lt_of_pos _ (by decide)
      refine ⟨fun σ' H' => H' = upd G pl (.lst (path.map V.int)) ∧ ∃ n : Int, (1 ≤ n ∧ n ≤ 30) ∧ σ' = [some (.ref sa), some (.ref rl), some (.ref W), some (.ref d), some (.ref pl), some (.int (0 + (i : Int))), some (.int n), y7, y8, none, none, none, none, none, none], ?_, ?_⟩
      · exact ⟨_, rfl, _, rfl, rl, _, _, .int z, rfl, rfl, SqL.of hrl2, hz, .inl ⟨_, rfl, _, _, rfl, rfl, (by show (0 : Int) < 30; decide), _, _, rfl, rfl, rfl, 1 + z % 30, ⟨by omega, by omega⟩, rfl⟩⟩
      rintro σ' H' ⟨eH', n, nb, rfl⟩
      rw [eH']
      refine ⟨_, rfl, _, rfl, d, _, rfl, DGet.k (k := .inl n) hdk2, _, rfl, ?_⟩
      refine ite2 (fun c => ?_) (fun c => ⟨As, path, G, _, _, _, _, ⟨rfl, np, sG, ⟨ks, hdk, prk⟩, by omega, rows, p8⟩, rfl⟩)
      have vn : valV ks (.inl n) = none := by
        cases e : valV ks (.inl n) with
        | none => rfl
        | some v => rw [e] at c; exact nomatch c
      refine ⟨by show 0 ≤ sizeLine; decide, fun E hE => ?_⟩
      have plE : pl ≠ E := ne_of_none upd_same hE
      have gE : G E = none := Same.free up hE
      have lo : 0 ≤ z / 30 % 5 := Int.emod_nonneg _ (by decide)
      have hi5 : z / 30 % 5 < 5 := Int.emod_lt_of_pos _ (by decide)
      have upE : Same (upd G pl (.lst (path.map V.int))) (upd (upd G pl (.lst (path.map V.int))) E (.lst [])) := Sm.new hE
      refine ⟨_, rfl, _, rfl, rl, _, _, .int z, rfl, rfl, SqL.of (upE _ _ hrl2), hz, _, _, rfl, rfl, ⟨by decide, by decide⟩, .inl ⟨_, rfl, _, _, rfl, rfl, (by show (0 : Int) < 5; decide), ?_⟩⟩
      refine ⟨_, rfl, by omega, by omega, ?_⟩
      refine for_range (lo := 0) (n := (z / 30 % 5).toNat) (fun j σ H' => ∃ (G2 : Hp) (es : List En) (y8 : Option V), H' = upd G2 pl (.lst (path.map V.int)) ∧ G2 pl = none ∧ Same G G2 ∧ EnsA G2 E es ∧ es.length = j ∧ (∀ e ∈ es, GoodE e) ∧
        σ = [some (.ref sa), some (.ref rl), some (.ref W), some (.ref d), some (.ref pl), some (.int (0 + (i : Int))), some (.int n), some (.ref E), y8, none, none, none, none, none, none]) ⟨upd G E (.lst []), [], _, upd_sw plE, by rw [upd_ne plE]; exact np, Sm.new gE, ⟨[], upd_same, .nil⟩, rfl, (fun e he => nomatch he), rfl⟩ ?_ ?_
      · rintro j σ H3 hj ⟨G2, es, y8, eH3, np2, s2, ⟨ps, hE2, prE⟩, el, good, rfl⟩
        subst eH3
        have hj' : j < 4 := by omega
        have up2 := Sm.new (o := .lst (path.map V.int)) np2
        have hrl3 := up2 _ _ (s2 _ _ (sG _ _ hrw))
        have hw3 := up2 _ _ (s2 _ _ (sG _ _ hw))
        have hE3 := up2 _ _ hE2
        obtain ⟨z2, hz2⟩ := map_int_atE (ns := zs) (j := 0 + (i : Int) + (0 + (j : Int))) (by omega) (by omega)
        obtain ⟨wd, wm, hwd⟩ := map_str_at (ns := words8) (j := z2 / 150 % 8) (Int.emod_nonneg _ (by decide)) (show z2 / 150 % 8 < 8 from Int.emod_lt_of_pos _ (by decide))
        refine ⟨_, rfl, .inl ⟨rfl, _, SqL.of hE3⟩, _, rfl, _, rfl, _, rfl, _, rfl, _, _, rfl, rfl, rl, _, _, .int z2, rfl, rfl, SqL.of hrl3, hz2, _, _, rfl, rfl, ⟨by decide, by decide⟩, .inl ⟨_, rfl, _, _, rfl, rfl, (by show (0 : Int) < 8; decide), W, _, _, .str wd, rfl, rfl, SqL.of hw3, hwd, ?_⟩⟩
        refine ⟨_, rfl, _, rfl, _, rfl, log30 (by omega) (by omega), _, _, rfl, rfl, ?_, _, rfl, by show 1 ≤ sizeLine; decide, fun g hg => ⟨by show 4 ≤ sizeLine; decide, fun q hq => ⟨by show 2 ≤ sizeLine; decide, fun p hp => ?_⟩⟩⟩
        · have : (Str.ofString (toString (0 + (j : Int)))).length ≤ 2 := num_len (by omega) (by omega)
          show 1 + (Str.ofString (toString (0 + (j : Int)))).length ≤ sizeLine
          omega
        obtain ⟨ng, fg, eg, pg⟩ := alc (o := .lst [.int (0 + (j : Int))]) hg np2
        rw [eg] at hq
        obtain ⟨nq, fq, eq, pq⟩ := alc (o := .tup [.str "act", .int n, .str ("h" ++ Str.ofString (toString (0 + (j : Int)))), .ref g]) hq pg
        rw [eg, eq] at hp
        obtain ⟨nn, fp, ep, pp⟩ := alc (o := .tup [.str wd, .ref q]) hp pq
        obtain ⟨en1, en2⟩ := new_ent (wd := wd) hE2 prE fg fq fp
        have hE4 : upd (upd (upd (upd G2 pl (.lst (path.map V.int))) g (.lst [.int (0 + (j : Int))])) q (.tup [.str "act", .int n, .str ("h" ++ Str.ofString (toString (0 + (j : Int)))), .ref g])) p (.tup [.str wd, .ref q]) E = some (.lst (ps.map V.ref)) := by
          rw [eg, eq, ep]
          rw [upd_ne plE.symm]
          exact Sm.new fp _ _ (Sm.new fq _ _ (Sm.new fg _ _ hE2))
        refine ⟨E, _, _, rfl, rfl, hE4, ?_, _, es ++ [⟨wd, ⟨n, "h" ++ Str.ofString (toString (0 + (j : Int))), 0 + (j : Int)⟩⟩], _, ?_, ?_, ?_, en1, ?_, ?_, rfl⟩
        · rw [List.length_map, paired_ln prE]
          omega
        · rw [eg, eq, ep, upd_sw plE]
        · rw [upd_ne plE]
          exact pp
        · intro b o eb
          exact en2 b o (s2 _ _ eb) (ne_of_none eb gE)
        · rw [List.length_append, el]
          rfl
        · intro e he
          rcases List.mem_append.mp he with he | he
          · exact good e he
          · rw [List.mem_singleton.mp he]
            exact ⟨wm, nb, rfl, ⟨by show 0 ≤ 0 + (j : Int); omega, by show 0 + (j : Int) < 4; omega⟩⟩
      · rintro σ H3 ⟨G2, es, y8, eH3, np2, s2, ens, el, good, rfl⟩
        subst eH3
        have up2 := Sm.new (o := .lst (path.map V.int)) np2
        have hrl3 := up2 _ _ (s2 _ _ (sG _ _ hrw))
        have hd2 := s2 _ _ hdk
        have hd3 := up2 _ _ hd2
        have dpl : pl ≠ d := fun z => by
          rw [z, hd2] at np2
          exact nomatch np2
        refine ⟨fun σ' H' => ∃ (As' : Tab) (G3 : Hp), B1 Hw d pl (i + 1) As' path G3 H' ∧ σ' = [some (.ref sa), some (.ref rl), some (.ref W), some (.ref d), some (.ref pl), some (.int (0 + (i : Int))), some (.int n), some (.ref E), y8, none, none, none, none, none, none], ?_, ?_⟩
        · refine ⟨_, rfl, _, rfl, rl, _, _, .int z, rfl, rfl, SqL.of hrl3, hz, _, _, rfl, rfl, ⟨by decide, by decide⟩, _, _, rfl, rfl, (by show (0 : Int) < 4; decide), _, _, rfl, rfl, _, rfl, ?_⟩
          refine ite2 (fun c => ?_) (fun c => ?_)
          · have kl : ks.length = As.length := paired_ln prk
            refine ⟨_, rfl, _, rfl, _, rfl, d, _, rfl, DPut.k (k := .inl n) hd3 (by omega), As ++ [(n, es)], upd G2 d (.dK (putK ks (.inl n) (.ref E))), ⟨upd_sw dpl, by rw [upd_ne dpl]; exact np2, fun b o eb => ?_, ⟨_, upd_same, ?_⟩, by rw [List.length_append]; show As.length + 1 ≤ i + 1; omega, fun r hr => ?_, p8⟩, rfl⟩
            · rw [upd_ne (ne_of_none eb hd)]
              exact s2 _ _ (sG _ _ eb)
            · rw [putK_new vn]
              exact paired_ap (paired_mp (fun _ _ x => rowA_updD hd2 (x.same s2)) prk) (.cons ⟨rfl, E, rfl, ensA_updD hd2 ens⟩ .nil)
            · rcases List.mem_append.mp hr with hr | hr
              · exact rows r hr
              · rw [List.mem_singleton.mp hr]
                exact ⟨nb, by show es.length ≤ 4; omega, good⟩
          · exact ⟨As, G2, ⟨rfl, np2, Same.trans sG s2, ⟨ks, hd2, paired_mp (fun _ _ x => x.same s2) prk⟩, by omega, rows, p8⟩, rfl⟩
        · rintro σ' H' ⟨As', G3, ⟨e3, np3, s3, t3, l3, r3, _⟩, rfl⟩
          subst e3
          have hpl3 : upd G3 pl (.lst (path.map V.int)) pl = some (.lst (path.map V.int)) := upd_same
          refine ⟨_, rfl, pl, _, rfl, .inl (SqL.of hpl3), _, _, rfl, rfl, _, rfl, ?_⟩
          refine ite2 (fun c => ?_) (fun c => ⟨As', path, G3, _, _, _, _, ⟨rfl, np3, s3, t3, l3, r3, p8⟩, rfl⟩)
          have c' := of_decide_eq_true c
          rw [List.length_map] at c'
          refine ⟨_, rfl, _, rfl, pl, _, rfl, .inl (SqL.of hpl3), rfl, flat_is _, _, rfl, ?_⟩
          refine ite2 (fun c => ?_) (fun c => ⟨As', path, G3, _, _, _, _, ⟨rfl, np3, s3, t3, l3, r3, p8⟩, rfl⟩)
          refine ⟨_, rfl, .inl ⟨rfl, _, SqL.of hpl3⟩, _, rfl, pl, _, _, rfl, rfl, hpl3, by rw [List.length_map]; omega, As', path ++ [n], G3, _, _, _, _, ⟨?_, np3, s3, t3, l3, r3, ?_⟩, rfl⟩
          · rw [upd_upd, List.map_append]
            rfl
          · rw [List.length_append]
            show path.length + 1 ≤ 8
            omega
    · rintro σ H2 ⟨As, path, G, y5, y6, y7, y8, ⟨eG, np, sG, tab, al, rows, p8⟩, rfl⟩
      have gt : GoodT As := ⟨al, rows⟩
      have tab2 := tab.same (Sm.new (o := .lst (path.map V.int)) np)
      have hpl2 : upd G pl (.lst (path.map V.int)) pl = some (.lst (path.map V.int)) := upd_same
      rw [← eG] at tab2 hpl2
      obtain ⟨ks, hdk, prk⟩ := tab2
      have tab2 : TabA H2 d As := ⟨ks, hdk, prk⟩
      obtain ⟨w1, w2, w3, w4, w5⟩ := rep_pack (K := K) prk gt
      refine ⟨_, rfl, d, ks, dsOf As, rfl, hdk, w1, w2, w3, w4, w5, ?_⟩
      refine ⟨fun _ _ => True, ?_, fun σ' H' _ => ?_⟩
      · refine ⟨by show 6 ≤ sizeLine; decide, fun L hL => ⟨L, rfl, ⟨_, SqL.of upd_same⟩, ?_⟩⟩
        have s2L := Sm.new (o := .lst [V.str "click", V.str "input", V.str "pick", V.str "click_down", V.str "change", V.str "keydown"]) hL
        have hLL : upd H2 L (.lst [V.str "click", V.str "input", V.str "pick", V.str "click_down", V.str "change", V.str "keydown"]) L = some (.lst (ev6.map V.str)) := upd_same
        generalize upd H2 L (.lst [V.str "click", V.str "input", V.str "pick", V.str "click_down", V.str "change", V.str "keydown"]) = HL at s2L hLL ⊢
        refine for_it (walk_list (K := K) (a := L) (xs := ev6.map V.str)) (fun i σ H' => ∃ y5 y6 y7 y8 y10 y11 y12 y13 : Option V, Same HL H' ∧ σ = [some (.ref sa), some (.ref rl), some (.ref W), some (.ref d), some (.ref pl), y5, y6, y7, y8, some (.str (txt ks As)), y10, y11, y12, y13, none])
          ⟨_, _, _, _, _, _, _, _, Same.refl _, rfl⟩ (fun i σ H' _ ⟨_, _, _, _, _, _, _, _, z, _⟩ => SqL.of (z _ _ hLL)) ?_ (fun _ _ _ => trivial)
        rintro i x σ H3 H3' hi ⟨y5, y6, y7, y8, y10, y11, y12, y13, sL3, rfl⟩ ⟨rfl, hx⟩
        obtain ⟨ev, evm, rfl⟩ : ∃ ev ∈ ev6, x = .str ev := by
          have := List.mem_of_getElem? hx
          obtain ⟨ev, h1, h2⟩ := List.mem_map.mp this
          exact ⟨ev, h1, h2.symm⟩
        have evl : ev.length ≤ 100 := by
          have all : ∀ x ∈ ev6, x.length ≤ 100 := by decide
          exact all ev evm
        refine ⟨by show 0 ≤ sizeLine; decide, fun F0 hF0 => ?_⟩
        have s34 := Sm.new (o := .lst []) hF0
        have hpl4 := s34 _ _ (sL3 _ _ (s2L _ _ hpl2))
        refine ⟨_, rfl, pl, _, rfl, SqL.of hpl4, fun R hR => ⟨R, rfl, ⟨_, SqL.of upd_same⟩, ?_⟩⟩
        have s45 := Sm.new (o := .lst (path.map V.int).reverse) hR
        have hR5 : upd (upd H3' F0 (.lst [])) R (.lst (path.map V.int).reverse) R = some (.lst (path.map V.int).reverse) := upd_same
        have hF05 : upd (upd H3' F0 (.lst [])) R (.lst (path.map V.int).reverse) F0 = some (.lst []) := s45 _ _ upd_same
        have s3R := Same.trans s34 s45
        have hpl5 := s45 _ _ hpl4
        generalize upd (upd H3' F0 (.lst [])) R (.lst (path.map V.int).reverse) = H5 at s3R hR5 hF05 hpl5 ⊢
        have hF0R := hF05
        have hR := hR5
        have hpl := hpl5
        refine for_it (walk_list (K := K) (a := R) (xs := (path.map V.int).reverse)) (fun i σ H' => ∃ (F : Addr) (y6 : Option V), Same H5 H' ∧ AcsA H' F (foldA As (path.reverse.take i) (ev ++ "_down")) ∧ σ = [some (.ref sa), some (.ref rl), some (.ref W), some (.ref d), some (.ref pl), y5, y6, y7, y8, some (.str (txt ks As)), some (.str ev), some (.ref F), y12, y13, none]) ⟨F0, _, Same.refl _, ⟨[], by rw [hF0R]; rfl, .nil⟩, rfl⟩ (fun i σ H' _ ⟨_, _, z, _⟩ => SqL.of (z _ _ hR)) ?_ ?_
        · rintro i x σ H6 H7 hi ⟨F, y6, s6, acs6, rfl⟩ ⟨rfl, hx⟩
          have hi' : i < path.reverse.length := by simpa using hi
          have hg : path.reverse[i]? = some path.reverse[i] := List.getElem?_eq_getElem hi'
          have hx' : x = .int path.reverse[i] := by
            rw [← List.map_reverse, List.getElem?_map, hg] at hx
            exact (Option.some.inj hx).symm
          subst hx'
          refine ⟨_, rfl, comp_ok (ev := ev) (wd := ev ++ "_down") (fun σ' H' Q' h q => ⟨_, h, ev, "_down", rfl, rfl, by show ev.length + 5 ≤ sizeLine; omega, q⟩) (tab2.same (Same.trans s2L (Same.trans sL3 (Same.trans s3R s6)))) gt.few fun D H8 s8 hD acs8 => ?_⟩
          obtain ⟨qs, q1, q2⟩ := acs6.same8 s8
          obtain ⟨zs2, z1, z2⟩ := acs8
          refine ⟨F, D, _, _, rfl, rfl, q1, z1, ?_, fun p hp => ⟨p, _, Same.trans s6 (Same.trans s8 (Sm.new hp)), ⟨qs ++ zs2, by rw [upd_same, List.map_append], ?_⟩, rfl⟩⟩
          · rw [List.length_map, List.length_map, paired_ln q2, paired_ln z2]
            have b1 := fold_len gt.few (ev ++ "_down") (path.reverse.take i)
            have b2 := fold_len gt.few (ev ++ "_down") path.reverse
            have b3 := fold_len gt.few (ev ++ "_down") [path.reverse[i]]
            have e3 : foldA As [path.reverse[i]] (ev ++ "_down") = selA ((getE As path.reverse[i]).getD []) (ev ++ "_down") := by
              unfold foldA
              simp
            rw [e3] at b3
            have b4 : (path.reverse.take i).length ≤ 8 := by rw [List.length_take]; rw [List.length_reverse] at hi'; omega
            have b5 : path.reverse.length = path.length := List.length_reverse
            have b6 : ([path.reverse[i]] : List Int).length = 1 := rfl
            omega
          · rw [take_s hg, fold_snoc]
            exact paired_ap (paired_mp (fun _ _ x => x.same (Sm.new hp)) q2) (paired_mp (fun _ _ x => x.same (Sm.new hp)) z2)
        · rintro σ H6 ⟨F, y6, s5, acs5, rfl⟩
          have e : path.reverse.take (path.map V.int).reverse.length = path.reverse := List.take_of_length_le (by rw [List.length_reverse, List.length_reverse, List.length_map]; exact Nat.le_refl _)
          rw [e] at acs5
          refine ⟨_, rfl, pl, rfl, ⟨_, SqL.of (s5 _ _ hpl)⟩, ?_⟩
          refine for_it (walk_list (K := K) (a := pl) (xs := path.map V.int)) (fun i σ H' => ∃ (F : Addr) (y6 : Option V), Same H5 H' ∧ AcsA H' F (foldA As path.reverse (ev ++ "_down") ++ foldA As (path.take i) (ev)) ∧ σ = [some (.ref sa), some (.ref rl), some (.ref W), some (.ref d), some (.ref pl), y5, y6, y7, y8, some (.str (txt ks As)), some (.str ev), some (.ref F), y12, y13, none]) ⟨F, _, s5, by rw [show foldA As (path.take 0) ev = [] from rfl, List.append_nil]; exact acs5, rfl⟩ (fun i σ H' _ ⟨_, _, z, _⟩ => SqL.of (z _ _ hpl)) ?_ ?_
          · rintro i x σ H6 H7 hi ⟨F, y6, s6, acs6, rfl⟩ ⟨rfl, hx⟩
            have hi' : i < path.length := by rw [List.length_map] at hi; exact hi
            have hg : path[i]? = some path[i] := List.getElem?_eq_getElem hi'
            have hx' : x = .int path[i] := by
              rw [List.getElem?_map, hg] at hx
              exact (Option.some.inj hx).symm
            subst hx'
            refine ⟨_, rfl, comp_ok (ev := ev) (wd := ev) (fun σ' H' Q' h q => ⟨_, h, q⟩) (tab2.same (Same.trans s2L (Same.trans sL3 (Same.trans s3R s6)))) gt.few fun D H8 s8 hD acs8 => ?_⟩
            obtain ⟨qs, q1, q2⟩ := acs6.same8 s8
            obtain ⟨zs2, z1, z2⟩ := acs8
            refine ⟨F, D, _, _, rfl, rfl, q1, z1, ?_, fun p hp => ⟨p, _, Same.trans s6 (Same.trans s8 (Sm.new hp)), ⟨qs ++ zs2, by rw [upd_same, List.map_append], ?_⟩, rfl⟩⟩
            · rw [List.length_map, List.length_map, paired_ln q2, paired_ln z2]
              have b1 := fold_len gt.few (ev) (path.take i)
              have b2 := fold_len gt.few (ev ++ "_down") path.reverse
              have b3 := fold_len gt.few (ev) [path[i]]
              have e3 : foldA As [path[i]] (ev) = selA ((getE As path[i]).getD []) (ev) := by
                unfold foldA
                simp
              rw [e3] at b3
              have b4 : (path.take i).length ≤ 8 := by rw [List.length_take]; omega
              have b5 : path.reverse.length = path.length := List.length_reverse
              have b6 : ([path[i]] : List Int).length = 1 := rfl
              rw [List.length_append]
              omega
            · rw [take_s hg, fold_snoc, ← List.append_assoc]
              exact paired_ap (paired_mp (fun _ _ x => x.same (Sm.new hp)) q2) (paired_mp (fun _ _ x => x.same (Sm.new hp)) z2)
          · rintro σ H7 ⟨F, y6, s7, acs7, rfl⟩
            rw [List.length_map, List.take_length] at acs7
            have all7 : Same H2 H7 := Same.trans s2L (Same.trans sL3 (Same.trans s3R s7))
            have hpl7 := s7 _ _ hpl
            rw [← hear_eq] at acs7
            have shp := shaped_acs (as := hearL As path ev) (by
              rw [hear_eq]
              intro a ha
              rcases List.mem_append.mp ha with ha | ha
              · exact fold_ok gt a ha
              · exact fold_ok gt a ha)
            refine ⟨_, rfl, _, rfl, pl, _, rfl, .inl (SqL.of hpl7), fun l hl => ⟨_, rfl, d, l, As, path, ev, rfl, (tab2.same all7).same (Sm.new hl), gt.few, upd_same, p8, evl, fun q H8 s8 hq acs8 => ⟨_, rfl, .list ((hearL As path ev).map dAc), .list ((hearL As path ev).map dAc), dp_acl acs8, dp_acl ((acs7.same8 (Sm.new hl)).same8 s8), shp, shp, _, rfl, ?_⟩⟩⟩
            have all8 : Same H2 H8 := Same.trans all7 (Same.trans (Sm.new hl) s8)
            refine ite2 (fun c => absurd c (by rw [eqv_selfH shp]; simp)) (fun _ => ?_)
            obtain ⟨v1, v2, v3, v4, v5⟩ := rep_pack (K := K) (paired_mp (fun _ _ x => RowA.same x all8) prk) gt
            refine ⟨_, rfl, d, ks, dsOf As, rfl, all8 _ _ hdk, v1, v2, v3, v4, v5, _, rfl, rfl, _, rfl, ?_⟩
            refine ite2 (fun c => absurd c (by simp [txt])) (fun _ => ?_)
            refine ⟨fun σ' H' => Same HL H' ∧ ∃ y12 : Option V, σ' = [some (.ref sa), some (.ref rl), some (.ref W), some (.ref d), some (.ref pl), y5, y6, y7, y8, some (.str (txt ks As)), some (.str ev), some (.ref F), some (.int (if ev ∈ sy5 then 0 else 1)), y13, none], ?_, ?_⟩
            · refine ⟨_, rfl, by show 5 ≤ sizeLine; decide, fun l5 hl5 => ⟨l5, _, rfl, .inl (SqL.of upd_same), rfl, flat_s sy5, _, rfl, ?_⟩⟩
              have sHL : Same HL (upd H8 l5 (.lst [V.str "click", V.str "input", V.str "change", V.str "keydown", V.str "keyup"])) := Same.trans (Same.trans sL3 (Same.trans s3R s7)) (Same.trans (Same.trans (Sm.new hl) s8) (Sm.new hl5))
              have e5 : inV (.str ev) [V.str "click", V.str "input", V.str "change", V.str "keydown", V.str "keyup"] = decide (ev ∈ sy5) := inV_s ev sy5
              refine ite2 (fun c => ?_) (fun c => ?_)
              · have c' : ev ∈ sy5 := of_decide_eq_true (e5.symm.trans c)
                refine ⟨sHL, none, ?_⟩
                rw [if_pos c']
                rfl
              · have c' : ¬ ev ∈ sy5 := fun z => c (e5.trans (decide_eq_true z))
                refine ⟨sHL, none, ?_⟩
                rw [if_neg c']
                rfl
            · rintro σ' H9 ⟨s9, y12, rfl⟩
              refine ⟨_, rfl, ev, rfl, ?_⟩
              refine ⟨_, rfl, ev, rfl, _, rfl, rfl, _, rfl, ?_⟩
              refine ite2 (fun c => absurd c (by simp [sy5])) (fun _ => ?_)
              refine ⟨_, rfl, .bl (!decide (ev ∈ [("input" : Str), "change"])), .ty "bool", _, _, true, rfl, .ty _, .base (.bl _), kit_ty (by decide +kernel), true, rfl, ?_⟩
              refine ite2 (fun c => nomatch c) (fun _ => ?_)
              refine ⟨_, rfl, _, rfl, by show 2 ≤ sizeLine; decide, fun l2 hl2 => ⟨l2, _, rfl, .inl (SqL.of upd_same), rfl, flat_s [("input" : Str), "change"], rfl, _, rfl, ?_⟩⟩
              have e2 : inV (.str ev) [V.str "input", V.str "change"] = decide (ev ∈ [("input" : Str), "change"]) := inV_s ev [("input" : Str), "change"]
              refine ite2 (fun c => absurd c ?_) (fun _ => ?_)
              · show ¬ (!decide (V.bl (!decide (ev ∈ [("input" : Str), "change"])) = V.bl (!inV (.str ev) [V.str "input", V.str "change"]))) = true
                rw [e2]
                simp
              · exact ⟨_, _, _, _, _, _, _, _, Same.trans s9 (Sm.new hl2), rfl⟩
      · have k1 : (if ("keyup" : Str) ∈ [("click" : Str), "input", "change", "keydown", "keyup"] then (0 : Int) else 1) = 0 := by decide
        have k2 : (if ("custom" : Str) ∈ [("click" : Str), "input", "change", "keydown", "keyup"] then (0 : Int) else 1) = 1 := by decide
        have k3 : (!decide (("custom" : Str) ∈ [("input" : Str), "change"])) = true := by decide
        refine ⟨"keyup", rfl, ?_⟩
        rw [k1]
        refine ⟨rfl, _, rfl, iteT ?_⟩
        refine ⟨"custom", rfl, ?_⟩
        rw [k2]
        refine ⟨rfl, _, rfl, iteT ?_⟩
        refine ⟨"custom", rfl, ?_⟩
        rw [k3]
        exact ⟨_, _, rfl, rfl, k _⟩
end
end VL

set_option Elab.async false
set_option linter.all false
set_option maxRecDepth 100000
set_option maxHeartbeats 4000000
namespace VL
open PySem PySem.Spec PyProof.Rows L2
theorem all_mk {l : PySem.W.OpenLaw} {w : World} {K : PySem.W.Frag} {h : Heap} {mg : Str → Option Value} {fa aSchedule t_Schedule_PATIENCE t_Schedule_NAMES t_SYNC_EVENTS t_EVENTS_TO_THE_END f1 f2 f3 f4 f5 f6 f7 : Addr} (X : K.In h) (G : h.Ns mainGlobals mg) (hfa : mg "law" = some (.ref fa))
    {od1 an1 od2 an2 od3 an3 od4 an4 od5 an5 od6 an6 od7 an7 : Option Addr} {ts_Schedule_PATIENCE ts_Schedule_NAMES ts_SYNC_EVENTS ts_EVENTS_TO_THE_END sl1 sl2 sl3 sl4 sl5 sl6 sl7 : Array (Option Value)} {u_Schedule_SYNC u_Schedule_USUAL u_Schedule_TRANSITION u_Schedule_IDLE v_ON_THE_WAY_DOWN oc1 kV1 dc1 pm1 cd1 ct1 oc2 kV2 dc2 pm2 cd2 ct2 oc3 kV3 dc3 pm3 cd3 ct3 oc4 kV4 dc4 pm4 cd4 ct4 oc5 kV5 dc5 pm5 cd5 ct5 oc6 kV6 dc6 pm6 cd6 ct6 oc7 kV7 dc7 pm7 cd7 ct7 : Value} {ti_Schedule_PATIENCE ti_Schedule_NAMES ti_SYNC_EVENTS ti_EVENTS_TO_THE_END : Array Value} {tn_Schedule_PATIENCE tn_Schedule_NAMES tn_SYNC_EVENTS tn_EVENTS_TO_THE_END : Nat} 
    (q_Schedule : PySem.W.nsIn K mainGlobals "Schedule" = some (some (.ref aSchedule)))
    (pg_Schedule : PySem.W.plainGet K aSchedule Str.empty = true)
    (hd_Schedule : PySem.W.hasDictIn K aSchedule = true)
    (po_Schedule : PySem.W.plainOver K aSchedule = true)
    (sa_Schedule : PySem.W.findIn K (.ref aSchedule) "__setattr__" = some (some (.builtin "object.__setattr__")))
    (mk_Schedule : PySem.W.makesIn K aSchedule = true)
    (kc_Schedule : PySem.W.keepIn K (.ref aSchedule) = true)
    (n_Schedule_ticks : PySem.W.findIn K (.ref aSchedule) "ticks" = some none)
    (n_Schedule_portions : PySem.W.findIn K (.ref aSchedule) "portions" = some none)
    (rd_Schedule : PySem.W.readsIn K aSchedule (.type "type") = true)
    (ga_Schedule : PySem.W.specialIn K (.ref aSchedule) "__getattribute__" = some (some (.builtin "type.__getattribute__")))
    (cv_Schedule_SYNC : PySem.W.findCls K (.ref aSchedule) (.type "type") "SYNC" = some (.val u_Schedule_SYNC))
    (cn_Schedule_SYNC : PySem.W.findIn K (.ref aSchedule) "SYNC" = some (some u_Schedule_SYNC))
    (cg_Schedule_SYNC : PySem.W.specialIn K u_Schedule_SYNC "__get__" = some none)
    (cr_Schedule_SYNC : RelV (V.int 0) u_Schedule_SYNC)
    (cv_Schedule_USUAL : PySem.W.findCls K (.ref aSchedule) (.type "type") "USUAL" = some (.val u_Schedule_USUAL))
    (cn_Schedule_USUAL : PySem.W.findIn K (.ref aSchedule) "USUAL" = some (some u_Schedule_USUAL))
    (cg_Schedule_USUAL : PySem.W.specialIn K u_Schedule_USUAL "__get__" = some none)
    (cr_Schedule_USUAL : RelV (V.int 1) u_Schedule_USUAL)
    (cv_Schedule_TRANSITION : PySem.W.findCls K (.ref aSchedule) (.type "type") "TRANSITION" = some (.val u_Schedule_TRANSITION))
    (cn_Schedule_TRANSITION : PySem.W.findIn K (.ref aSchedule) "TRANSITION" = some (some u_Schedule_TRANSITION))
    (cg_Schedule_TRANSITION : PySem.W.specialIn K u_Schedule_TRANSITION "__get__" = some none)
    (cr_Schedule_TRANSITION : RelV (V.int 2) u_Schedule_TRANSITION)
    (cv_Schedule_IDLE : PySem.W.findCls K (.ref aSchedule) (.type "type") "IDLE" = some (.val u_Schedule_IDLE))
    (cn_Schedule_IDLE : PySem.W.findIn K (.ref aSchedule) "IDLE" = some (some u_Schedule_IDLE))
    (cg_Schedule_IDLE : PySem.W.specialIn K u_Schedule_IDLE "__get__" = some none)
    (cr_Schedule_IDLE : RelV (V.int 3) u_Schedule_IDLE)
    (cv_Schedule_PATIENCE : PySem.W.findCls K (.ref aSchedule) (.type "type") "PATIENCE" = some (.val (.ref t_Schedule_PATIENCE)))
    (cn_Schedule_PATIENCE : PySem.W.findIn K (.ref aSchedule) "PATIENCE" = some (some (.ref t_Schedule_PATIENCE)))
    (cg_Schedule_PATIENCE : PySem.W.specialIn K (.ref t_Schedule_PATIENCE) "__get__" = some none)
    (tl_Schedule_PATIENCE : K.lookup t_Schedule_PATIENCE = some ⟨.type "tuple", none, .seq ti_Schedule_PATIENCE tn_Schedule_PATIENCE, ts_Schedule_PATIENCE⟩)
    (tz_Schedule_PATIENCE : ti_Schedule_PATIENCE.size ≤ sizeLine)
    (tv_Schedule_PATIENCE : Vals VL.t_Schedule_PATIENCE ti_Schedule_PATIENCE.toList)
    (cv_Schedule_NAMES : PySem.W.findCls K (.ref aSchedule) (.type "type") "NAMES" = some (.val (.ref t_Schedule_NAMES)))
    (cn_Schedule_NAMES : PySem.W.findIn K (.ref aSchedule) "NAMES" = some (some (.ref t_Schedule_NAMES)))
    (cg_Schedule_NAMES : PySem.W.specialIn K (.ref t_Schedule_NAMES) "__get__" = some none)
    (tl_Schedule_NAMES : K.lookup t_Schedule_NAMES = some ⟨.type "tuple", none, .seq ti_Schedule_NAMES tn_Schedule_NAMES, ts_Schedule_NAMES⟩)
    (tz_Schedule_NAMES : ti_Schedule_NAMES.size ≤ sizeLine)
    (tv_Schedule_NAMES : Vals VL.t_Schedule_NAMES ti_Schedule_NAMES.toList)
    (z_bool : PySem.W.nsIn K mainGlobals "bool" = some none)
    (z_dict : PySem.W.nsIn K mainGlobals "dict" = some none)
    (z_int : PySem.W.nsIn K mainGlobals "int" = some none)
    (z_isinstance : PySem.W.nsIn K mainGlobals "isinstance" = some none)
    (z_len : PySem.W.nsIn K mainGlobals "len" = some none)
    (z_list : PySem.W.nsIn K mainGlobals "list" = some none)
    (z_range : PySem.W.nsIn K mainGlobals "range" = some none)
    (z_repr : PySem.W.nsIn K mainGlobals "repr" = some none)
    (z_reversed : PySem.W.nsIn K mainGlobals "reversed" = some none)
    (z_str : PySem.W.nsIn K mainGlobals "str" = some none)
    (z_tuple : PySem.W.nsIn K mainGlobals "tuple" = some none)
    (g_SYNC_EVENTS : PySem.W.nsIn K mainGlobals "SYNC_EVENTS" = some (some (.ref t_SYNC_EVENTS)))
    (tl_SYNC_EVENTS : K.lookup t_SYNC_EVENTS = some ⟨.type "tuple", none, .seq ti_SYNC_EVENTS tn_SYNC_EVENTS, ts_SYNC_EVENTS⟩)
    (tz_SYNC_EVENTS : ti_SYNC_EVENTS.size ≤ sizeLine)
    (tv_SYNC_EVENTS : Vals VL.t_SYNC_EVENTS ti_SYNC_EVENTS.toList)
    (g_EVENTS_TO_THE_END : PySem.W.nsIn K mainGlobals "EVENTS_TO_THE_END" = some (some (.ref t_EVENTS_TO_THE_END)))
    (tl_EVENTS_TO_THE_END : K.lookup t_EVENTS_TO_THE_END = some ⟨.type "tuple", none, .seq ti_EVENTS_TO_THE_END tn_EVENTS_TO_THE_END, ts_EVENTS_TO_THE_END⟩)
    (tz_EVENTS_TO_THE_END : ti_EVENTS_TO_THE_END.size ≤ sizeLine)
    (tv_EVENTS_TO_THE_END : Vals VL.t_EVENTS_TO_THE_END ti_EVENTS_TO_THE_END.toList)
    (g_ON_THE_WAY_DOWN : PySem.W.nsIn K mainGlobals "ON_THE_WAY_DOWN" = some (some v_ON_THE_WAY_DOWN))
    (r_ON_THE_WAY_DOWN : RelV (V.str "_down") v_ON_THE_WAY_DOWN)
    (a1 : PySem.W.nsIn K mainGlobals "copy_of" = some (some (.ref f1)))
    (l1 : K.lookup f1 = some ⟨oc1, od1, .func (PySem.W.fnOf "copy_of" "copy_of" (defArgs s_copy_of) (defBody s_copy_of) (defScope s_copy_of) .none kV1 dc1 pm1 an1 cd1 ct1), sl1⟩)
    (c1 : PySem.W.codeIn K cd1 "copy_of" = true)
    (k1 : PySem.W.keepIn K (.ref f1) = true)
    (a2 : PySem.W.nsIn K mainGlobals "hearers" = some (some (.ref f2)))
    (l2 : K.lookup f2 = some ⟨oc2, od2, .func (PySem.W.fnOf "hearers" "hearers" (defArgs s_hearers) (defBody s_hearers) (defScope s_hearers) .none kV2 dc2 pm2 an2 cd2 ct2), sl2⟩)
    (c2 : PySem.W.codeIn K cd2 "hearers" = true)
    (k2 : PySem.W.keepIn K (.ref f2) = true)
    (a3 : PySem.W.nsIn K mainGlobals "acts_for" = some (some (.ref f3)))
    (l3 : K.lookup f3 = some ⟨oc3, od3, .func (PySem.W.fnOf "acts_for" "acts_for" (defArgs s_acts_for) (defBody s_acts_for) (defScope s_acts_for) .none kV3 dc3 pm3 an3 cd3 ct3), sl3⟩)
    (c3 : PySem.W.codeIn K cd3 "acts_for" = true)
    (k3 : PySem.W.keepIn K (.ref f3) = true)
    (a4 : PySem.W.nsIn K mainGlobals "lane_of" = some (some (.ref f4)))
    (l4 : K.lookup f4 = some ⟨oc4, od4, .func (PySem.W.fnOf "lane_of" "lane_of" (defArgs s_lane_of) (defBody s_lane_of) (defScope s_lane_of) .none kV4 dc4 pm4 an4 cd4 ct4), sl4⟩)
    (c4 : PySem.W.codeIn K cd4 "lane_of" = true)
    (k4 : PySem.W.keepIn K (.ref f4) = true)
    (a5 : PySem.W.nsIn K mainGlobals "can_prevent" = some (some (.ref f5)))
    (l5 : K.lookup f5 = some ⟨oc5, od5, .func (PySem.W.fnOf "can_prevent" "can_prevent" (defArgs s_can_prevent) (defBody s_can_prevent) (defScope s_can_prevent) .none kV5 dc5 pm5 an5 cd5 ct5), sl5⟩)
    (c5 : PySem.W.codeIn K cd5 "can_prevent" = true)
    (k5 : PySem.W.keepIn K (.ref f5) = true)
    (a6 : PySem.W.nsIn K mainGlobals "_law_rows" = some (some (.ref f6)))
    (l6 : K.lookup f6 = some ⟨oc6, od6, .func (PySem.W.fnOf "_law_rows" "_law_rows" (defArgs s__law_rows) (defBody s__law_rows) (defScope s__law_rows) .none kV6 dc6 pm6 an6 cd6 ct6), sl6⟩)
    (c6 : PySem.W.codeIn K cd6 "_law_rows" = true)
    (k6 : PySem.W.keepIn K (.ref f6) = true)
    (a7 : PySem.W.nsIn K mainGlobals "law" = some (some (.ref f7)))
    (l7 : K.lookup f7 = some ⟨oc7, od7, .func (PySem.W.fnOf "law" "law" (defArgs s_law) (defBody s_law) (defScope s_law) .none kV7 dc7 pm7 an7 cd7 ct7), sl7⟩)
    (c7 : PySem.W.codeIn K cd7 "law" = true)
    (k7 : PySem.W.keepIn K (.ref f7) = true)
    : ∃ fd : FuncData, (∀ (s : Shared) (v : Value), BindsTo s fd ⟨[v], []⟩ [("script", v)]) ∧ ∀ base : Heap, K.In base → base.Ns mainGlobals mg → FnG l.prog w K mg base 6 fa fd ["script"] (spLaw K) := by
  have e := hfa.symm.trans (PySem.W.mg_of X G a7)
  cases e
  have F1 := fun_mk (st := s_copy_of) l1 c1 k1
  have b1 := F1.binds (ps := ["value"]) fun _ _ _ _ _ _ us hl => match us, hl with | [_], _ => rfl
  have F2 := fun_mk (st := s_hearers) l2 c2 k2
  have b2 := F2.binds (ps := ["acts", "path", "event"]) fun _ _ _ _ _ _ us hl => match us, hl with | [_, _, _], _ => rfl
  have F3 := fun_mk (st := s_acts_for) l3 c3 k3
  have b3 := F3.binds (ps := ["pairs", "word"]) fun _ _ _ _ _ _ us hl => match us, hl with | [_, _], _ => rfl
  have F4 := fun_mk (st := s_lane_of) l4 c4 k4
  have b4 := F4.binds (ps := ["event"]) fun _ _ _ _ _ _ us hl => match us, hl with | [_], _ => rfl
  have F5 := fun_mk (st := s_can_prevent) l5 c5 k5
  have b5 := F5.binds (ps := ["event"]) fun _ _ _ _ _ _ us hl => match us, hl with | [_], _ => rfl
  have F6 := fun_mk (st := s__law_rows) l6 c6 k6
  have b6 := F6.binds (ps := ["script", "count"]) fun _ _ _ _ _ _ us hl => match us, hl with | [_, _], _ => rfl
  have T : Txt K w mg ⟨(), aSchedule⟩ := {
    g_Schedule := ⟨_, PySem.W.mg_of X G q_Schedule, rfl⟩,
    cl_Schedule := ⟨pg_Schedule, hd_Schedule, po_Schedule, sa_Schedule⟩,
    n_Schedule_ticks := n_Schedule_ticks,
    n_Schedule_portions := n_Schedule_portions,
    rd_Schedule := ⟨rd_Schedule, ga_Schedule⟩,
    cc_Schedule_SYNC := ⟨_, ⟨cv_Schedule_SYNC, cr_Schedule_SYNC⟩, ⟨cn_Schedule_SYNC, cr_Schedule_SYNC, cg_Schedule_SYNC, by decide +kernel⟩⟩,
    cc_Schedule_USUAL := ⟨_, ⟨cv_Schedule_USUAL, cr_Schedule_USUAL⟩, ⟨cn_Schedule_USUAL, cr_Schedule_USUAL, cg_Schedule_USUAL, by decide +kernel⟩⟩,
    cc_Schedule_TRANSITION := ⟨_, ⟨cv_Schedule_TRANSITION, cr_Schedule_TRANSITION⟩, ⟨cn_Schedule_TRANSITION, cr_Schedule_TRANSITION, cg_Schedule_TRANSITION, by decide +kernel⟩⟩,
    cc_Schedule_IDLE := ⟨_, ⟨cv_Schedule_IDLE, cr_Schedule_IDLE⟩, ⟨cn_Schedule_IDLE, cr_Schedule_IDLE, cg_Schedule_IDLE, by decide +kernel⟩⟩,
    cc_Schedule_PATIENCE := ⟨_, _, ⟨cv_Schedule_PATIENCE, rfl⟩, ⟨cn_Schedule_PATIENCE, rfl, cg_Schedule_PATIENCE, by decide +kernel⟩, fun H => .inr ⟨_, _, _, tl_Schedule_PATIENCE, rfl, rfl, tz_Schedule_PATIENCE, tv_Schedule_PATIENCE⟩, ⟨_, _, _, tl_Schedule_PATIENCE, rfl, rfl, tz_Schedule_PATIENCE, tv_Schedule_PATIENCE, rfl⟩⟩,
    cc_Schedule_NAMES := ⟨_, _, ⟨cv_Schedule_NAMES, rfl⟩, ⟨cn_Schedule_NAMES, rfl, cg_Schedule_NAMES, by decide +kernel⟩, fun H => .inr ⟨_, _, _, tl_Schedule_NAMES, rfl, rfl, tz_Schedule_NAMES, tv_Schedule_NAMES⟩, ⟨_, _, _, tl_Schedule_NAMES, rfl, rfl, tz_Schedule_NAMES, tv_Schedule_NAMES, rfl⟩⟩,
    z_bool := PySem.W.mg_none_of X G z_bool,
    z_dict := PySem.W.mg_none_of X G z_dict,
    z_int := PySem.W.mg_none_of X G z_int,
    z_isinstance := PySem.W.mg_none_of X G z_isinstance,
    z_len := PySem.W.mg_none_of X G z_len,
    z_list := PySem.W.mg_none_of X G z_list,
    z_range := PySem.W.mg_none_of X G z_range,
    z_repr := PySem.W.mg_none_of X G z_repr,
    z_reversed := PySem.W.mg_none_of X G z_reversed,
    z_str := PySem.W.mg_none_of X G z_str,
    z_tuple := PySem.W.mg_none_of X G z_tuple,
    g_SYNC_EVENTS := ⟨_, ⟨_, PySem.W.mg_of X G g_SYNC_EVENTS, rfl⟩, fun H => .inr ⟨_, _, _, tl_SYNC_EVENTS, rfl, rfl, tz_SYNC_EVENTS, tv_SYNC_EVENTS⟩, ⟨_, _, _, tl_SYNC_EVENTS, rfl, rfl, tz_SYNC_EVENTS, tv_SYNC_EVENTS, rfl⟩⟩,
    g_EVENTS_TO_THE_END := ⟨_, ⟨_, PySem.W.mg_of X G g_EVENTS_TO_THE_END, rfl⟩, fun H => .inr ⟨_, _, _, tl_EVENTS_TO_THE_END, rfl, rfl, tz_EVENTS_TO_THE_END, tv_EVENTS_TO_THE_END⟩, ⟨_, _, _, tl_EVENTS_TO_THE_END, rfl, rfl, tz_EVENTS_TO_THE_END, tv_EVENTS_TO_THE_END, rfl⟩⟩,
    g_ON_THE_WAY_DOWN := ⟨_, PySem.W.mg_of X G g_ON_THE_WAY_DOWN, r_ON_THE_WAY_DOWN⟩,
    d_copy_of := ⟨_, _, F1, PySem.W.mg_of X G a1, b1⟩,
    d_hearers := ⟨_, _, F2, PySem.W.mg_of X G a2, b2⟩,
    d_acts_for := ⟨_, _, F3, PySem.W.mg_of X G a3, b3⟩,
    d_lane_of := ⟨_, _, F4, PySem.W.mg_of X G a4, b4⟩,
    d_can_prevent := ⟨_, _, F5, PySem.W.mg_of X G a5, b5⟩,
    d__law_rows := ⟨_, _, F6, PySem.W.mg_of X G a6, b6⟩ }
  exact ⟨_, fun s v => .of_eq rfl, fun base _ _ => ok_law (fun_mk (st := s_law) l7 c7 k7) T⟩
theorem walk {l : PySem.W.OpenLaw} {q : Program} {loose : List Str} {XP : (Str → Option Value) → Heap → Prop} {YP : World → Heap → Prop} {d : DefRec} {K : Params → PySem.W.Frag} (hn : l.most = some 63) (hdf : d.params.defaults = [])
    (hY : ∀ (w : World) (h : Heap), YP w h → (K w.params).In h)
    (F : ∀ (w : World) (mg : Str → Option Value) (fa : Addr) (h : Heap), (K w.params).In h → h.Ns mainGlobals mg → mg d.name = some (.ref fa) →
      ∃ fd : FuncData, (∀ (s : Shared) (u : Value), BindsTo s fd ⟨[u], []⟩ [("script", u)]) ∧ ∀ base : Heap, (K w.params).In base → base.Ns mainGlobals mg → FnG l.prog w (K w.params) mg base 6 fa fd ["script"] (spLaw (K w.params))) :
    PySem.W.WalkO q loose XP YP l.row.toRowW d [] (fun f vs => PySem.call f vs) :=
  walk_ofG (n := 63) (k := 6) (x := "script") (sp := fun w => spLaw (K w.params)) hn (by decide) hdf ⟨rfl, by decide, by decide⟩ hY F (fun _ _ a ns hl _ hS => ⟨a, ns, rfl, hS, hl, fun _ => rfl⟩)
end VL

open PySem PySem.W PyProof.Rows in
set_option maxRecDepth 100000 in
set_option maxHeartbeats 0 in
theorem PySem.Challenge.cw_viewloom_k60_hearers_in_order_holds : PySem.Challenge.rw_viewloom_k60_hearers_in_order.Holds := by
  w_on; o_law; k_head; (case hw => w_witness2)
  k_fill
  refine VL.walk (l := PySem.Challenge.rw_viewloom_k60_hearers_in_order) rfl rfl (fun w h Y => PySem.W.kIn_of Y) ?F
  case F =>
    intro w mg fa h KX G hmg
    refine' VL.all_mk KX G hmg ?q_Schedule ?pg_Schedule ?hd_Schedule ?po_Schedule ?sa_Schedule ?mk_Schedule ?kc_Schedule ?n_Schedule_ticks ?n_Schedule_portions ?rd_Schedule ?ga_Schedule ?cv_Schedule_SYNC ?cn_Schedule_SYNC ?cg_Schedule_SYNC ?cr_Schedule_SYNC ?cv_Schedule_USUAL ?cn_Schedule_USUAL ?cg_Schedule_USUAL ?cr_Schedule_USUAL ?cv_Schedule_TRANSITION ?cn_Schedule_TRANSITION ?cg_Schedule_TRANSITION ?cr_Schedule_TRANSITION ?cv_Schedule_IDLE ?cn_Schedule_IDLE ?cg_Schedule_IDLE ?cr_Schedule_IDLE ?cv_Schedule_PATIENCE ?cn_Schedule_PATIENCE ?cg_Schedule_PATIENCE ?tl_Schedule_PATIENCE ?tz_Schedule_PATIENCE ?tv_Schedule_PATIENCE ?cv_Schedule_NAMES ?cn_Schedule_NAMES ?cg_Schedule_NAMES ?tl_Schedule_NAMES ?tz_Schedule_NAMES ?tv_Schedule_NAMES ?z_bool ?z_dict ?z_int ?z_isinstance ?z_len ?z_list ?z_range ?z_repr ?z_reversed ?z_str ?z_tuple ?g_SYNC_EVENTS ?tl_SYNC_EVENTS ?tz_SYNC_EVENTS ?tv_SYNC_EVENTS ?g_EVENTS_TO_THE_END ?tl_EVENTS_TO_THE_END ?tz_EVENTS_TO_THE_END ?tv_EVENTS_TO_THE_END ?g_ON_THE_WAY_DOWN ?r_ON_THE_WAY_DOWN ?a1 ?l1 ?c1 ?k1 ?a2 ?l2 ?c2 ?k2 ?a3 ?l3 ?c3 ?k3 ?a4 ?l4 ?c4 ?k4 ?a5 ?l5 ?c5 ?k5 ?a6 ?l6 ?c6 ?k6 ?a7 ?l7 ?c7 ?k7
    (case q_Schedule => k_is)
    (case pg_Schedule => k_is)
    (case hd_Schedule => k_is)
    (case po_Schedule => k_is)
    (case sa_Schedule => k_is)
    (case mk_Schedule => k_is)
    (case kc_Schedule => k_is)
    (case n_Schedule_ticks => k_is)
    (case n_Schedule_portions => k_is)
    (case rd_Schedule => k_is)
    (case ga_Schedule => k_is)
    (case cv_Schedule_SYNC => k_is)
    (case cn_Schedule_SYNC => k_is)
    (case cg_Schedule_SYNC => k_is)
    (case cr_Schedule_SYNC => exact ⟨_, rfl⟩)
    (case cv_Schedule_USUAL => k_is)
    (case cn_Schedule_USUAL => k_is)
    (case cg_Schedule_USUAL => k_is)
    (case cr_Schedule_USUAL => exact ⟨_, rfl⟩)
    (case cv_Schedule_TRANSITION => k_is)
    (case cn_Schedule_TRANSITION => k_is)
    (case cg_Schedule_TRANSITION => k_is)
    (case cr_Schedule_TRANSITION => exact ⟨_, rfl⟩)
    (case cv_Schedule_IDLE => k_is)
    (case cn_Schedule_IDLE => k_is)
    (case cg_Schedule_IDLE => k_is)
    (case cr_Schedule_IDLE => exact ⟨_, rfl⟩)
    (case cv_Schedule_PATIENCE => k_is)
    (case cn_Schedule_PATIENCE => k_is)
    (case cg_Schedule_PATIENCE => k_is)
    (case tl_Schedule_PATIENCE => k_is)
    (case tz_Schedule_PATIENCE => show 4 ≤ sizeLine; decide)
    (case tv_Schedule_PATIENCE => exact (.cons ⟨_, rfl⟩ (.cons ⟨_, rfl⟩ (.cons ⟨_, rfl⟩ (.cons ⟨_, rfl⟩ .nil)))))
    (case cv_Schedule_NAMES => k_is)
    (case cn_Schedule_NAMES => k_is)
    (case cg_Schedule_NAMES => k_is)
    (case tl_Schedule_NAMES => k_is)
    (case tz_Schedule_NAMES => show 4 ≤ sizeLine; decide)
    (case tv_Schedule_NAMES => exact (.cons ⟨_, rfl⟩ (.cons ⟨_, rfl⟩ (.cons ⟨_, rfl⟩ (.cons ⟨_, rfl⟩ .nil)))))
    (case z_bool => k_is)
    (case z_dict => k_is)
    (case z_int => k_is)
    (case z_isinstance => k_is)
    (case z_len => k_is)
    (case z_list => k_is)
    (case z_range => k_is)
    (case z_repr => k_is)
    (case z_reversed => k_is)
    (case z_str => k_is)
    (case z_tuple => k_is)
    (case g_SYNC_EVENTS => k_is)
    (case tl_SYNC_EVENTS => k_is)
    (case tz_SYNC_EVENTS => show 5 ≤ sizeLine; decide)
    (case tv_SYNC_EVENTS => exact (.cons ⟨_, rfl⟩ (.cons ⟨_, rfl⟩ (.cons ⟨_, rfl⟩ (.cons ⟨_, rfl⟩ (.cons ⟨_, rfl⟩ .nil))))))
    (case g_EVENTS_TO_THE_END => k_is)
    (case tl_EVENTS_TO_THE_END => k_is)
    (case tz_EVENTS_TO_THE_END => show 2 ≤ sizeLine; decide)
    (case tv_EVENTS_TO_THE_END => exact (.cons ⟨_, rfl⟩ (.cons ⟨_, rfl⟩ .nil)))
    (case g_ON_THE_WAY_DOWN => k_is)
    (case r_ON_THE_WAY_DOWN => exact ⟨_, rfl⟩)
    (case a1 => k_is)
    (case l1 => k_is)
    (case c1 => k_is)
    (case k1 => k_is)
    (case a2 => k_is)
    (case l2 => k_is)
    (case c2 => k_is)
    (case k2 => k_is)
    (case a3 => k_is)
    (case l3 => k_is)
    (case c3 => k_is)
    (case k3 => k_is)
    (case a4 => k_is)
    (case l4 => k_is)
    (case c4 => k_is)
    (case k4 => k_is)
    (case a5 => k_is)
    (case l5 => k_is)
    (case c5 => k_is)
    (case k5 => k_is)
    (case a6 => k_is)
    (case l6 => k_is)
    (case c6 => k_is)
    (case k6 => k_is)
    (case a7 => k_is)
    (case l7 => k_is)
    (case c7 => k_is)
    (case k7 => k_is)
#print axioms PySem.Challenge.cw_viewloom_k60_hearers_in_order_holds
