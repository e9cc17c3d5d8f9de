import PyProof.Rows.All
import Wide.All
import OpenK.AllK
import Wide.FinOn
import HandS.ForMost
import HandS.More
import HandS.Codes
import HandS.Ends
import PyProof.ReprRoads
import PyProof.ReprReads
import PyProof.RowDictHeap
import HandS.DictComp
import HandS.Walk
import HandS.Defaults
import HandS.Property
import HandS.ClsMeth
import HandS.ExcIs
import HandS.RaiseMore
import HandS.ForExc
import HandS.IsInst
import HandS.DeepEq
import HandS.Deep
import HandS.StrMore
import HandS.Steps
import HandS.Style
import HandS.TupLe
import HandS.ListItems
import PySem.Challenge.RW_viewloom_k75_what_another_program_keeps
set_option Elab.async false
set_option linter.all false
set_option maxRecDepth 100000
set_option maxHeartbeats 4000000
namespace VL
open PySem PySem.Spec PyProof.Rows L2

/-! ### defs, methods, classes, as callers see them -/
structure Cal (P : Program) (w : World) (K : PySem.W.Frag) (mg : Str → Option Value) (base : Heap) (k : Nat) (x : Str) (sp : Sp) : Prop where
  ex : ∃ (f : Addr) (fd : FuncData) (ps : List Str), FnOk P w K mg base CX0 k f fd ps sp ∧ mg x = some (.ref f) ∧ PySem.W.keepIn K (.ref f) = true ∧ Binds K fd ps []
structure Met (P : Program) (w : World) (K : PySem.W.Frag) (mg : Str → Option Value) (base : Heap) (k : Nat) (C : Addr) (m : Str) (sp : Sp) : Prop where
  ex : ∃ (f : Addr) (fd : FuncData) (ps : List Str), Cls K C ∧ Meth K C m f ∧ FnOk P w K mg base CX0 k f fd ps sp ∧ Binds K fd ps []
structure Mak (P : Program) (w : World) (K : PySem.W.Frag) (mg : Str → Option Value) (base : Heap) (k : Nat) (x : Str) (C : Addr) (sp : Sp) : Prop where
  ex : ∃ (f : Addr) (fd : FuncData) (ps : List Str), Mk K C f ∧ FnOk P w K mg base CX0 k f fd ps sp ∧ mg x = some (.ref C) ∧ Binds K fd ps []
section
variable {X : Cx} {k j : Nat} {C : Addr} {x m : Str} {sp : Sp} {p pos apos : Pos} {e o : Expr} {es : List Expr} {ta : TE} {t : TA}
theorem pe_c (c : Cal X.prog X.w X.K X.mg X.base k x sp) (hr : Room j X.A) (hk : k ≤ j) (hg : Gl X x) (ha : PA X (e :: es) t)
    (hdb : (x == ("__debug__" : Str)) = false := by decide) (he : starEach (e :: es) X.env = (false, eval e X.env) :: starEach es X.env := by rfl) (hpl : (backTo pos (starEach es X.env)).any (·.1) = false := by rfl) :
    PE X (.Call (.Name x p) (e :: es) [] pos) (tCall sp [] E0 t) := by
  obtain ⟨f, fd, ps, F, hm, kp, b⟩ := c.ex
  exact pe_call F (hr.mono hk) hg hm kp b .nil pass0 ha hdb he hpl
theorem pe_mk (c : Mak X.prog X.w X.K X.mg X.base k x C sp) (hr : Room j X.A) (hk : k + 1 ≤ j) (hg : Gl X x) (ha : PA X (e :: es) t)
    (hdb : (x == ("__debug__" : Str)) = false := by decide) (he : starEach (e :: es) X.env = (false, eval e X.env) :: starEach es X.env := by rfl) (hpl : (backTo pos (starEach es X.env)).any (·.1) = false := by rfl) :
    PE X (.Call (.Name x p) (e :: es) [] pos) (tMake C sp [] E0 t) := by
  obtain ⟨f, fd, ps, M, F, hm, b⟩ := c.ex
  exact pe_make M F (hr.mono hk) hg hm b .nil pass0 ha hdb he hpl
theorem pe_mk0 (c : Mak X.prog X.w X.K X.mg X.base k x C sp) (hr : Room j X.A) (hk : k + 1 ≤ j) (hg : Gl X x) (hdb : (x == ("__debug__" : Str)) = false := by decide) :
    PE X (.Call (.Name x p) [] [] pos) (tMake C sp [] E0 tNil) := by
  obtain ⟨f, fd, ps, M, F, hm, b⟩ := c.ex
  exact pe_make0 M F (hr.mono hk) hg hm b .nil pass0 hdb
theorem pe_mt {pl : Sem Bool} (c : Met X.prog X.w X.K X.mg X.base k C m sp) (hr : Room j X.A) (hk : k ≤ j) (he : PE X o ta) (ha : PA X (e :: es) t)
    (hst : starEach (e :: es) X.env = (false, eval e X.env) :: starEach es X.env := by rfl) (hpl : (backTo pos (starEach es X.env)).any (·.1) = false := by rfl)
    (ht : eval (.Call (.Attribute o m apos) (e :: es) [] pos) X.env = (do
      let ov ← eval o X.env
      standAt apos.atName
      let (f, first) ← holding [ov] (getMethod ov m pl)
      callWith pos f first (backTo pos (starEach (e :: es) X.env)) (backToKw pos (keywordEach [] X.env))) := by rfl) :
    PE X (.Call (.Attribute o m apos) (e :: es) [] pos) (tMeth C m sp [] E0 ta t) := by
  obtain ⟨f, fd, ps, hc, hm, F, b⟩ := c.ex
  exact pe_meth (pl := pl) he hc hm F (hr.mono hk) b .nil pass0 ha hst hpl ht
theorem pe_mt0 {pl : Sem Bool} (c : Met X.prog X.w X.K X.mg X.base k C m sp) (hr : Room j X.A) (hk : k ≤ j) (he : PE X o ta)
    (ht : eval (.Call (.Attribute o m apos) [] [] pos) X.env = (do
      let ov ← eval o X.env
      standAt apos.atName
      let (f, first) ← holding [ov] (getMethod ov m pl)
      callWith pos f first (backTo pos (starEach [] X.env)) (backToKw pos (keywordEach [] X.env))) := by rfl) :
    PE X (.Call (.Attribute o m apos) [] [] pos) (tMeth C m sp [] E0 ta tNil) := by
  obtain ⟨f, fd, ps, hc, hm, F, b⟩ := c.ex
  exact pe_meth0 (pl := pl) he hc hm F (hr.mono hk) b .nil pass0 ht
end

/-! ### what the text has -/
def DefE (K : PySem.W.Frag) (mg : Str → Option Value) (x : Str) (st : Stmt) (ps : List Str) : Prop := ∃ (f : Addr) (fd : FuncData), Fun K x x st f fd ∧ mg x = some (.ref f) ∧ Binds K fd ps []
def MethE (K : PySem.W.Frag) (C : Addr) (x qual : Str) (st : Stmt) (ps : List Str) : Prop := ∃ (f : Addr) (fd : FuncData), Fun K x qual st f fd ∧ Meth K C x f ∧ Binds K fd ps []
def InitE (K : PySem.W.Frag) (mg : Str → Option Value) (cn : Str) (C : Addr) (qual : Str) (st : Stmt) (ps : List Str) : Prop := ∃ (f : Addr) (fd : FuncData), Fun K "__init__" qual st f fd ∧ Mk K C f ∧ mg cn = some (.ref C) ∧ Binds K fd ps []
/-- a global name of the module has the value v -/
abbrev GV (mg : Str → Option Value) (x : Str) (v : V) : Prop := ∃ u, mg x = some u ∧ RelV v u
section
variable {P : Program} {w : World} {K : PySem.W.Frag} {mg : Str → Option Value} {base : Heap}
theorem cal_of {x : Str} {st : Stmt} {ps N : List Str} {k : Nat} {sp : Sp} (D : DefE K mg x st ps) (S : FnScope N ps (defScope st)) (len : ∀ vs H Q E, sp vs H Q E → vs.length = ps.length)
    (hbody : ∀ (f : Addr) (cdv : Value) (A : Around) (outer : List Env) (s : Shared) (H : Hp) (vs : List V) (Q : VK) (E : XK), Room k (A.deeper (envOfC x (defScope st) s.heap.objs.size f cdv)) → sp vs H Q E →
      ∃ t, PSs (cxOf CX0 P w K mg base N x (defScope st) f cdv A outer s H E).nox (defBody st) t ∧ t { nx := fun _ H' => Q .non H', rt := Q } (start N vs) H) : Cal P w K mg base (k + 1) x sp := by
  obtain ⟨f, fd, F, hm, b⟩ := D
  exact ⟨f, fd, ps, F.ok S len (hbody f), hm, F.kp, b⟩
theorem met_of {C : Addr} {x qual : Str} {st : Stmt} {ps N : List Str} {k : Nat} {sp : Sp} (D : MethE K C x qual st ps) (c : Cls K C) (S : FnScope N ps (defScope st)) (len : ∀ vs H Q E, sp vs H Q E → vs.length = ps.length)
    (hbody : ∀ (f : Addr) (cdv : Value) (A : Around) (outer : List Env) (s : Shared) (H : Hp) (vs : List V) (Q : VK) (E : XK), Room k (A.deeper (envOfC qual (defScope st) s.heap.objs.size f cdv)) → sp vs H Q E →
      ∃ t, PSs (cxOf CX0 P w K mg base N qual (defScope st) f cdv A outer s H E).nox (defBody st) t ∧ t { nx := fun _ H' => Q .non H', rt := Q } (start N vs) H) : Met P w K mg base (k + 1) C x sp := by
  obtain ⟨f, fd, F, hm, b⟩ := D
  exact ⟨f, fd, ps, c, hm, F.ok S len (hbody f), b⟩
theorem mak_of {C : Addr} {cn qual : Str} {st : Stmt} {ps N : List Str} {k : Nat} {sp : Sp} (D : InitE K mg cn C qual st ps) (S : FnScope N ps (defScope st)) (len : ∀ vs H Q E, sp vs H Q E → vs.length = ps.length)
    (hbody : ∀ (f : Addr) (cdv : Value) (A : Around) (outer : List Env) (s : Shared) (H : Hp) (vs : List V) (Q : VK) (E : XK), Room k (A.deeper (envOfC qual (defScope st) s.heap.objs.size f cdv)) → sp vs H Q E →
      ∃ t, PSs (cxOf CX0 P w K mg base N qual (defScope st) f cdv A outer s H E).nox (defBody st) t ∧ t { nx := fun _ H' => Q .non H', rt := Q } (start N vs) H) : Mak P w K mg base (k + 1) cn C sp := by
  obtain ⟨f, fd, F, M, hm, b⟩ := D
  exact ⟨f, fd, ps, M, F.ok S len (hbody f), hm, b⟩
end
theorem ps_str_loc : True := trivial
end VL

set_option Elab.async false
set_option linter.all false
set_option maxRecDepth 100000
set_option maxHeartbeats 4000000
namespace VL
open PySem PySem.Spec PyProof.Rows L2

/-! ### a def that is called where nothing is being shown: the law's own; repr of nested data there -/
structure FnG (P : Program) (w : World) (K : PySem.W.Frag) (mg : Str → Option Value) (base : Heap) (k : Nat) (f : Addr) (fd : FuncData) (ps : List Str) (sp : Sp) : Prop where
  run : ∀ (A : Around) (outer : List Env) (s : Shared) (H : Hp) (args : Args) (us : List Value) (vs : List V) (Q : VK) (E : XK), A.guards = some [] → Room k A → Env0 P w K mg base A outer s H → BindsTo s fd args (ps.zip us) → Vals vs us → sp vs H Q E →
    codeAny (model P w) A (.call (.ref f) args) (CR CX0 outer P w H s Q E) s
theorem fnG_of {P : Program} {w : World} {K : PySem.W.Frag} {mg : Str → Option Value} {base : Heap} {x qual : Str} {st : Stmt} {f : Addr} {fd : FuncData} {N ps : List Str} {k : Nat} {sp : Sp} (F : Fun K x qual st f fd) (S : FnScope N ps (defScope st)) (len : ∀ vs H Q E, sp vs H Q E → vs.length = ps.length)
    (hb0 : ∀ (cdv : Value) (A : Around) (outer : List Env) (s : Shared) (H : Hp) (vs : List V) (Q : VK) (E : XK), A.guards = some [] → Room k (A.deeper (envOfC qual (defScope st) s.heap.objs.size f cdv)) → sp vs H Q E →
      ∃ t, PSs (cxOf CX0 P w K mg base N qual (defScope st) f cdv A outer s H E).nox (defBody st) t ∧ t { nx := fun _ H' => Q .non H', rt := Q } (start N vs) H) : FnG P w K mg base (k + 1) f fd ps sp := by
  obtain ⟨oc, od, kV, doc, pm, an, cdv, ct, osl, rfl, lk, hcd⟩ := F.ex
  refine ⟨fun A outer s H args us vs Q E gd hr en hb rv hsp => ?_⟩
  have hlen := len _ _ _ _ hsp
  have kin : K.In s.heap := en.mod.kin.keeps fun b o e => (en.bs b o e).1
  have nl : s.heap.NoLimit := en.mod.nolimit.keeps fun b o e => (en.bs b o e).1
  have kinds : ∀ y ∈ ps.zip us, (defScope st).names.lookup y.1 = some .local ∨ ((defScope st).names.lookup y.1 = some .cell ∧ ((cellsFrom (s.heap.objs.size + 1) (defScope st).names []).lookup y.1).isSome = true) := fun ⟨n, v⟩ hy => by
    rcases S.par n (List.of_mem_zip hy).1 with c | c
    · exact .inl c
    · exact .inr ⟨c, PySem.W.cellsFrom_some _ _ _ (.inl c)⟩
  refine codeAny_call_function hr.depth (kin _ _ lk) rfl S.co S.gen rfl (PySem.W.codeRec_of kin hcd) (hb _ _ _ _ ?_)
  refine wpAny_newFunctionEnv_cells S.kind kinds fun env he s1 ic => ?_
  subst he
  refine ⟨nl.keeps ic.toInCall.keep, codeAny_func ?_⟩
  obtain ⟨t, hd, hq⟩ := hb0 cdv A outer s H vs Q E gd (hr.deeper _) hsp
  have J0 : Inv (cxOf CX0 P w K mg base N qual (defScope st) f cdv A outer s H E) [] (start N vs) H s1 := inv_start S hr.hd en hlen rv ic
  refine wpAny_mono (hd.nox.run [] s1 (start N vs) H _ J0 hq) (fun fl s2 hs => ?_) fun e s2 hs => hs
  have done : ∀ {σ2 : L2.St} {H2 : Hp} {v : V} {u : Value}, Inv (cxOf CX0 P w K mg base N qual (defScope st) f cdv A outer s H E) [] σ2 H2 s2 → RelV v u → Q v H2 → CE outer P w H s Q u s2 :=
    fun {σ2 H2 v u} J rw q => ⟨v, H2, J.os, J.bare, J.base, J.hok, rw, q⟩
  cases fl with
  | ret u =>
    obtain ⟨v, σ2, H2, J, rw, q⟩ := hs
    exact done J rw q
  | next =>
    obtain ⟨σ2, H2, J, q⟩ := hs
    exact done (v := V.non) (u := Value.none) J rfl q
  | brk => exact hs.elim fun _ z => z.elim fun _ z => z.2.elim
  | cont => exact hs.elim fun _ z => z.elim fun _ z => z.2.elim
/-- the law's call, where nothing is being shown -/
theorem law_callG {P : Program} {w : World} {K : PySem.W.Frag} {mg mb : Str → Option Value} {k : Nat} {fa a : Addr} {fd : FuncData} {x : Str} {sp : Sp} {s₁ : Shared} {vs : List Value} {ns : List Int}
    (kin : K.In s₁.heap) (ng : s₁.heap.Ns mainGlobals mg) (nb : s₁.heap.Ns builtinsNs mb) (bb : ∀ x : Str, x ≠ "__name__" → mb x = bootBuiltins x) (nl : s₁.heap.NoLimit) (hgen : s₁.gens = #[])
    (ea : s₁.heap.get? a = some { cls := .type "list", data := .seq vs.toArray }) (hi : IntsAre vs ns) (hz : ns.length ≤ sizeLine) (hr : Room k callerA)
    (F : ∀ base : Heap, K.In base → base.Ns mainGlobals mg → FnG P w K mg base k fa fd [x] sp) (hbind : ∀ (s : Shared) (u : Value), BindsTo s fd ⟨[u], []⟩ [(x, u)])
    (hsp : ∀ H : Hp, Only H → SqL K H a (ns.map V.int) → sp [.ref a] H (fun v _ => v = .bl true) fun _ _ _ => False) :
    codeAny (model P w) callerA (.call (.ref fa) ⟨[.ref a], []⟩) (fun r s2 => r = .ok (.ret (.bool true)) ∧ OldK s₁.heap s2.heap ∧ s2.os = s₁.os ∧ AllBare s2.gens) s₁ := by
  have rel := vals_ints hi
  have lv := hi.length
  have go : ∀ H : Hp, Only H → SqL K H a (ns.map V.int) → HOk P w H s₁.heap → (∀ b, H b ≠ none → b = a) → (H a ≠ none → K.lookup a = none) →
      codeAny (model P w) callerA (.call (.ref fa) ⟨[.ref a], []⟩) (fun r s2 => r = .ok (.ret (.bool true)) ∧ OldK s₁.heap s2.heap ∧ s2.os = s₁.os ∧ AllBare s2.gens) s₁ := by
    intro H ho hq ok only out
    have low : ∀ {b : Addr} {o : Obj}, s₁.heap.get? b = some o → H b = none → (hidT s₁.heap H).get? b = some o := fun e n => hidT_get e n
    have nod : ∀ {b : Addr} {o : Obj} {es : Array DictEntry} {ep : Nat}, s₁.heap.get? b = some o → o.data = .dict es ep → H b = none := fun {b o es ep} e d => by
      cases c : H b with
      | none => rfl
      | some u =>
        obtain rfl : b = a := only b (by rw [c]; simp)
        rw [ea] at e
        cases e
        exact nomatch (show Data.seq vs.toArray _ = Data.dict es ep from d)
    have nsl : ∀ {b : Addr} {m : Str → Option Value}, s₁.heap.Ns b m → (hidT s₁.heap H).Ns b m := fun {b m} ⟨o, es, ep, e, d, r⟩ => ⟨o, es, ep, low e (nod e d), d, r⟩
    have kl : K.In (hidT s₁.heap H) := fun b o e => low (kin b o e) (by
      cases c : H b with
      | none => rfl
      | some u =>
        obtain rfl : b = a := only b (by rw [c]; simp)
        rw [out (by rw [c]; simp)] at e
        exact nomatch e)
    have md : Mod K mg (hidT s₁.heap H) := ⟨kl, nsl ng, ⟨mb, nsl nb, bb⟩, let ⟨mc, h1, h2⟩ := nl; ⟨mc, nsl h1, h2⟩⟩
    have en : Env0 P w K mg (hidT s₁.heap H) callerA [] s₁ H := ⟨rfl, md, fun b o e => of_hidT e, Nat.le_of_eq (hidT_size _ _), trivial, fun b hb => absurd (show b ∈ ([] : List Addr) from hb) (by simp), ok, .of_eq hgen⟩
    refine codeAny_mono ((F _ kl (nsl ng)).run callerA [] s₁ H ⟨[.ref a], []⟩ [.ref a] [.ref a] _ _ rfl hr en (hbind s₁ (.ref a)) (.cons rfl .nil) (hsp H ho hq)) fun r s2 h => ?_
    cases r with
    | error e => exact False.elim h
    | ok fl =>
      cases fl with
      | next => exact h.elim
      | brk => exact h.elim
      | cont => exact h.elim
      | ret u =>
        obtain ⟨v, H2, os, bare, un, ok2, r2, q⟩ := h
        obtain rfl : v = .bl true := q
        obtain rfl : u = Value.bool true := r2
        refine ⟨rfl, OldK.of_keep fun b o e => ?_, os, bare⟩
        cases c : H b with
        | none => exact un.keep b o e c (by intro z; exact absurd (show b ∈ ([] : List Addr) from z) (by simp)) (by simp)
        | some u =>
          rcases ho b with z | ⟨ob, xs, z⟩
          · exact nomatch c.symm.trans z
          · obtain ⟨e1, _⟩ := ok b _ z
            obtain ⟨e2, _⟩ := ok2 b _ (un.frzs b ob _ z)
            rw [e] at e1
            cases e1
            exact e2
  cases hk : K.lookup a with
  | some o =>
    have e := kin a o hk
    rw [ea] at e
    cases e
    exact go (fun _ => none) (fun _ => .inl rfl) (.inr ⟨_, vs.toArray, _, hk, rfl, rfl, rfl, by rw [List.size_toArray, lv]; exact hz, by simpa using rel⟩) (fun b u z => nomatch (show (none : Option HO) = some u from z)) (fun b z => absurd rfl z) fun z => absurd rfl z
  | none =>
    refine go (fun b => if b = a then some (.frz { cls := .type "list", data := .seq vs.toArray } (.lst (ns.map V.int))) else none) (fun b => ?_) (.inl (.inr ⟨{ cls := .type "list", data := .seq vs.toArray }, if_pos rfl⟩)) (fun b u z => ?_) (fun b z => ?_) fun _ => hk
    · by_cases hb : b = a
      · exact Or.inr ⟨_, _, if_pos hb⟩
      · exact Or.inl (if_neg hb)
    · by_cases hb : b = a
      · cases (if_pos hb).symm.trans z
        subst hb
        exact ⟨ea, by rw [List.length_map]; exact hz, vs, _, rel, ea⟩
      · exact nomatch (if_neg hb).symm.trans z
    · by_cases hb : b = a
      · exact hb
      · exact absurd (if_neg hb) z
theorem walk_ofG {l : PySem.W.OpenLaw} {n k : Nat} {q : Program} {loose : List Str} {XP : (Str → Option Value) → Heap → Prop} {YP : World → Heap → Prop} {d : DefRec} {K : Params → PySem.W.Frag} {sp : World → Sp} {x : Str}
    (hn : l.most = some n) (hn2 : n ≤ sizeLine) (hdf : d.params.defaults = []) (hr : Room k callerA) (hY : ∀ (w : World) (h : Heap), YP w h → (K w.params).In h)
    (F : ∀ (w : World) (mg : Str → Option Value) (fa : Addr) (h : Heap), (K w.params).In h → h.Ns mainGlobals mg → mg d.name = some (.ref fa) →
      ∃ fd : FuncData, (∀ (s : Shared) (u : Value), BindsTo s fd ⟨[u], []⟩ [(x, u)]) ∧ ∀ base : Heap, (K w.params).In base → base.Ns mainGlobals mg → FnG l.prog w (K w.params) mg base k fa fd [x] (sp w))
    (hsp : ∀ (w : World) (H : Hp) (a : Addr) (ns : List Int), ns.length ≤ n → Only H → SqL (K w.params) H a (ns.map V.int) → sp w [.ref a] H (fun v _ => v = .bl true) fun _ _ _ => False) :
    PySem.W.WalkO q loose XP YP l.row.toRowW d [] (fun f vs => PySem.call f vs) := by
  refine Att.attach_call hn hdf fun w s₀ s₁ mg mb fa o pm cd doc a vs ns G Y ho hd hcd hmg hobj hints hlen hgen => ?_
  have kin := hY w _ Y
  obtain ⟨fd, hb, hF⟩ := F w mg fa _ kin G.T.g hmg
  exact law_callG kin G.T.g G.T.b G.T.builtins G.T.nolimit hgen hobj hints (Nat.le_trans hlen hn2) hr hF hb fun H ho hq => hsp w H a ns hlen ho hq
end VL

set_option Elab.async false
set_option linter.all false
set_option maxRecDepth 100000
set_option maxHeartbeats 4000000
namespace VL
open PySem PySem.Spec PyProof.Rows L2 PyProof.V

/-! ### repr of a dict of nested data, where nothing is being shown -/
def enK : Key → PyData
  | .inl i => .int i
  | .inr x => .str x
def zipK : List (Key × V) → List PyData → List (PyData × PyData)
  | p :: ks, d :: ds => (enK p.1, d) :: zipK ks ds
  | _, _ => []
theorem zipK_vals : ∀ {ks : List (Key × V)} {ds : List PyData}, ks.length = ds.length → (zipK ks ds).map (·.2) = ds
  | [], [], _ => rfl
  | p :: ks, d :: ds, h => by
    show d :: (zipK ks ds).map (·.2) = d :: ds
    rw [zipK_vals (Nat.succ.inj h)]
theorem dpAll_len {K : PySem.W.Frag} {H : Hp} : ∀ {vs : List V} {ds : List PyData}, DpAll K H vs ds → vs.length = ds.length
  | _, _, .nil => rfl
  | _, _, .cons _ h => by simp [dpAll_len h]
section
variable {X : Cx} {pins : List (Addr × Obj)} {σ : L2.St} {H : Hp} {s : Shared}
theorem enK_reads {h : Heap} {P : Program} {w : World} (k : Key) (key : Value) (e : (mixKind P w).is k key = true) : Reads h key (enK k) [] := by
  rcases keyIs_shape (show keyIs k key = true from e) with ⟨i, t, rfl, rfl⟩ | ⟨x, t, rfl, rfl⟩
  · exact Reads.int i t
  · exact Reads.str x t
theorem pairs_read (I : Inv X pins σ H s) : ∀ {ks : List (Key × V)} {vs : List (Key × Value)} {ds : List PyData}, KV ks vs → DpAll X.K H (ks.map (·.2)) ds → ∃ bs, PairsRead s.heap enK vs (zipK ks ds) bs
  | [], _, _, r, h => by
    cases r
    exact ⟨[], by unfold zipK; exact .nil⟩
  | p :: ks, _, _, r, h => by
    cases r with
    | @cons _ q _ qs h1 h2 =>
      cases h with
      | @cons _ _ d ds g1 g2 =>
        obtain ⟨k, v⟩ := q
        obtain ⟨kp, vp⟩ := p
        obtain ⟨rfl, rv⟩ := h1
        obtain ⟨as, r1⟩ := Dp.reads I d _ _ g1 rv
        obtain ⟨bs, r2⟩ := pairs_read I h2 g2
        exact ⟨as ++ bs, .cons r1 r2⟩
def rRepD (K : PySem.W.Frag) : List V → Hp → VK → Prop := fun xs H Q => ∃ (a : Addr) (ks : List (Key × V)) (ds : List PyData), xs = [.ref a] ∧ H a = some (.dK ks) ∧ DpAll K H (ks.map (·.2)) ds ∧ PyData.showableKv (zipK ks ds) = true ∧ PyData.hasDictAll ds = false ∧
  PyData.depthKv (zipK ks ds) ≤ 40 ∧ (dictText (PyData.shownKv (zipK ks ds))).length ≤ sizeLine ∧ Q (.str (dictText (PyData.shownKv (zipK ks ds)))) H
theorem call_repD (gd : X.A.guards = some []) (hu : X.A.units + 64 < cLine) : CallR X (.builtin "repr") (rRepD X.K) := by
  intro pins s σ H xs us Q I r h
  obtain ⟨a, ks, ds, rfl, ha, hd, sh, nd, dep, len, q⟩ := h
  obtain ⟨u, rfl, ru⟩ := vals1 r
  cases (show u = Value.ref a from ru)
  obtain ⟨_, hsys, vs, rk, dic⟩ := (show ObjOk X.prog X.w H s.heap a (.dK ks) from I.hok a _ ha)
  obtain ⟨bs, pr⟩ := pairs_read I rk hd
  have rd := reads_dictOf (fun k key e => enK_reads k key e) dic pr
  obtain ⟨o, es, ep, ho, hx, hdat, _, hp, _⟩ := dic
  obtain ⟨rk1, rk2⟩ := readsAll_of_pairs (fun k key e => enK_reads k key e) hp pr
  obtain ⟨sh1, sh2⟩ := PyData.showableKv_split _ sh
  have vv : (zipK ks ds).map (·.2) = ds := zipK_vals (by have := dpAll_len hd; rw [List.length_map] at this; exact this)
  obtain ⟨b1, hb1, k1⟩ := ReprAllK.of_readsAll (prog := X.prog) (w := X.w) rk1 sh1 (fun _ z => nomatch z) (fun t ht => let ⟨p, hp, hl⟩ := PyData.shownKv_key_le _ t ht; Nat.le_trans hl (Nat.le_trans (dictText_mem_le hp) len))
  obtain ⟨b2, hb2, k2⟩ := ReprAllK.of_readsAll (prog := X.prog) (w := X.w) rk2 sh2 (fun z => by rw [vv, nd] at z; exact nomatch z) (fun t ht => let ⟨p, hp, hl⟩ := PyData.shownKv_val_le _ t ht; Nat.le_trans hl (Nat.le_trans (dictText_mem_le hp) len))
  have rm : ReadAtMost s.heap (PyData.depthKv (zipK ks ds)) (b1 ++ b2) := (hb1.mono (PyData.depthAll_keys_le _)).append (hb2.mono (PyData.depthAll_vals_le _))
  have na : a ∉ b1 ++ b2 := not_mem_of_deeper rd (by simp only [PyData.depth]; omega) rm
  have EK := ReprEntriesK.of_two es.toList _ _ (k1.more_le (fun b z => List.mem_append_left b2 z) (PyData.depthAll_keys_le (zipK ks ds))) (k2.more_le (fun b z => List.mem_append_right b1 z) (PyData.depthAll_vals_le (zipK ks ds)))
  rw [← PyData.shownKv_eq] at EK
  refine call_repr_slot (T := "dict") (idr := "dict.__repr__") (by omega) ⟨o, ho, hx.1⟩ F.slot_dict_repr (call_dict_reprK (h₀ := s.heap) ho hx.1 hdat hsys na EK gd (fun b _ => Clear.nil b) (by show X.A.units + 1 + (PyData.depthKv (zipK ks ds) + 1) < cLine; omega) (fun _ _ e => e) (fun h2 u tk hk => ?_) len)
  exact ⟨_, _, rfl, .str _, H, I.kept hk, ⟨u, rfl⟩, q⟩
end
theorem strApp (x y : Str) : (x ++ y).length = x.length + y.length := strLen_append x y
theorem textFrom_le : ∀ (ts : List Str) (k : Nat) (acc : Str), (textFrom k acc ts).length ≤ acc.length + piled ts
  | [], k, acc => by show acc.length ≤ _; omega
  | t :: ts, k, acc => by
    have ih := textFrom_le ts (k + 1) (acc ++ (if k > 0 then ", " else "" : String) ++ t)
    have e : (acc ++ (if k > 0 then ", " else "" : String) ++ t).length ≤ acc.length + 2 + t.length := by
      rw [strApp, strApp]
      split
      · exact Nat.le_of_eq rfl
      · show acc.length + 0 + t.length ≤ _
        omega
    show (textFrom (k + 1) (acc ++ (if k > 0 then ", " else "" : String) ++ t) ts).length ≤ _
    have : piled (t :: ts) = t.length + 2 + piled ts := by simp [piled]
    omega
theorem listText_le (ts : List Str) : (listText ts).length ≤ 2 + piled ts := by
  have := textFrom_le ts 0 "["
  have e1 : (("[" : String) : Str).length = 1 := rfl
  have e2 : (("]" : String) : Str).length = 1 := rfl
  unfold listText
  rw [strApp, e2]
  omega
theorem dictText_le (ts : List Str) : (dictText ts).length ≤ 2 + piled ts := by
  have e1 : (("{" : String) : Str).length = 1 := rfl
  have e2 : (("}" : String) : Str).length = 1 := rfl
  unfold dictText
  rw [strApp, strApp, e1, e2]
  by_cases h : ts = []
  · subst h
    show 1 + 0 + 1 ≤ _
    omega
  · have := join_length_add ts h
    omega
theorem piled_le {c : Nat} : ∀ {ts : List Str}, (∀ t ∈ ts, t.length ≤ c) → piled ts ≤ ts.length * (c + 2)
  | [], _ => by simp [piled]
  | t :: ts, h => by
    have ih := piled_le (ts := ts) fun x hx => h x (List.mem_cons_of_mem _ hx)
    have := h t List.mem_cons_self
    have e : piled (t :: ts) = t.length + 2 + piled ts := by simp [piled]
    have e2 : (t :: ts).length * (c + 2) = ts.length * (c + 2) + (c + 2) := by rw [List.length_cons, Nat.succ_mul]
    omega
end VL

set_option Elab.async false
set_option linter.all false
set_option maxRecDepth 100000
set_option maxHeartbeats 4000000
namespace VL
open PySem PySem.Spec PyProof.Rows L2 PyProof.V

/-! ### nested data with dicts: what stands there; repr of it, where nothing is being shown -/
mutual
inductive Dq (H : Hp) : V → PyData → Prop
  | non : Dq H .non .none
  | bl (b : Bool) : Dq H (.bl b) (.bool b)
  | int (i : Int) : Dq H (.int i) (.int i)
  | str (x : Str) : Dq H (.str x) (.str x)
  | lst {a : Addr} {xs : List V} {ds : List PyData} : H a = some (.lst xs) → DqAll H xs ds → Dq H (.ref a) (.list ds)
  | tup {a : Addr} {xs : List V} {ds : List PyData} : H a = some (.tup xs) → DqAll H xs ds → Dq H (.ref a) (.tuple ds)
  | dic {a : Addr} {ks : List (Key × V)} {ds : List PyData} : H a = some (.dK ks) → (ks.map (·.1)).Nodup → DqAll H (ks.map (·.2)) ds → Dq H (.ref a) (.dict (zipK ks ds))
inductive DqAll (H : Hp) : List V → List PyData → Prop
  | nil : DqAll H [] []
  | cons {v : V} {vs : List V} {d : PyData} {ds : List PyData} : Dq H v d → DqAll H vs ds → DqAll H (v :: vs) (d :: ds)
end
theorem DqAll.len {H : Hp} : ∀ {vs : List V} {ds : List PyData}, DqAll H vs ds → vs.length = ds.length
  | _, _, .nil => rfl
  | _, _, .cons _ h => by simp [DqAll.len h]
theorem DqAll.of_each {H : Hp} {P : V → PyData → Prop} : ∀ {vs : List V} {ds : List PyData}, DqAll H vs ds → (∀ v d, Dq H v d → P v d) → Paired P vs ds
  | _, _, .nil, _ => .nil
  | _, _, .cons a b, f => .cons (f _ _ a) (DqAll.of_each b f)
theorem DqAll.paired {H : Hp} : ∀ {vs : List V} {ds : List PyData}, DqAll H vs ds → Paired (Dq H) vs ds
  | _, _, .nil => .nil
  | _, _, .cons a b => .cons a (DqAll.paired b)
theorem DqAll.of_paired {H : Hp} : ∀ {vs : List V} {ds : List PyData}, Paired (Dq H) vs ds → DqAll H vs ds
  | _, _, .nil => .nil
  | _, _, .cons a b => .cons a (DqAll.of_paired b)
theorem dKv_le : ∀ (ks : List (Key × V)) (ds : List PyData), ks.length = ds.length → PyData.depthAll ds ≤ PyData.depthKv (zipK ks ds)
  | [], [], _ => Nat.le_refl _
  | p :: ks, d :: ds, h => by
    have ih := dKv_le ks ds (Nat.succ.inj h)
    show max (PyData.depth d) (PyData.depthAll ds) ≤ max (max (PyData.depth (enK p.1)) (PyData.depth d)) (PyData.depthKv (zipK ks ds))
    omega
theorem dq_mono_n {H H' : Hp} (s : Same H H') : ∀ (n : Nat) (d : PyData) (v : V), PyData.depth d ≤ n → Dq H v d → Dq H' v d := by
  intro n
  induction n with
  | zero =>
    intro d v hn h
    cases h with
    | non => exact .non
    | bl b => exact .bl b
    | int i => exact .int i
    | str x => exact .str x
    | lst _ _ => exact absurd hn (by simp [PyData.depth])
    | tup _ _ => exact absurd hn (by simp [PyData.depth])
    | dic _ _ _ => exact absurd hn (by simp [PyData.depth])
  | succ n ih =>
    have all : ∀ {vs : List V} {ds : List PyData}, DqAll H vs ds → PyData.depthAll ds ≤ n → DqAll H' vs ds := by
      intro vs
      induction vs with
      | nil => intro ds h _; cases h; exact .nil
      | cons v vs iv =>
        intro ds h hd
        cases h with
        | @cons _ _ d ds a b =>
          have hd' : max (PyData.depth d) (PyData.depthAll ds) ≤ n := hd
          exact .cons (ih d v (by omega) a) (iv b (by omega))
    intro d v hn h
    cases h with
    | non => exact .non
    | bl b => exact .bl b
    | int i => exact .int i
    | str x => exact .str x
    | lst h1 h2 => exact .lst (s _ _ h1) (all h2 (by simp only [PyData.depth] at hn; omega))
    | tup h1 h2 => exact .tup (s _ _ h1) (all h2 (by simp only [PyData.depth] at hn; omega))
    | @dic a ks ds h1 nd h2 =>
      have := dKv_le ks ds (by have := h2.len; rwa [List.length_map] at this)
      exact .dic (s _ _ h1) nd (all h2 (by simp only [PyData.depth] at hn; omega))
theorem Dq.same {H H' : Hp} {v : V} {d : PyData} (h : Dq H v d) (s : Same H H') : Dq H' v d := dq_mono_n s _ d v (Nat.le_refl _) h
theorem DqAll.same {H H' : Hp} (s : Same H H') : ∀ {vs : List V} {ds : List PyData}, DqAll H vs ds → DqAll H' vs ds
  | _, _, .nil => .nil
  | _, _, .cons a b => .cons (a.same s) (DqAll.same s b)
section
variable {X : Cx} {pins : List (Addr × Obj)} {σ : L2.St} {H : Hp} {s : Shared}
/-- what repr asks of a value that reads as d -/
def RpOk (X : Cx) (s : Shared) (u : Value) (d : PyData) : Prop := ∃ as bs, Reads s.heap u d as ∧ ReadAtMost s.heap (PyData.depth d) bs ∧ ReprK X.prog X.w bs s.heap (PyData.depth d) u (PyData.shown d)
def RpAll (X : Cx) (s : Shared) (us : List Value) (ds : List PyData) : Prop := ∃ as bs, ReadsAll s.heap us ds as ∧ ReadAtMost s.heap (PyData.depthAll ds) bs ∧ ReprAllK X.prog X.w bs s.heap (PyData.depthAll ds) us (PyData.shownAll ds)
theorem rp_all {n : Nat} (ih : ∀ (d : PyData) (v : V) (u : Value), PyData.depth d ≤ n → Dq H v d → RelV v u → PyData.showable d = true → (PyData.shown d).length ≤ sizeLine → RpOk X s u d) :
    ∀ {vs : List V} {us : List Value} {ds : List PyData}, DqAll H vs ds → PyData.depthAll ds ≤ n → Vals vs us → PyData.showableAll ds = true → (∀ t ∈ PyData.shownAll ds, t.length ≤ sizeLine) → RpAll X s us ds
  | [], us, ds, h, _, r, _, _ => by
    cases h
    cases r
    exact ⟨[], [], .nil, (fun _ h => nomatch h), .nil⟩
  | v :: vs, us, ds, h, hd, r, hs, hz => by
    cases h with
    | @cons _ _ d ds a b =>
      cases r with
      | @cons _ u _ us r1 r2 =>
        have hd' : max (PyData.depth d) (PyData.depthAll ds) ≤ n := hd
        have hs' : PyData.showable d = true ∧ PyData.showableAll ds = true := by simpa [PyData.showableAll] using hs
        obtain ⟨as1, bs1, x1, y1, z1⟩ := ih d v u (by omega) a r1 hs'.1 (hz _ (by simp only [PyData.shownAll]; exact List.mem_cons_self))
        obtain ⟨as2, bs2, x2, y2, z2⟩ := rp_all ih b (by omega) r2 hs'.2 (fun t ht => hz t (by simp only [PyData.shownAll]; exact List.mem_cons_of_mem _ ht))
        refine ⟨as1 ++ as2, bs1 ++ bs2, .cons x1 x2, fun b hm => ?_, ?_⟩
        · show ∃ d' as', Reads s.heap (.ref b) d' as' ∧ PyData.depth d' ≤ max (PyData.depth d) (PyData.depthAll ds)
          rcases List.mem_append.mp hm with hm | hm
          · obtain ⟨d', as', r', hd'⟩ := y1 b hm
            exact ⟨d', as', r', by omega⟩
          · obtain ⟨d', as', r', hd'⟩ := y2 b hm
            exact ⟨d', as', r', by omega⟩
        · simp only [PyData.depthAll, PyData.shownAll]
          exact .cons ((z1.more fun b hb => List.mem_append_left bs2 hb).level_le (Nat.le_max_left _ _)) (z2.more_le (fun b hb => List.mem_append_right bs1 hb) (Nat.le_max_right _ _))
theorem pairs_vals {P : Program} {w : World} : ∀ {es : List DictEntry} {kvs : List (Key × Value)}, Pairs (mixKind P w) es kvs → es.map (·.val) = kvs.map (·.2)
  | _, _, .nil => rfl
  | _, _, .cons _ hv hp => by rw [List.map_cons, List.map_cons, hv, pairs_vals hp]
theorem pairs_keys {h : Heap} {P : Program} {w : World} : ∀ {es : List DictEntry} {vs : List (Key × Value)} {ks : List (Key × V)} {ds : List PyData}, Pairs (mixKind P w) es vs → KV ks vs → ks.length = ds.length → ReadsAll h (es.map (·.key)) ((zipK ks ds).map (·.1)) []
  | _, _, [], [], .nil, _, _ => .nil
  | _, _, p :: ks, d :: ds, .cons (kv := q) hk hv hp, r, hl => by
    cases r with
    | cons r1 r2 =>
      have hk' := hk
      rw [← r1.1] at hk'
      exact ReadsAll.cons (enK_reads _ _ hk') (pairs_keys hp r2 (Nat.succ.inj hl))
  | _, _, p :: ks, d :: ds, .nil, r, hl => by cases r
  | _, _, [], [], .cons _ _ _, r, _ => by cases r
  | _, _, [], d :: ds, _, _, hl => nomatch hl
  | _, _, p :: ks, [], _, _, hl => nomatch hl
theorem kv_vals : ∀ {ks : List (Key × V)} {vs : List (Key × Value)}, KV ks vs → Vals (ks.map (·.2)) (vs.map (·.2))
  | _, _, .nil => .nil
  | _, _, .cons r rs => .cons r.2 (kv_vals rs)
theorem dq_rp (I : Inv X pins σ H s) : ∀ (n : Nat) (d : PyData) (v : V) (u : Value), PyData.depth d ≤ n → Dq H v d → RelV v u → PyData.showable d = true → (PyData.shown d).length ≤ sizeLine → RpOk X s u d := by
  intro n
  induction n with
  | zero =>
    intro d v u hn h r hs hz
    cases h with
    | non => cases r; exact ⟨_, [], .none, (fun _ h => nomatch h), by simp only [PyData.shown]; exact .of_is ReprIs.none _ _ _⟩
    | bl b => cases r; exact ⟨_, [], .bool b, (fun _ h => nomatch h), by simp only [PyData.shown]; exact .of_is (ReprIs.bool b) _ _ _⟩
    | int i =>
      obtain ⟨t, rfl⟩ := r
      exact ⟨_, [], .int i t, (fun _ h => nomatch h), by simp only [PyData.shown]; exact .of_is (ReprIs.int t (by simpa [PyData.showable] using hs)) _ _ _⟩
    | str x =>
      obtain ⟨t, rfl⟩ := r
      exact ⟨_, [], .str x t, (fun _ h => nomatch h), by simp only [PyData.shown]; exact .of_is (ReprIs.str x t (by simpa only [PyData.shown] using hz)) _ _ _⟩
    | lst _ _ => exact absurd hn (by simp [PyData.depth])
    | tup _ _ => exact absurd hn (by simp [PyData.depth])
    | dic _ _ _ => exact absurd hn (by simp [PyData.depth])
  | succ n ih =>
    intro d v u hn h r hs hz
    cases h with
    | non => exact ih _ _ _ (Nat.zero_le _) .non r hs hz
    | bl b => exact ih _ _ _ (Nat.zero_le _) (.bl b) r hs hz
    | int i => exact ih _ _ _ (Nat.zero_le _) (.int i) r hs hz
    | str x => exact ih _ _ _ (Nat.zero_le _) (.str x) r hs hz
    | @lst a xs ds h1 h2 =>
      cases (show u = Value.ref a from r)
      obtain ⟨_, its, m, rv, ho⟩ := (show ObjOk X.prog X.w H s.heap a (.lst xs) from I.hok a _ h1)
      have zz : (listText (PyData.shownAll ds)).length ≤ sizeLine := by simpa only [PyData.shown] using hz
      obtain ⟨as, bs, ra, rm, rk⟩ := rp_all ih h2 (by simp only [PyData.depth] at hn; omega) rv (by simpa [PyData.showable] using hs) (fun t ht => Nat.le_trans (listText_mem_le ht) zz)
      have rd : Reads s.heap (.ref a) (.list ds) (a :: as) := .list ho rfl rfl ra
      have na : a ∉ bs := not_mem_of_deeper rd (by simp only [PyData.depth]; omega) rm
      refine ⟨_, a :: bs, rd, ReadAtMost.cons rd (by simp only [PyData.depth]; omega) rm, ?_⟩
      simp only [PyData.depth, PyData.shown]
      cases its with
      | nil =>
        cases ra
        simp only [PyData.shownAll, listText_nil]
        exact ReprK.listEmpty ho rfl rfl
      | cons x l => exact ReprK.list ho rfl rfl na (by simpa using rk.length_eq) (fun i y e => rk.item i y (by simpa using e))
    | @tup a xs ds h1 h2 =>
      cases (show u = Value.ref a from r)
      obtain ⟨_, its, rv, o, ho, oc, m, od⟩ := (show ObjOk X.prog X.w H s.heap a (.tup xs) from I.hok a _ h1)
      have zz : (tupleText (PyData.shownAll ds)).length ≤ sizeLine := by simpa only [PyData.shown] using hz
      obtain ⟨as, bs, ra, rm, rk⟩ := rp_all ih h2 (by simp only [PyData.depth] at hn; omega) rv (by simpa [PyData.showable] using hs) (fun t ht => Nat.le_trans (tupleText_mem_le ht) zz)
      have rd : Reads s.heap (.ref a) (.tuple ds) as := .tuple ho oc od ra
      have na : a ∉ bs := not_mem_of_deeper rd (by simp only [PyData.depth]; omega) rm
      refine ⟨_, a :: bs, rd, ReadAtMost.cons rd (by simp only [PyData.depth]; omega) rm, ?_⟩
      simp only [PyData.depth, PyData.shown]
      exact ReprK.tuple ho oc od na rk
    | @dic a ks ds h1 nd h2 =>
      cases (show u = Value.ref a from r)
      obtain ⟨_, hsys, vs, rkv, dof⟩ := (show ObjOk X.prog X.w H s.heap a (.dK ks) from I.hok a _ h1)
      have kl : ks.length = ds.length := by have := h2.len; rwa [List.length_map] at this
      have zz : (dictText (PyData.shownKv (zipK ks ds))).length ≤ sizeLine := by simpa only [PyData.shown] using hz
      obtain ⟨o, es, ep, ho, hx, hdat, _, hp, _⟩ := dof
      have vv : (zipK ks ds).map (·.2) = ds := zipK_vals kl
      obtain ⟨sh1, sh2⟩ := PyData.showableKv_split _ (show PyData.showableKv (zipK ks ds) = true by simpa [PyData.showable] using hs)
      rw [vv] at sh2
      have rk1 : ReadsAll s.heap (es.toList.map (·.key)) ((zipK ks ds).map (·.1)) [] := pairs_keys hp rkv kl
      have dle := dKv_le ks ds kl
      obtain ⟨as2, b2, ra2, hb2, k2⟩ := rp_all ih h2 (by simp only [PyData.depth] at hn; omega) (kv_vals rkv) sh2 (fun t ht => by
        rw [← vv] at ht
        obtain ⟨p, hp, hl⟩ := PyData.shownKv_val_le _ t ht
        exact Nat.le_trans hl (Nat.le_trans (dictText_mem_le hp) zz))
      obtain ⟨b1, hb1, k1⟩ := ReprAllK.of_readsAll (prog := X.prog) (w := X.w) rk1 sh1 (fun _ z => nomatch z) (fun t ht => let ⟨p, hp, hl⟩ := PyData.shownKv_key_le _ t ht; Nat.le_trans hl (Nat.le_trans (dictText_mem_le hp) zz))
      have ev : es.toList.map (·.val) = vs.map (·.2) := pairs_vals hp
      rw [← ev] at ra2 k2
      have ra2' : ReadsAll s.heap (es.toList.map (·.val)) ((zipK ks ds).map (·.2)) as2 := by rw [vv]; exact ra2
      have rd : Reads s.heap (.ref a) (.dict (zipK ks ds)) (a :: [] ++ as2) := .dict ho hx.1 hdat rk1 ra2'
      have rm : ReadAtMost s.heap (PyData.depthKv (zipK ks ds)) (b1 ++ b2) := (hb1.mono (PyData.depthAll_keys_le _)).append (hb2.mono dle)
      have na : a ∉ b1 ++ b2 := not_mem_of_deeper rd (by simp only [PyData.depth]; omega) rm
      refine ⟨_, a :: (b1 ++ b2), rd, ReadAtMost.cons rd (by simp only [PyData.depth]; omega) rm, ?_⟩
      have EK := ReprEntriesK.of_two es.toList _ _ (k1.more_le (fun b z => List.mem_append_left b2 z) (PyData.depthAll_keys_le (zipK ks ds))) (k2.more_le (fun b z => List.mem_append_right b1 z) dle)
      rw [show PyData.shownAll ds = PyData.shownAll ((zipK ks ds).map (·.2)) by rw [vv], ← PyData.shownKv_eq] at EK
      simp only [PyData.depth, PyData.shown]
      exact ReprK.dict ho hx.1 hdat hsys na EK
theorem rp_list (I : Inv X pins σ H s) {vs : List V} {us : List Value} {ds : List PyData} (h : DqAll H vs ds) (r : Vals vs us) (hs : PyData.showableAll ds = true) (hz : ∀ t ∈ PyData.shownAll ds, t.length ≤ sizeLine) : RpAll X s us ds :=
  rp_all (fun d v u hn => dq_rp I _ d v u hn) h (Nat.le_refl _) r hs hz
def rRepQ : List V → Hp → VK → Prop := fun xs H Q => ∃ (a : Addr) (d : PyData), xs = [.ref a] ∧ Dq H (.ref a) d ∧ PyData.showable d = true ∧ PyData.depth d ≤ 40 ∧ (PyData.shown d).length ≤ sizeLine ∧ Q (.str (PyData.shown d)) H
theorem call_repQ (gd : X.A.guards = some []) (hu : X.A.units + 64 < cLine) : CallR X (.builtin "repr") rRepQ := by
  intro pins s σ H xs us Q I r h
  obtain ⟨a, d, rfl, hd, hs, dep, hz, q⟩ := h
  obtain ⟨u, rfl, ru⟩ := vals1 r
  cases (show u = Value.ref a from ru)
  have fin : ∀ (h' : Heap) (v : Tok) (tk : Nat), (∀ b o, s.heap.get? b = some o → h'.get? b = some o) → EP X pins σ Q (.str (PyData.shown d) v) { s with heap := h', toks := tk } := fun h' v tk hk => ⟨.str _, H, I.kept hk, ⟨v, rfl⟩, q⟩
  cases hd with
  | @lst _ xs ds h1 h2 =>
    obtain ⟨_, its, m, rv, ho⟩ := (show ObjOk X.prog X.w H s.heap a (.lst xs) from I.hok a _ h1)
    have zz : (listText (PyData.shownAll ds)).length ≤ sizeLine := by simpa only [PyData.shown] using hz
    obtain ⟨as, bs, ra, rm, rk⟩ := rp_list I h2 rv (by simpa [PyData.showable] using hs) (fun t ht => Nat.le_trans (listText_mem_le ht) zz)
    have rd : Reads s.heap (.ref a) (.list ds) (a :: as) := .list ho rfl rfl ra
    have na : a ∉ bs := not_mem_of_deeper rd (by simp only [PyData.depth]; omega) rm
    simp only [PyData.depth] at dep
    simp only [PyData.shown] at fin
    cases its with
    | nil =>
      cases ra
      simp only [PyData.shownAll, listText_nil] at fin
      exact call_repr_slot (T := "list") (by omega) ⟨_, ho, rfl⟩ F.slot_list_repr.toG (call_list_repr_empty ⟨_, ho, rfl⟩ ho rfl ⟨_, _, rfl, fin s.heap _ _ fun _ _ e => e⟩)
    | cons x l =>
      exact call_repr_slot (T := "list") (by omega) ⟨_, ho, rfl⟩ F.slot_list_repr.toG (call_list_reprK (h₀ := s.heap) ho rfl rfl na (by simpa using rk.length_eq) (fun i y e => rk.item i y (by simpa using e)) gd (fun b _ => Clear.nil b) (by show X.A.units + 1 + _ < cLine; omega) (fun _ _ e => e) (fun h' v tk hk => ⟨_, _, rfl, fin h' v tk hk⟩) zz)
  | @tup _ xs ds h1 h2 =>
    obtain ⟨_, its, rv, o, ho, oc, m, od⟩ := (show ObjOk X.prog X.w H s.heap a (.tup xs) from I.hok a _ h1)
    have zz : (tupleText (PyData.shownAll ds)).length ≤ sizeLine := by simpa only [PyData.shown] using hz
    obtain ⟨as, bs, ra, rm, rk⟩ := rp_list I h2 rv (by simpa [PyData.showable] using hs) (fun t ht => Nat.le_trans (tupleText_mem_le ht) zz)
    have rd : Reads s.heap (.ref a) (.tuple ds) as := .tuple ho oc od ra
    have na : a ∉ bs := not_mem_of_deeper rd (by simp only [PyData.depth]; omega) rm
    simp only [PyData.depth] at dep
    simp only [PyData.shown] at fin
    exact call_repr_slot (T := "tuple") (by omega) ⟨_, ho, oc⟩ F.slot_tuple_repr (call_tuple_reprK (h₀ := s.heap) ho oc od na rk gd (fun b _ => Clear.nil b) (by show X.A.units + 1 + _ < cLine; omega) (fun _ _ e => e) (fun h' v tk hk => ⟨_, _, rfl, fin h' v tk hk⟩) zz)
  | @dic _ ks ds h1 nd h2 =>
    obtain ⟨_, hsys, vs, rkv, dof⟩ := (show ObjOk X.prog X.w H s.heap a (.dK ks) from I.hok a _ h1)
    have kl : ks.length = ds.length := by have := h2.len; rwa [List.length_map] at this
    have zz : (dictText (PyData.shownKv (zipK ks ds))).length ≤ sizeLine := by simpa only [PyData.shown] using hz
    obtain ⟨o, es, ep, ho, hx, hdat, _, hp, _⟩ := dof
    have vv : (zipK ks ds).map (·.2) = ds := zipK_vals kl
    obtain ⟨sh1, sh2⟩ := PyData.showableKv_split _ (show PyData.showableKv (zipK ks ds) = true by simpa [PyData.showable] using hs)
    rw [vv] at sh2
    have rk1 : ReadsAll s.heap (es.toList.map (·.key)) ((zipK ks ds).map (·.1)) [] := pairs_keys hp rkv kl
    have dle := dKv_le ks ds kl
    obtain ⟨as2, b2, ra2, hb2, k2⟩ := rp_list I h2 (kv_vals rkv) sh2 (fun t ht => by
      rw [← vv] at ht
      obtain ⟨p, hp, hl⟩ := PyData.shownKv_val_le _ t ht
      exact Nat.le_trans hl (Nat.le_trans (dictText_mem_le hp) zz))
    obtain ⟨b1, hb1, k1⟩ := ReprAllK.of_readsAll (prog := X.prog) (w := X.w) rk1 sh1 (fun _ z => nomatch z) (fun t ht => let ⟨p, hp, hl⟩ := PyData.shownKv_key_le _ t ht; Nat.le_trans hl (Nat.le_trans (dictText_mem_le hp) zz))
    have ev : es.toList.map (·.val) = vs.map (·.2) := pairs_vals hp
    rw [← ev] at ra2 k2
    have ra2' : ReadsAll s.heap (es.toList.map (·.val)) ((zipK ks ds).map (·.2)) as2 := by rw [vv]; exact ra2
    have rd : Reads s.heap (.ref a) (.dict (zipK ks ds)) (a :: [] ++ as2) := .dict ho hx.1 hdat rk1 ra2'
    have rm : ReadAtMost s.heap (PyData.depthKv (zipK ks ds)) (b1 ++ b2) := (hb1.mono (PyData.depthAll_keys_le _)).append (hb2.mono dle)
    have na : a ∉ b1 ++ b2 := not_mem_of_deeper rd (by simp only [PyData.depth]; omega) rm
    have EK := ReprEntriesK.of_two es.toList _ _ (k1.more_le (fun b z => List.mem_append_left b2 z) (PyData.depthAll_keys_le (zipK ks ds))) (k2.more_le (fun b z => List.mem_append_right b1 z) dle)
    rw [show PyData.shownAll ds = PyData.shownAll ((zipK ks ds).map (·.2)) by rw [vv], ← PyData.shownKv_eq] at EK
    simp only [PyData.depth] at dep
    simp only [PyData.shown] at fin
    exact call_repr_slot (T := "dict") (idr := "dict.__repr__") (by omega) ⟨o, ho, hx.1⟩ F.slot_dict_repr (call_dict_reprK (h₀ := s.heap) ho hx.1 hdat hsys na EK gd (fun b _ => Clear.nil b) (by show X.A.units + 1 + _ < cLine; omega) (fun _ _ e => e) (fun h' v tk hk => ⟨_, _, rfl, fin h' v tk hk⟩) zz)
end
end VL

set_option Elab.async false
set_option linter.all false
set_option maxRecDepth 100000
set_option maxHeartbeats 4000000
namespace VL
open PySem PySem.Spec PyProof.Rows L2
/-! ### dict comprehensions over any walk; dicts read while locked -/
theorem dc_itQ {J : It} {n : Nat} {G : Hp → Prop} {Y : Nat → Hp → V → Hp → Prop} (w : Walk J n G Y) {g : TG} {tt : TT} {tk tv : TE} {vs : List Nat} {σ : L2.St} {H1 : Hp} {D : Addr} {Qd : Hp → Prop} (Pv : Nat → Hp → Prop) (h0 : Pv 0 (upd H1 D (.dK []))) (hG : ∀ i H, i ≤ n → Pv i H → G H)
    (hs : ∀ i x H H', i < n → Pv i H → Y i H x H' → g x (wipe σ vs) H' fun σ2 H2 => wipe σ2 vs = wipe σ vs ∧ tt σ2 H2 fun b H3 =>
      if b = true then tk σ2 H3 fun y H4 => tv σ2 H4 fun z H5 => ∃ kvs k, y = kV k ∧ H5 D = some (.dK kvs) ∧ kvs.length < sizeLine ∧ Pv (i + 1) (upd H5 D (.dK (putK kvs k z))) else Pv (i + 1) H3) (hd : ∀ H, Pv n H → Qd H) :
    ∃ W : Nat → Nat → Hp → Prop, (∃ m, W 0 m (upd H1 D (.dK []))) ∧ ∀ i m H, W i m H →
      (J.stop i H ∧ Qd H) ∨ (J.go i H ∧ ∃ Nx : Hp → Prop, (∀ H', Nx H' → ∃ m', m' < m ∧ W (i + 1) m' H') ∧ ∀ x H', J.yld i H x H' → g x (wipe σ vs) H' fun σ2 H2 => wipe σ2 vs = wipe σ vs ∧ tt σ2 H2 fun b H3 =>
        if b = true then tk σ2 H3 fun y H4 => tv σ2 H4 fun z H5 => ∃ kvs k, y = kV k ∧ H5 D = some (.dK kvs) ∧ kvs.length < sizeLine ∧ Nx (upd H5 D (.dK (putK kvs k z))) else Nx H3) := by
  refine ⟨fun i m H => m = n - i ∧ i ≤ n ∧ Pv i H, ⟨n, by simp, Nat.zero_le _, h0⟩, ?_⟩
  rintro i m H ⟨rfl, hi, p⟩
  have q := hG i H hi p
  by_cases hlt : i < n
  · refine .inr ⟨w.goes i H hlt q, Pv (i + 1), fun H' p' => ⟨n - (i + 1), by omega, rfl, hlt, p'⟩, fun x H' y => hs i x H H' hlt p (w.yields i H x H' hlt q y)⟩
  · have e : i = n := by omega
    subst e
    exact .inl ⟨w.stops H q, hd H p⟩
theorem dget_fz {H : Hp} {a : Addr} {o : Obj} {kvs : List (Key × V)} {k : Key} (e : H a = some (.frz o (.dK kvs))) : DGet H a (kV k) (valV kvs k) := .inl ⟨kvs, k, .inr ⟨o, e⟩, rfl, rfl⟩
theorem putK_nw {ks : List (Key × V)} {k : Key} {v : V} (h : valV ks k = none) : putK ks k v = ks ++ [(k, v)] := by
  unfold putK
  rw [valV_any, h]
  rfl
theorem valV_out {ks : List (Key × V)} {k : Key} (h : k ∉ ks.map (·.1)) : valV ks k = none := by
  induction ks with
  | nil => rfl
  | cons p ks ih =>
    rw [valV_neg (fun z => h (by rw [List.map_cons, ← z]; exact List.mem_cons_self))]
    exact ih fun z => h (List.mem_cons_of_mem _ z)
theorem valV_nd : ∀ {ks : List (Key × V)} {i : Nat} {k : Key} {v : V}, (ks.map (·.1)).Nodup → ks[i]? = some (k, v) → valV ks k = some v
  | [], _, _, _, _, h => by simp at h
  | p :: ks, 0, k, v, nd, h => by
    simp at h
    subst h
    exact valV_pos rfl
  | p :: ks, i + 1, k, v, nd, h => by
    simp at h
    rw [List.map_cons, List.nodup_cons] at nd
    have hm : k ∈ ks.map (·.1) := List.mem_map.mpr ⟨_, List.mem_of_getElem? h, rfl⟩
    rw [valV_neg (fun z => nd.1 (by rw [z]; exact hm))]
    exact valV_nd nd.2 h
theorem zipK_keys : ∀ {ks ls : List (Key × V)} {ds : List PyData}, ks.map (·.1) = ls.map (·.1) → zipK ks ds = zipK ls ds
  | [], [], _, _ => by unfold zipK; rfl
  | p :: ks, q :: ls, [], h => by unfold zipK; rfl
  | p :: ks, q :: ls, d :: ds, h => by
    rw [List.map_cons, List.map_cons] at h
    injection h with h1 h2
    show (enK p.1, d) :: zipK ks ds = (enK q.1, d) :: zipK ls ds
    rw [h1, zipK_keys h2]
  | [], q :: ls, _, h => nomatch h
  | p :: ks, [], _, h => nomatch h
theorem zipK_app : ∀ {ks ls : List (Key × V)} {ds es : List PyData}, ks.length = ds.length → zipK (ks ++ ls) (ds ++ es) = zipK ks ds ++ zipK ls es
  | [], ls, [], es, _ => rfl
  | p :: ks, ls, d :: ds, es, h => by
    show (enK p.1, d) :: zipK (ks ++ ls) (ds ++ es) = (enK p.1, d) :: zipK ks ds ++ zipK ls es
    rw [zipK_app (Nat.succ.inj h)]
    rfl
theorem enK_inj {a b : Key} (h : enK a = enK b) : a = b := by
  cases a with
  | inl i => cases b with
    | inl j => injection h with h; rw [h]
    | inr y => exact nomatch h
  | inr x => cases b with
    | inl j => exact nomatch h
    | inr y => injection h with h; rw [h]
/-! ### what stands there is one thing -/
theorem dq_det_n {H : Hp} : ∀ (n : Nat) (d d' : PyData) (v : V), PyData.depth d ≤ n → Dq H v d → Dq H v d' → d = d' := by
  intro n
  induction n with
  | zero =>
    intro d d' v hn h h'
    cases h with
    | non => cases h'; rfl
    | bl b => cases h'; rfl
    | int i => cases h'; rfl
    | str x => cases h'; rfl
    | lst _ _ => exact absurd hn (by simp [PyData.depth])
    | tup _ _ => exact absurd hn (by simp [PyData.depth])
    | dic _ _ _ => exact absurd hn (by simp [PyData.depth])
  | succ n ih =>
    have all : ∀ {vs : List V} {ds es : List PyData}, DqAll H vs ds → DqAll H vs es → PyData.depthAll ds ≤ n → ds = es := by
      intro vs
      induction vs with
      | nil => intro ds es h h' _; cases h; cases h'; rfl
      | cons v vs iv =>
        intro ds es h h' hd
        cases h with
        | @cons _ _ d ds a b =>
          cases h' with
          | @cons _ _ e es a' b' =>
            have hd' : max (PyData.depth d) (PyData.depthAll ds) ≤ n := hd
            rw [ih d e v (by omega) a a', iv b b' (by omega)]
    intro d d' v hn h h'
    cases h with
    | non => cases h'; rfl
    | bl b => cases h'; rfl
    | int i => cases h'; rfl
    | str x => cases h'; rfl
    | lst h1 h2 =>
      simp only [PyData.depth] at hn
      cases h' with
      | lst g1 g2 => rw [h1] at g1; cases g1; rw [all h2 g2 (by omega)]
      | tup g1 g2 => rw [h1] at g1; cases g1
      | dic g1 _ g2 => rw [h1] at g1; cases g1
    | tup h1 h2 =>
      simp only [PyData.depth] at hn
      cases h' with
      | lst g1 g2 => rw [h1] at g1; cases g1
      | tup g1 g2 => rw [h1] at g1; cases g1; rw [all h2 g2 (by omega)]
      | dic g1 _ g2 => rw [h1] at g1; cases g1
    | @dic a ks ds h1 nd h2 =>
      have := dKv_le ks ds (by have := h2.len; rwa [List.length_map] at this)
      simp only [PyData.depth] at hn
      cases h' with
      | lst g1 g2 => rw [h1] at g1; cases g1
      | tup g1 g2 => rw [h1] at g1; cases g1
      | dic g1 _ g2 => rw [h1] at g1; cases g1; rw [all h2 g2 (by omega)]
theorem Dq.det {H : Hp} {v : V} {d d' : PyData} (h : Dq H v d) (h' : Dq H v d') : d = d' := dq_det_n _ d d' v (Nat.le_refl _) h h'
/-- a store at what is deeper changes nothing -/
theorem dq_upd_n {H : Hp} {a : Addr} {da : PyData} {o : HO} (ha : Dq H (.ref a) da) : ∀ (n : Nat) (d : PyData) (v : V), PyData.depth d ≤ n → PyData.depth d < PyData.depth da → Dq H v d → Dq (upd H a o) v d := by
  intro n
  induction n with
  | zero =>
    intro d v hn _ h
    cases h with
    | non => exact .non
    | bl b => exact .bl b
    | int i => exact .int i
    | str x => exact .str x
    | lst _ _ => exact absurd hn (by simp [PyData.depth])
    | tup _ _ => exact absurd hn (by simp [PyData.depth])
    | dic _ _ _ => exact absurd hn (by simp [PyData.depth])
  | succ n ih =>
    have all : ∀ {vs : List V} {ds : List PyData}, DqAll H vs ds → PyData.depthAll ds ≤ n → PyData.depthAll ds < PyData.depth da → DqAll (upd H a o) vs ds := by
      intro vs
      induction vs with
      | nil => intro ds h _ _; cases h; exact .nil
      | cons v vs iv =>
        intro ds h hd hl
        cases h with
        | @cons _ _ d ds b c =>
          have hd' : max (PyData.depth d) (PyData.depthAll ds) ≤ n := hd
          have hl' : max (PyData.depth d) (PyData.depthAll ds) < PyData.depth da := hl
          exact .cons (ih d v (by omega) (by omega) b) (iv c (by omega) (by omega))
    intro d v hn hl h
    have ne : ∀ b : Addr, v = .ref b → b ≠ a := fun b e z => by
      subst e
      subst z
      rw [h.det ha] at hl
      exact Nat.lt_irrefl _ hl
    cases h with
    | non => exact .non
    | bl b => exact .bl b
    | int i => exact .int i
    | str x => exact .str x
    | lst h1 h2 =>
      simp only [PyData.depth] at hn hl
      exact .lst (by rw [upd_ne (ne _ rfl)]; exact h1) (all h2 (by omega) (by omega))
    | tup h1 h2 =>
      simp only [PyData.depth] at hn hl
      exact .tup (by rw [upd_ne (ne _ rfl)]; exact h1) (all h2 (by omega) (by omega))
    | @dic b ks ds h1 nd h2 =>
      have := dKv_le ks ds (by have := h2.len; rwa [List.length_map] at this)
      simp only [PyData.depth] at hn hl
      exact .dic (by rw [upd_ne (ne _ rfl)]; exact h1) nd (all h2 (by omega) (by omega))
theorem Dq.upd {H : Hp} {a : Addr} {da d : PyData} {v : V} {o : HO} (h : Dq H v d) (ha : Dq H (.ref a) da) (hl : PyData.depth d < PyData.depth da) : Dq (upd H a o) v d := dq_upd_n ha _ d v (Nat.le_refl _) hl h
theorem mem_depth {d : PyData} : ∀ {ds : List PyData}, d ∈ ds → PyData.depth d ≤ PyData.depthAll ds
  | e :: ds, h => by
    show _ ≤ max (PyData.depth e) (PyData.depthAll ds)
    rcases List.mem_cons.mp h with rfl | h
    · omega
    · have := mem_depth h
      omega
/-! ### reading a dict's data -/
def keyB : PyData → Key → Bool
  | .int i, .inl j => decide (i = j)
  | .str x, .inr y => decide (x = y)
  | _, _ => false
theorem keyB_en (a b : Key) : keyB (enK a) b = decide (a = b) := by
  cases a with
  | inl i => cases b with
    | inl j => show decide (i = j) = decide (Sum.inl i = Sum.inl j); by_cases e : i = j <;> simp [e]
    | inr y => show false = decide (Sum.inl i = Sum.inr y); simp
  | inr x => cases b with
    | inl j => show false = decide (Sum.inr x = Sum.inl j); simp
    | inr y => show decide (x = y) = decide (Sum.inr x = Sum.inr y); by_cases e : x = y <;> simp [e]
def lkp : List (PyData × PyData) → Key → Option PyData
  | [], _ => none
  | p :: r, k => if keyB p.1 k = true then some p.2 else lkp r k
theorem lkp_at {H : Hp} {k : Key} : ∀ {ks : List (Key × V)} {ds : List PyData}, DqAll H (ks.map (·.2)) ds → (lkp (zipK ks ds) k = none ∧ valV ks k = none) ∨ ∃ d v, lkp (zipK ks ds) k = some d ∧ valV ks k = some v ∧ Dq H v d
  | [], ds, h => by
    cases h
    exact .inl ⟨rfl, rfl⟩
  | p :: ks, _, .cons (d := d) (ds := ds) a b => by
    have e : lkp (zipK (p :: ks) (d :: ds)) k = if keyB (enK p.1) k = true then some d else lkp (zipK ks ds) k := rfl
    rw [e, keyB_en]
    by_cases q : p.1 = k
    · rw [if_pos (decide_eq_true q), valV_pos q]
      exact .inr ⟨d, p.2, rfl, rfl, a⟩
    · rw [if_neg (by simp [q]), valV_neg q]
      exact lkp_at b
theorem dq_dict {H : Hp} {v : V} {kvs : List (PyData × PyData)} (h : Dq H v (.dict kvs)) : ∃ a ks, v = .ref a ∧ H a = some (.dK ks) ∧ (ks.map (·.1)).Nodup ∧ ks.length = kvs.length ∧
    ∀ k, (lkp kvs k = none ∧ valV ks k = none) ∨ ∃ d v, lkp kvs k = some d ∧ valV ks k = some v ∧ Dq H v d := by
  cases h with
  | @dic a ks ds h1 nd h2 =>
    refine ⟨a, ks, rfl, h1, nd, ?_, fun k => lkp_at h2⟩
    have e : ks.length = ds.length := by have := h2.len; rwa [List.length_map] at this
    have : ((zipK ks ds).map (·.2)).length = ds.length := by rw [zipK_vals e]
    rw [List.length_map] at this
    omega
theorem dq_list {H : Hp} {v : V} {ds : List PyData} (h : Dq H v (.list ds)) : ∃ a xs, v = .ref a ∧ H a = some (.lst xs) ∧ DqAll H xs ds := by
  cases h with
  | @lst a xs _ h1 h2 => exact ⟨a, xs, rfl, h1, h2⟩
theorem dq_tup {H : Hp} {v : V} {ds : List PyData} (h : Dq H v (.tuple ds)) : ∃ a xs, v = .ref a ∧ H a = some (.tup xs) ∧ DqAll H xs ds := by
  cases h with
  | @tup a xs _ h1 h2 => exact ⟨a, xs, rfl, h1, h2⟩
theorem dqAll_at {H : Hp} : ∀ {vs : List V} {ds : List PyData}, DqAll H vs ds → ∀ {i : Nat} {d : PyData}, ds[i]? = some d → ∃ v, vs[i]? = some v ∧ Dq H v d
  | _, _, .nil, i, d, h => by simp at h
  | _, _, .cons a b, 0, d, h => by
    simp at h
    subst h
    exact ⟨_, rfl, a⟩
  | _, _, .cons a b, i + 1, d, h => by
    simp at h
    obtain ⟨v, h1, h2⟩ := dqAll_at b h
    exact ⟨v, by simpa using h1, h2⟩
theorem dqAll_ap {H : Hp} : ∀ {vs ws : List V} {ds es : List PyData}, DqAll H vs ds → DqAll H ws es → DqAll H (vs ++ ws) (ds ++ es)
  | _, _, _, _, .nil, q => q
  | _, _, _, _, .cons a b, q => .cons a (dqAll_ap b q)
/-! ### small data -/
structure Small (c k : Nat) (d : PyData) : Prop where
  sh : PyData.showable d = true
  dp : PyData.depth d ≤ k
  ln : (PyData.shown d).length ≤ c
theorem Small.mono {c k c' k' : Nat} {d : PyData} (h : Small c k d) (h1 : c ≤ c') (h2 : k ≤ k') : Small c' k' d := ⟨h.sh, Nat.le_trans h.dp h2, Nat.le_trans h.ln h1⟩
theorem tupText_le (ts : List Str) : (tupleText ts).length ≤ 3 + piled ts := by
  have e1 : ((("(" : String) : Str)).length = 1 := rfl
  have e3 : (((if ts.length == 1 then ",)" else ")" : String) : Str)).length ≤ 2 := by split <;> decide
  unfold tupleText
  rw [strApp, strApp, e1]
  by_cases h : ts = []
  · subst h
    have : (Str.join ", " ([] : List Str)).length = 0 := rfl
    omega
  · have := join_length_add ts h
    omega
theorem shAll_mem : ∀ {ds : List PyData}, (∀ d ∈ ds, PyData.showable d = true) → PyData.showableAll ds = true
  | [], _ => rfl
  | d :: ds, h => by
    show (PyData.showable d && PyData.showableAll ds) = true
    rw [h d List.mem_cons_self, shAll_mem fun x hx => h x (List.mem_cons_of_mem _ hx)]
    rfl
theorem dpAll_mem {k : Nat} : ∀ {ds : List PyData}, (∀ d ∈ ds, PyData.depth d ≤ k) → PyData.depthAll ds ≤ k
  | [], _ => Nat.zero_le _
  | d :: ds, h => by
    show max (PyData.depth d) (PyData.depthAll ds) ≤ k
    have := h d List.mem_cons_self
    have := dpAll_mem fun x hx => h x (List.mem_cons_of_mem _ hx)
    omega
theorem shownAll_len : ∀ ds : List PyData, (PyData.shownAll ds).length = ds.length
  | [] => rfl
  | d :: ds => by
    show (PyData.shownAll ds).length + 1 = _
    rw [shownAll_len ds]
    rfl
theorem shownAll_mem : ∀ {ds : List PyData} {t : Str}, t ∈ PyData.shownAll ds → ∃ d ∈ ds, t = PyData.shown d
  | d :: ds, t, h => by
    rcases List.mem_cons.mp (show t ∈ PyData.shown d :: PyData.shownAll ds from h) with rfl | h
    · exact ⟨d, List.mem_cons_self, rfl⟩
    · obtain ⟨e, h1, h2⟩ := shownAll_mem h
      exact ⟨e, List.mem_cons_of_mem _ h1, h2⟩
theorem piledAll {c k : Nat} {ds : List PyData} (h : ∀ d ∈ ds, Small c k d) : piled (PyData.shownAll ds) ≤ ds.length * (c + 2) := by
  have := piled_le (c := c) (ts := PyData.shownAll ds) fun t ht => by
    obtain ⟨d, hd, rfl⟩ := shownAll_mem ht
    exact (h d hd).ln
  rwa [shownAll_len] at this
theorem small_list {c k n : Nat} {ds : List PyData} (h : ∀ d ∈ ds, Small c k d) (hl : ds.length ≤ n) : Small (2 + n * (c + 2)) (k + 1) (.list ds) := by
  refine ⟨?_, ?_, ?_⟩
  · show PyData.showableAll ds = true
    exact shAll_mem fun d hd => (h d hd).sh
  · show PyData.depthAll ds + 1 ≤ k + 1
    have := dpAll_mem fun d hd => (h d hd).dp
    omega
  · show (listText (PyData.shownAll ds)).length ≤ _
    have h1 := listText_le (PyData.shownAll ds)
    have h2 := piledAll h
    have h3 := Nat.mul_le_mul_right (c + 2) hl
    omega
theorem small_tup {c k n : Nat} {ds : List PyData} (h : ∀ d ∈ ds, Small c k d) (hl : ds.length ≤ n) : Small (3 + n * (c + 2)) (k + 1) (.tuple ds) := by
  refine ⟨?_, ?_, ?_⟩
  · show PyData.showableAll ds = true
    exact shAll_mem fun d hd => (h d hd).sh
  · show PyData.depthAll ds + 1 ≤ k + 1
    have := dpAll_mem fun d hd => (h d hd).dp
    omega
  · show (tupleText (PyData.shownAll ds)).length ≤ _
    have h1 := tupText_le (PyData.shownAll ds)
    have h2 := piledAll h
    have h3 := Nat.mul_le_mul_right (c + 2) hl
    omega
theorem small_dict {c k n : Nat} {kvs : List (PyData × PyData)} (h : ∀ p ∈ kvs, Small c k p.1 ∧ Small c k p.2) (hl : kvs.length ≤ n) : Small (2 + n * (2 * c + 4)) (k + 1) (.dict kvs) := by
  have sh : ∀ L : List (PyData × PyData), (∀ p ∈ L, Small c k p.1 ∧ Small c k p.2) → PyData.showableKv L = true ∧ PyData.depthKv L ≤ k ∧ piled (PyData.shownKv L) ≤ L.length * (2 * c + 4) := by
    intro L
    induction L with
    | nil => exact fun _ => ⟨rfl, Nat.zero_le _, by simp [PyData.shownKv, piled]⟩
    | cons p L ih =>
      intro hp
      obtain ⟨i1, i2, i3⟩ := ih fun x hx => hp x (List.mem_cons_of_mem _ hx)
      obtain ⟨a, b⟩ := hp p List.mem_cons_self
      refine ⟨?_, ?_, ?_⟩
      · show (PyData.showable p.1 && PyData.showable p.2 && PyData.showableKv L) = true
        rw [a.sh, b.sh, i1]
        rfl
      · show max (max (PyData.depth p.1) (PyData.depth p.2)) (PyData.depthKv L) ≤ k
        have := a.dp
        have := b.dp
        omega
      · have e : PyData.shownKv (p :: L) = (PyData.shown p.1 ++ (": " : Str) ++ PyData.shown p.2) :: PyData.shownKv L := rfl
        have e2 : piled (PyData.shownKv (p :: L)) = (PyData.shown p.1 ++ (": " : Str) ++ PyData.shown p.2).length + 2 + piled (PyData.shownKv L) := by rw [e]; simp [piled]
        have e3 : ((": " : String) : Str).length = 2 := rfl
        have := a.ln
        have := b.ln
        have e4 : (p :: L).length * (2 * c + 4) = L.length * (2 * c + 4) + (2 * c + 4) := by rw [List.length_cons, Nat.succ_mul]
        rw [e2, strApp, strApp]
        omega
  obtain ⟨i1, i2, i3⟩ := sh kvs h
  refine ⟨i1, ?_, ?_⟩
  · show PyData.depthKv kvs + 1 ≤ k + 1
    omega
  · show (dictText (PyData.shownKv kvs)).length ≤ _
    have h1 := dictText_le (PyData.shownKv kvs)
    have h3 := Nat.mul_le_mul_right (2 * c + 4) hl
    omega
end VL

set_option Elab.async false
set_option linter.all false
set_option maxRecDepth 100000
set_option maxHeartbeats 4000000
namespace VL
open PySem PySem.Spec PyProof.Rows L2
/-! ### copies of values: what may be copied, what is new -/
mutual
def cpy : PyData → Bool
  | .list ds => decide (ds.length ≤ 1000) && cpyAll ds
  | .dict kvs => decide (kvs.length ≤ 1000) && cpyKv kvs
  | .tuple _ => false
  | .none | .bool _ | .int _ | .str _ => true
def cpyAll : List PyData → Bool
  | [] => true
  | d :: ds => cpy d && cpyAll ds
def cpyKv : List (PyData × PyData) → Bool
  | [] => true
  | (_, d) :: r => cpy d && cpyKv r
end
theorem cpyAll_mem : ∀ {ds : List PyData}, cpyAll ds = true → ∀ d ∈ ds, cpy d = true
  | e :: ds, h, d, hd => by
    have h' : cpy e = true ∧ cpyAll ds = true := by simpa [cpyAll] using h
    rcases List.mem_cons.mp hd with rfl | hd
    · exact h'.1
    · exact cpyAll_mem h'.2 d hd
theorem cpyKv_zip : ∀ {ks : List (Key × V)} {ds : List PyData}, ks.length = ds.length → cpyKv (zipK ks ds) = true → cpyAll ds = true
  | [], [], _, _ => rfl
  | p :: ks, d :: ds, hl, h => by
    have h' : cpy d = true ∧ cpyKv (zipK ks ds) = true := by
      have e : cpyKv (zipK (p :: ks) (d :: ds)) = (cpy d && cpyKv (zipK ks ds)) := rfl
      rw [e] at h
      simpa using h
    show (cpy d && cpyAll ds) = true
    rw [h'.1, cpyKv_zip (Nat.succ.inj hl) h'.2]
    rfl
/-- what has come since H -/
def newer (H H' : Hp) : Hp := fun b => match H b with
  | none => H' b
  | some _ => none
theorem newer_some {H H' : Hp} {b : Addr} {o : HO} (h : newer H H' b = some o) : H b = none ∧ H' b = some o := by
  unfold newer at h
  cases e : H b with
  | none => rw [e] at h; exact ⟨rfl, h⟩
  | some u => rw [e] at h; exact nomatch h
theorem newer_mk {H H' : Hp} {b : Addr} {o : HO} (h1 : H b = none) (h2 : H' b = some o) : newer H H' b = some o := by
  unfold newer
  rw [h1]
  exact h2
theorem newer_same (H H' : Hp) : Same (newer H H') H' := fun b o h => (newer_some h).2
def spCopy (n : Nat) : Sp := fun vs H Q _ => ∃ (v : V) (d : PyData), vs = [v] ∧ Dq H v d ∧ cpy d = true ∧ PyData.depth d ≤ n ∧ ∀ v' H', Same H H' → Dq (newer H H') v' d → Q v' H'
end VL

set_option Elab.async false
set_option linter.all false
set_option maxRecDepth 100000
set_option maxHeartbeats 4000000
namespace VL
open PySem PySem.Spec PyProof.Rows L2
/-! ### a part of a heap, and a few objects beside it that change -/
structure Sb (G H : Hp) (M : List (Addr × HO)) : Prop where
  s : Same G H
  m : ∀ p ∈ M, G p.1 = none ∧ H p.1 = some p.2
  nd : (M.map (·.1)).Nodup
def joinH (G N : Hp) : Hp := fun b => match G b with
  | some o => some o
  | none => N b
theorem joinH_l {G N : Hp} : Same G (joinH G N) := fun b o e => by
  unfold joinH
  rw [e]
theorem joinH_r {G H H' : Hp} (s : Same G H) : Same (newer H H') (joinH G (newer H H')) := fun b o e => by
  obtain ⟨z, _⟩ := newer_some e
  unfold joinH
  cases g : G b with
  | none => exact e
  | some u => rw [s _ _ g] at z; exact nomatch z
theorem Sb.alloc {G H : Hp} {M : List (Addr × HO)} {t : Addr} {o : HO} (S : Sb G H M) (h : H t = none) : Sb (upd G t o) (upd H t o) M := by
  refine ⟨fun b u e => ?_, fun p hp => ?_, S.nd⟩
  · by_cases z : b = t
    · subst z
      rw [upd_same] at e ⊢
      exact e
    · rw [upd_ne z] at e ⊢
      exact S.s _ _ e
  · obtain ⟨h1, h2⟩ := S.m p hp
    have n : p.1 ≠ t := ne_of_none h2 h
    rw [upd_ne n, upd_ne n]
    exact ⟨h1, h2⟩
theorem Sb.gnone {G H : Hp} {M : List (Addr × HO)} {t : Addr} (S : Sb G H M) (h : H t = none) : G t = none := Same.free S.s h
theorem Sb.grow {G H : Hp} {M : List (Addr × HO)} {t : Addr} {o : HO} (S : Sb G H M) (h : H t = none) : Same G (upd G t o) := fun b u e => by rw [upd_ne (ne_of_none e (S.gnone h))]; exact e
theorem Sb.call {G H H' : Hp} {M : List (Addr × HO)} (S : Sb G H M) (s : Same H H') : Sb (joinH G (newer H H')) H' M := by
  refine ⟨fun b u e => ?_, fun p hp => ?_, S.nd⟩
  · unfold joinH at e
    cases g : G b with
    | some o => rw [g] at e; rw [← e]; exact s _ _ (S.s _ _ g)
    | none => rw [g] at e; exact (newer_some e).2
  · obtain ⟨h1, h2⟩ := S.m p hp
    refine ⟨?_, s _ _ h2⟩
    unfold joinH
    rw [h1]
    show newer H H' p.1 = none
    unfold newer
    rw [h2]
theorem Sb.add {G H : Hp} {M : List (Addr × HO)} {t : Addr} {o : HO} (S : Sb G H M) (h : H t = none) : Sb G (upd H t o) ((t, o) :: M) := by
  refine ⟨fun b u e => by rw [upd_ne (ne_of_none (S.s _ _ e) h)]; exact S.s _ _ e, fun p hp => ?_, ?_⟩
  · rcases List.mem_cons.mp hp with rfl | hp
    · exact ⟨S.gnone h, upd_same⟩
    · obtain ⟨h1, h2⟩ := S.m p hp
      exact ⟨h1, by rw [upd_ne (ne_of_none h2 h)]; exact h2⟩
  · rw [List.map_cons, List.nodup_cons]
    refine ⟨fun hm => ?_, S.nd⟩
    obtain ⟨p, hp, e⟩ := List.mem_map.mp hm
    have := (S.m p hp).2
    rw [e] at this
    rw [show H (t, o).1 = none from h] at this
    exact nomatch this
theorem Sb.put {G H : Hp} {M : List (Addr × HO)} {t : Addr} {o : HO} {u : HO} (S : Sb G H ((t, o) :: M)) : Sb G (upd H t u) ((t, u) :: M) := by
  have nd := S.nd
  rw [List.map_cons, List.nodup_cons] at nd
  have gt := (S.m (t, o) List.mem_cons_self).1
  refine ⟨fun b v e => by rw [upd_ne (ne_of_none e gt)]; exact S.s _ _ e, fun p hp => ?_, ?_⟩
  · rcases List.mem_cons.mp hp with rfl | hp
    · exact ⟨gt, upd_same⟩
    · obtain ⟨h1, h2⟩ := S.m p (List.mem_cons_of_mem _ hp)
      have n : p.1 ≠ t := fun z => nd.1 (List.mem_map.mpr ⟨p, hp, z⟩)
      exact ⟨h1, by rw [upd_ne n]; exact h2⟩
  · rw [List.map_cons, List.nodup_cons]
    exact nd
theorem Sb.swap {G H : Hp} {M : List (Addr × HO)} {p q : Addr × HO} (S : Sb G H (p :: q :: M)) : Sb G H (q :: p :: M) := by
  have nd := S.nd
  refine ⟨S.s, fun r hr => S.m r ?_, ?_⟩
  · rcases List.mem_cons.mp hr with rfl | hr
    · exact List.mem_cons_of_mem _ List.mem_cons_self
    · rcases List.mem_cons.mp hr with rfl | hr
      · exact List.mem_cons_self
      · exact List.mem_cons_of_mem _ (List.mem_cons_of_mem _ hr)
  · simp only [List.map_cons, List.nodup_cons, List.mem_cons] at nd ⊢
    refine ⟨fun z => ?_, fun z => nd.1 (.inr z), nd.2.2⟩
    rcases z with z | z
    · exact nd.1 (.inl z.symm)
    · exact nd.2.1 z
theorem Sb.drop {G H : Hp} {M : List (Addr × HO)} {t : Addr} {o : HO} (S : Sb G H ((t, o) :: M)) : Sb (upd G t o) H M ∧ Same G (upd G t o) := by
  have nd := S.nd
  rw [List.map_cons, List.nodup_cons] at nd
  obtain ⟨gt, ht⟩ := S.m (t, o) List.mem_cons_self
  refine ⟨⟨fun b u e => ?_, fun p hp => ?_, nd.2⟩, fun b u e => by rw [upd_ne (ne_of_none e gt)]; exact e⟩
  · by_cases z : b = t
    · subst z
      rw [upd_same] at e
      rw [← e]
      exact ht
    · rw [upd_ne z] at e
      exact S.s _ _ e
  · obtain ⟨h1, h2⟩ := S.m p (List.mem_cons_of_mem _ hp)
    have n : p.1 ≠ t := fun z => nd.1 (List.mem_map.mpr ⟨p, hp, z⟩)
    exact ⟨by rw [upd_ne n]; exact h1, h2⟩
theorem Sb.hd {G H : Hp} {M : List (Addr × HO)} {p : Addr × HO} (S : Sb G H (p :: M)) : H p.1 = some p.2 := (S.m p List.mem_cons_self).2
theorem Sb.hd2 {G H : Hp} {M : List (Addr × HO)} {p q : Addr × HO} (S : Sb G H (q :: p :: M)) : H p.1 = some p.2 := (S.m p (List.mem_cons_of_mem _ List.mem_cons_self)).2
theorem Sb.nil {H : Hp} : Sb H H [] := ⟨Same.refl _, (fun _ h => nomatch h), List.nodup_nil⟩
end VL

set_option Elab.async false
set_option linter.all false
set_option maxRecDepth 100000
set_option maxHeartbeats 4000000
namespace VL
open PySem PySem.Spec PyProof.Rows L2

/-! ### what the text has: methods with keyword-only parameters, properties, written tuples, own exceptions without a text of their own -/
def WrT (K : PySem.W.Frag) (a : Addr) (xs : List V) : Prop := ∃ (o : Obj) (its : Array Value) (n : Nat), K.lookup a = some o ∧ o.cls = .type "tuple" ∧ o.data = .seq its n ∧ its.size ≤ sizeLine ∧ Vals xs its.toList ∧ o.dict = none
abbrev catG {α : Type} (us ws : List α) : List α := us ++ ws
def MethKE (K : PySem.W.Frag) (C : Addr) (x qual : Str) (st : Stmt) (ps : List Str) (n : Nat) (ks : List Str) : Prop :=
  ∃ (f : Addr) (fd : FuncData), Fun K x qual st f fd ∧ Meth K C x f ∧ KBn K fd ps n ks catG catG
def PropE (K : PySem.W.Frag) (C : Addr) (x qual : Str) (st : Stmt) : Prop := ∃ (p g : Addr) (fd : FuncData), PropOf K C x p g ∧ Fun K x qual st g fd ∧ Binds K fd ["self"] []
structure ExT (K : PySem.W.Frag) (mg : Str → Option Value) (x : Str) (D : Addr) : Prop where
  g : mg x = some (.ref D)
  xx : PySem.W.excIn K D [.type "ValueError", .type "Exception", .type "BaseException", .type "object"] "ValueError.__new__" = true
  kp : PySem.W.keepIn K (.ref D) = true
  bP : PySem.W.subIn K (.ref D) (.type "BaseException") = some true
  tP : PySem.W.typeIn K (.ref D) = some (.type "type")
  em : PySem.W.exmOne K (.ref D) (.ref D) = some true
  ec : ExcC K D
theorem fun_kbn {K : PySem.W.Frag} {x qual : Str} {st : Stmt} {f : Addr} {fd : FuncData} {ps : List Str} (F : Fun K x qual st f fd) (n : Nat) (ks : List Str)
    (h : ∀ (kV doc pm : Value) (an : Option Addr) (cdv ct : Value) (us ws : List Value), us.length = n → ws.length = ks.length → bindArgs (PySem.W.fnOf x qual (defArgs st) (defBody st) (defScope st) .none kV doc pm an cdv ct) ⟨us, ks.zip ws⟩ = pure (ps.zip (us ++ ws))) :
    KBn K fd ps n ks catG catG := by
  obtain ⟨oc, od, kV, doc, pm, an, cdv, ct, osl, rfl, lk, hcd⟩ := F.ex
  exact ⟨fun s us ws X l1 l2 => .of_eq (h kV doc pm an cdv ct us ws l1 l2), fun r1 r2 => r1.append r2⟩
/-! ### as callers see them -/
structure MetK (P : Program) (w : World) (K : PySem.W.Frag) (mg : Str → Option Value) (base : Heap) (k : Nat) (C : Addr) (m : Str) (sp : Sp) (n : Nat) (ks : List Str) (gV : List V → List V → List V) : Prop where
  ex : ∃ (f : Addr) (fd : FuncData) (ps : List Str) (g : List Value → List Value → List Value), Cls K C ∧ Meth K C m f ∧ FnOk P w K mg base CX0 k f fd ps sp ∧ KBn K fd ps n ks g gV
structure Pro (P : Program) (w : World) (K : PySem.W.Frag) (mg : Str → Option Value) (base : Heap) (k : Nat) (C : Addr) (x : Str) (sp : Sp) : Prop where
  ex : ∃ (p g : Addr) (fd : FuncData), Cls K C ∧ PropOf K C x p g ∧ FnOk P w K mg base CX0 k g fd ["self"] sp ∧ Binds K fd ["self"] []
/-- o.m(.., k = v, ..): n is one more than the values written -/
def tMethK (C : Addr) (m : Str) (sp : Sp) (n kn : Nat) (gV : List V → List V → List V) (ta : TE) (t tk : TA) : TE := fun σ H Q => ta σ H fun x H1 => ∃ a dx fs, x = .ref a ∧ H1 a = some (.ins C dx fs) ∧ fs.lookup m = none ∧ t σ H1 fun vs H2 => tk σ H2 fun zs H3 => vs.length + 1 = n ∧ zs.length = kn ∧ sp (gV (.ref a :: vs) zs) H3 Q E0
section
variable {X : Cx} {k j n : Nat} {C : Addr} {m x : Str} {ks : List Str} {sp : Sp} {pos apos : Pos} {e o : Expr} {es : List Expr} {kws : List Keyword} {ta : TE} {t tk : TA} {gV : List V → List V → List V}
theorem pe_mtK {pl : Sem Bool} (c : MetK X.prog X.w X.K X.mg X.base k C m sp n ks gV) (hr : Room j X.A) (hk : k ≤ j) (he : PE X o ta) (ha : PA X (e :: es) t) (hkw : PK X kws tk)
    (hall : (backToKw pos (keywordEach kws X.env)).all (·.1.isSome) = true := by rfl) (hks : (backToKw pos (keywordEach kws X.env)).filterMap (·.1) = ks := by rfl)
    (hst : starEach (e :: es) X.env = (false, eval e X.env) :: starEach es X.env := by rfl)
    (hpl : ((backTo pos (starEach (e :: es) X.env)).any (·.1) || (backToKw pos (keywordEach kws X.env)).any (·.1.isNone)) = false := by rfl)
    (ht : eval (.Call (.Attribute o m apos) (e :: es) kws pos) X.env = (do
      let ov ← eval o X.env
      standAt apos.atName
      let (f, first) ← holding [ov] (getMethod ov m pl)
      callWith pos f first (backTo pos (starEach (e :: es) X.env)) (backToKw pos (keywordEach kws X.env))) := by rfl) :
    PE X (.Call (.Attribute o m apos) (e :: es) kws pos) (tMethK C m sp n ks.length gV ta t tk) := by
  obtain ⟨f, fd, ps, g, hc, hm, F, b⟩ := c.ex
  refine ⟨fun pins s σ H Q I h => ?_⟩
  refine PySem.W.methodCall_KW (pl := pl) (thn (he.run pins s σ H _ I h) fun u s1 ⟨x, H1, I1, rx, a, dx, fs, ex, ea, l, q⟩ => ?_) ht
  subst ex
  obtain rfl : u = Value.ref a := rx
  refine getmeth_ok I1 ea hc hm l ?_
  refine PySem.W.callWith_KW (first := [.ref a]) (h₀ := X.base) I.ok.mod.kin hm.kp hall (thn (ha.run pos pins s1 σ H1 _ I1 q) fun us s2 ⟨vs, H2, I2, r, q2⟩ => ?_) hpl hst
  refine thn (hkw.run pos pins s2 σ H2 _ I2 q2) fun ws s3 ⟨zs, H3, I3, rz, l1, l2, q3⟩ => ⟨I3.kIn, ?_⟩
  rw [hks]
  exact run_fnN (us := .ref a :: us) (vs := .ref a :: vs) F (hr.mono hk) b pass0 I3 (.cons rfl r) rz l1 l2 q3
theorem pe_mtK0 {pl : Sem Bool} (c : MetK X.prog X.w X.K X.mg X.base k C m sp n ks gV) (hr : Room j X.A) (hk : k ≤ j) (he : PE X o ta) (hkw : PK X kws tk)
    (hall : (backToKw pos (keywordEach kws X.env)).all (·.1.isSome) = true := by rfl) (hks : (backToKw pos (keywordEach kws X.env)).filterMap (·.1) = ks := by rfl)
    (hpl : ((backTo pos (starEach [] X.env)).any (·.1) || (backToKw pos (keywordEach kws X.env)).any (·.1.isNone)) = false := by rfl)
    (ht : eval (.Call (.Attribute o m apos) [] kws pos) X.env = (do
      let ov ← eval o X.env
      standAt apos.atName
      let (f, first) ← holding [ov] (getMethod ov m pl)
      callWith pos f first (backTo pos (starEach [] X.env)) (backToKw pos (keywordEach kws X.env))) := by rfl) :
    PE X (.Call (.Attribute o m apos) [] kws pos) (tMethK C m sp n ks.length gV ta tNil tk) := by
  obtain ⟨f, fd, ps, g, hc, hm, F, b⟩ := c.ex
  refine ⟨fun pins s σ H Q I h => ?_⟩
  refine PySem.W.methodCall_KW (pl := pl) (thn (he.run pins s σ H _ I h) fun u s1 ⟨x, H1, I1, rx, a, dx, fs, ex, ea, l, q⟩ => ?_) ht
  subst ex
  obtain rfl : u = Value.ref a := rx
  refine getmeth_ok I1 ea hc hm l ?_
  refine PySem.W.callWith_KW0 (first := [.ref a]) (h₀ := X.base) I.ok.mod.kin hm.kp hall ?_ hpl
  refine thn (hkw.run pos pins s1 σ H1 _ I1 q) fun ws s3 ⟨zs, H3, I3, rz, l1, l2, q3⟩ => ⟨I3.kIn, ?_⟩
  rw [hks]
  exact run_fnN (us := [.ref a]) (vs := [.ref a]) F (hr.mono hk) b pass0 I3 (.cons rfl .nil) rz l1 l2 q3
theorem pe_pr (c : Pro X.prog X.w X.K X.mg X.base k C x sp) (hr : Room j X.A) (hk : k + 1 ≤ j) (he : PE X e ta) (hab : attributeBase e x X.env (eval e X.env) = eval e X.env := by rfl) : PE X (.Attribute e x pos) (tProp C sp [] E0 ta) := by
  obtain ⟨p, g, fd, hc, hp, F, b⟩ := c.ex
  exact pe_prop he hc hp F (hr.mono hk) b .nil pass0 hab
end
section
variable {P : Program} {w : World} {K : PySem.W.Frag} {mg : Str → Option Value} {base : Heap}
theorem metK_of {C : Addr} {x qual : Str} {st : Stmt} {ps ks N : List Str} {k n : Nat} {sp : Sp} (D : MethKE K C x qual st ps n ks) (c : Cls K C) (S : FnScope N ps (defScope st)) (len : ∀ vs H Q E, sp vs H Q E → vs.length = ps.length)
    (hbody : ∀ (f : Addr) (cdv : Value) (A : Around) (outer : List Env) (s : Shared) (H : Hp) (vs : List V) (Q : VK) (E : XK), Room k (A.deeper (envOfC qual (defScope st) s.heap.objs.size f cdv)) → sp vs H Q E →
      ∃ t, PSs (cxOf CX0 P w K mg base N qual (defScope st) f cdv A outer s H E).nox (defBody st) t ∧ t { nx := fun _ H' => Q .non H', rt := Q } (start N vs) H) : MetK P w K mg base (k + 1) C x sp n ks catG := by
  obtain ⟨f, fd, F, hm, b⟩ := D
  exact ⟨f, fd, ps, _, c, hm, F.ok S len (hbody f), b⟩
theorem pro_of {C : Addr} {x qual : Str} {st : Stmt} {N : List Str} {k : Nat} {sp : Sp} (D : PropE K C x qual st) (c : Cls K C) (S : FnScope N ["self"] (defScope st)) (len : ∀ vs H Q E, sp vs H Q E → vs.length = 1)
    (hbody : ∀ (f : Addr) (cdv : Value) (A : Around) (outer : List Env) (s : Shared) (H : Hp) (vs : List V) (Q : VK) (E : XK), Room k (A.deeper (envOfC qual (defScope st) s.heap.objs.size f cdv)) → sp vs H Q E →
      ∃ t, PSs (cxOf CX0 P w K mg base N qual (defScope st) f cdv A outer s H E).nox (defBody st) t ∧ t { nx := fun _ H' => Q .non H', rt := Q } (start N vs) H) : Pro P w K mg base (k + 1) C x sp := by
  obtain ⟨p, g, fd, hp, F, b⟩ := D
  exact ⟨p, g, fd, c, hp, F.ok S len (hbody g), b⟩
end
end VL

set_option Elab.async false
set_option linter.all false
set_option maxRecDepth 100000
set_option maxHeartbeats 4000000
namespace VL
open PySem PySem.Spec PyProof.Rows L2
/-! ### rules whose readings speak of K, with K told: within comprehensions and except suites -/
theorem u65 {A : Around} {k : Nat} (r : Room k A) : A.units + 65 < cLine := by have := r.un; omega
section
variable {X : Cx} {K : PySem.W.Frag} {e o : Expr} {f : Str} {pos : Pos} {ta : TE}
theorem pe_fldS (hK : X.K = K) (he : PE X e ta) (hb : attributeBase e f X.env (eval e X.env) = eval e X.env) : PE X (.Attribute e f pos) (tFld K ta f) := by subst hK; exact pe_fld he hb
theorem pe_conS (hK : X.K = K) (he : PE X e ta) (hb : attributeBase e f X.env (eval e X.env) = eval e X.env) : PE X (.Attribute e f pos) (tCon K ta f) := by subst hK; exact pe_con he hb
theorem pe_cvalS (hK : X.K = K) (he : PE X e ta) (hb : attributeBase e f X.env (eval e X.env) = eval e X.env := by rfl) : PE X (.Attribute e f pos) (ClX.tCVal K ta f) := by subst hK; exact ClX.pe_cval he hb
theorem ix_listS (hK : X.K = K) : IxR X (rIxL K) := by subst hK; exact ix_list
theorem ix_tupS (hK : X.K = K) : IxR X (rIxT K) := by subst hK; exact ix_tup
theorem sl_listS (hK : X.K = K) : SlR X (rSlL K) := by subst hK; exact sl_list
theorem sl_tupS (hK : X.K = K) : SlR X (rSlT K) := by subst hK; exact sl_tup
theorem op_in_seqS (hK : X.K = K) : OpR X (compareOp .In) (rIn K false) := by subst hK; exact op_in_seq
theorem op_notIn_seqS (hK : X.K = K) : OpR X (compareOp .NotIn) (rIn K true) := by subst hK; exact op_notIn_seq
theorem call_len_seqS (hK : X.K = K) : CallR X (.builtin "len") (fun xs H Q => ∃ p ys, xs = [.ref p] ∧ (SqL K H p ys ∨ SqT K H p ys) ∧ Q (.int ys.length) H) := by subst hK; exact call_len_seq
theorem call_list_ofS (hK : X.K = K) : CallR X (.type "list") (fun xs H Q => ∃ p ys, xs = [.ref p] ∧ (SqL K H p ys ∨ SqT K H p ys) ∧ ∀ l, H l = none → Q (.ref l) (upd H l (.lst ys))) := by subst hK; exact call_list_of
theorem call_isiS (hK : X.K = K) : CallR X (.builtin "isinstance") (rIsi K) := by subst hK; exact call_isi
theorem op_eqDS (hK : X.K = K) (hu : X.A.units + 64 < cLine) : OpR X (compareOp .Eq) (rEqD K) := by subst hK; exact op_eqD hu
theorem op_neDS (hK : X.K = K) (hu : X.A.units + 64 < cLine) : OpR X (compareOp .NotEq) (rNeD K) := by subst hK; exact op_neD hu
theorem cr_maxS (hK : X.K = K) (hc : X.calm = true) : CallR X (.builtin "max") (rMax K) := by subst hK; exact cr_max hc
theorem cr_minS (hK : X.K = K) (hc : X.calm = true) : CallR X (.builtin "min") (rMin K) := by subst hK; exact cr_min hc
theorem op_inDS (hK : X.K = K) (hu : X.A.units + 65 < cLine) : OpR X (compareOp .In) (rInD K) := by subst hK; exact op_inD hu
theorem pt_truthS (hK : X.K = K) (ha : PE X e ta) (he : ∀ whole, isTrue e X.env whole = (do let v ← whole; standAt e.pos; holding [v] (truthy v))) :
    PT X e (fun σ H Q => ta σ H fun x H' => ∃ k, TruV K x H' k ∧ Q k H') := by subst hK; exact pt_truth ha he
theorem pi_listS {tg : Expr} (hK : X.K = K) (hl : PE X e ta) : PI X tg e (iList K ta) := by subst hK; exact pi_list hl
theorem pi_tupS {tg : Expr} (hK : X.K = K) (hl : PE X e ta) : PI X tg e (iTup K ta) := by subst hK; exact pi_tup hl
theorem pg_tupS {es : List Expr} {k : Nat} {t : TGs} {n : Nat} (hK : X.K = K) (hc : X.calm = true) (h : PGs X es t)
    (hn : (assignEach es X.env).length = n := by rfl) (hst : (assignEach es X.env).findIdx? (·.1) = none := by rfl) : PG X (.Tuple es k pos) (gTup K n t) := by subst hK; exact pg_tup hc h hn hst
end
end VL

set_option Elab.async false
set_option linter.all false
set_option maxRecDepth 100000
set_option maxHeartbeats 4000000
namespace VL
open PySem PySem.Spec PyProof.Rows L2

/-! ### texts as lists of signs -/
abbrev TX (l : List Nat) : Str := ⟨l.toArray⟩
theorem TX_tl (l : List Nat) : (TX l).cps.toList = l := by simp
theorem TX_len (l : List Nat) : (TX l).length = l.length := by simp [Str.length]
theorem TX_cat (a b : List Nat) : TX a ++ TX b = TX (a ++ b) := SX.S_cat a b
theorem TX_inj {a b : List Nat} (h : TX a = TX b) : a = b := SX.S_inj h
theorem vstr_TX {a b : List Nat} : decide (V.str (TX a) = V.str (TX b)) = decide (a = b) := by
  by_cases e : a = b
  · subst e; simp
  · have : ¬ V.str (TX a) = V.str (TX b) := fun q => e (TX_inj (V.str.inj q))
    rw [decide_eq_false this, decide_eq_false e]
theorem one_eq {c d : Nat} : decide (V.str (TX [c]) = V.str (TX [d])) = decide (c = d) := by
  rw [vstr_TX]
  by_cases e : c = d
  · subst e; simp
  · simp [e]
/-- the sign at a place -/
theorem at_mid {pre r : List Nat} {c : Nat} {i : Int} (hi : i = (pre.length : Int)) : atI (TX (pre ++ c :: r)).cps.toList i = some c := by
  subst hi
  rw [TX_tl]
  unfold atI ixN
  rw [if_pos (by omega), if_pos (by simp; omega)]
  show (pre ++ c :: r)[(pre.length : Int).toNat]? = _
  rw [Int.toNat_natCast]
  simp
theorem getD_TX (l : List Nat) (v : Nat) : (TX l).cps.getD v 0 = l.getD v 0 := by
  simp only [Array.getD, List.getD_eq_getElem?_getD]
  by_cases h : v < l.length
  · rw [dif_pos (by simpa using h)]
    simp [h]
  · rw [dif_neg (by simpa using h), List.getElem?_eq_none (by omega)]
    rfl
theorem lt_one {c d : Nat} : ([c] < [d]) ↔ c < d := by
  constructor
  · intro h
    cases h with
    | rel h => exact h
    | cons h => cases h
  · intro h
    exact .rel h
/-- s.startswith(y, i) -/
theorem starts_at {pre R y : List Nat} {i : Int} (hi : i = (pre.length : Int)) : Txt.startswith3 (TX (pre ++ R)) (TX y) i = (R.take y.length == y) := by
  subst hi
  have e : fromIndex (TX (pre ++ R)).length (pre.length : Int) = pre.length := by
    unfold fromIndex
    rw [if_neg (by omega)]
    omega
  unfold Txt.startswith3
  rw [e, StrLaws.subAt_eq]
  have h1 : (TX (pre ++ R)).cps.toList.drop pre.length = R := by simp
  rw [h1, TX_len, TX_len]
  show (decide (pre.length + y.length ≤ (pre ++ R).length) && (R.take y.length == (TX y).cps.toList)) = _
  rw [TX_tl, List.length_append]
  by_cases h : y.length ≤ R.length
  · rw [decide_eq_true (by omega)]
    rfl
  · rw [decide_eq_false (by omega)]
    have : (R.take y.length == y) = false := by
      refine beq_eq_false_iff_ne.mpr fun q => h ?_
      have := congrArg List.length q
      rw [List.length_take] at this
      omega
    rw [this]
    rfl
/-- s.find("\n", i) -/
theorem find_nl {pre c r : List Nat} {d : Nat} {i : Int} (hi : i = (pre.length : Int)) (hc : d ∉ c) : Txt.find3 (TX (pre ++ (c ++ d :: r))) (TX [d]) i = ((pre.length + c.length : Nat) : Int) := by
  subst hi
  have e : fromIndex (TX (pre ++ (c ++ d :: r))).length (pre.length : Int) = pre.length := by
    unfold fromIndex
    rw [if_neg (by omega)]
    omega
  have hg : ∀ v, v < (pre ++ (c ++ d :: r)).length → (TX (pre ++ (c ++ d :: r))).cps.getD v 0 = (pre ++ (c ++ d :: r)).getD v 0 := fun v _ => getD_TX _ v
  have hat : (pre ++ (c ++ d :: r)).getD (pre.length + c.length) 0 = d := by simp [List.getD_eq_getElem?_getD]
  have hlt : pre.length + c.length < (pre ++ (c ++ d :: r)).length := by rw [List.length_append, List.length_append, List.length_cons]; omega
  rcases StrLaws.find3_spec (TX (pre ++ (c ++ d :: r))) d (pre.length : Int) with ⟨_, h2⟩ | ⟨k, h1, h2, h3, h4, h5⟩
  · rw [e, TX_len] at h2
    exact absurd (by rw [hg _ hlt]; exact hat) (h2 (pre.length + c.length) (by omega) hlt)
  · rw [e] at h2 h5
    rw [TX_len] at h3
    rw [h1]
    have hk : k = pre.length + c.length := by
      rcases Nat.lt_trichotomy k (pre.length + c.length) with q | q | q
      · exfalso
        rw [hg k h3] at h4
        have e3 : (pre ++ (c ++ d :: r)).getD k 0 = c.getD (k - pre.length) 0 := by
          rw [List.getD_eq_getElem?_getD, List.getD_eq_getElem?_getD, List.getElem?_append_right h2, List.getElem?_append_left (by omega)]
        rw [e3] at h4
        apply hc
        have hlt2 : k - pre.length < c.length := by omega
        rw [List.getD_eq_getElem?_getD, List.getElem?_eq_getElem hlt2] at h4
        have h4 : c[k - pre.length] = d := h4
        rw [← h4]
        exact List.getElem_mem hlt2
      · exact q
      · exfalso
        exact h5 (pre.length + c.length) (by omega) q (by rw [hg _ hlt]; exact hat)
    rw [hk]
/-- s[i:j] -/
theorem cut_mid {pre m r : List Nat} {i j : Int} (hi : i = (pre.length : Int)) (hj : j = ((pre.length + m.length : Nat) : Int)) : cutS (TX (pre ++ (m ++ r))) (some i) (some j) = TX m := by
  subst hi hj
  unfold cutS
  rw [TX_len, HT.sIx_nat, HT.sIx_nat, TX_tl]
  have e1 : min pre.length (pre ++ (m ++ r)).length = pre.length := by simp
  have e2 : min (pre.length + m.length) (pre ++ (m ++ r)).length = pre.length + m.length := by simp
  rw [e1, e2]
  refine congrArg TX ?_
  rw [List.drop_left, Nat.add_sub_cancel_left, List.take_left]

/-! ### rows -/
def rws : List Nat → List Nat → List (List Nat)
  | acc, [] => [acc]
  | acc, c :: r => if c = 10 then acc :: rws [] r else rws (acc ++ [c]) r
theorem spl_rws : ∀ (l acc : List Nat), TL.spl [10] 0 acc l = rws acc l
  | [], acc => by rw [TL.spl_nil]; rfl
  | c :: r, acc => by
    unfold rws
    by_cases h : c = 10
    · subst h
      rw [if_pos rfl, TL.spl_hit (by rfl)]
      exact congrArg (acc :: ·) (spl_rws r [])
    · rw [if_neg h, TL.spl_miss (by
        show TL.pre [10] (c :: r) = false
        unfold TL.pre
        simp [h])]
      exact spl_rws r _
theorem rws_ne : ∀ (l acc : List Nat), rws acc l ≠ []
  | [], acc => by unfold rws; simp
  | c :: r, acc => by
    unfold rws
    split
    · simp
    · exact rws_ne r _
def lnOf (l : List Nat) : Nat := (rws [] l).length
def clOf (l : List Nat) : Nat := ((rws [] l).getLast (rws_ne _ _)).length
theorem rws_plain : ∀ (l acc m : List Nat), 10 ∉ m → ∃ fr la, rws acc l = fr ++ [la] ∧ rws acc (l ++ m) = fr ++ [la ++ m]
  | [], acc, m, h => by
    refine ⟨[], acc, rfl, ?_⟩
    show rws acc m = [acc ++ m]
    induction m generalizing acc with
    | nil => rw [List.append_nil]; rfl
    | cons c m ih =>
      have hc : c ≠ 10 := fun e => h (by rw [e]; exact List.mem_cons_self)
      unfold rws
      rw [if_neg hc, ih _ fun e => h (List.mem_cons_of_mem _ e), List.append_assoc]
      rfl
  | c :: r, acc, m, h => by
    rw [List.cons_append]
    unfold rws
    by_cases hc : c = 10
    · rw [if_pos hc, if_pos hc]
      obtain ⟨fr, la, e1, e2⟩ := rws_plain r [] m h
      exact ⟨acc :: fr, la, by rw [e1]; rfl, by rw [e2]; rfl⟩
    · rw [if_neg hc, if_neg hc]
      exact rws_plain r _ m h
theorem rws_nl : ∀ (l acc : List Nat), rws acc (l ++ [10]) = rws acc l ++ [[]]
  | [], acc => by
    show rws acc [10] = [acc] ++ [[]]
    unfold rws
    rw [if_pos rfl]
    rfl
  | c :: r, acc => by
    rw [List.cons_append]
    unfold rws
    split
    · rw [rws_nl r []]; rfl
    · exact rws_nl r _
theorem getLast_of {α : Type} {l fr : List α} {la : α} (h : l ≠ []) (e : l = fr ++ [la]) : l.getLast h = la := by
  subst e
  simp
theorem ln_plain (l m : List Nat) (h : 10 ∉ m) : lnOf (l ++ m) = lnOf l := by
  obtain ⟨fr, la, e1, e2⟩ := rws_plain l [] m h
  unfold lnOf
  rw [e1, e2]
  simp
theorem cl_plain (l m : List Nat) (h : 10 ∉ m) : clOf (l ++ m) = clOf l + m.length := by
  obtain ⟨fr, la, e1, e2⟩ := rws_plain l [] m h
  unfold clOf
  rw [getLast_of _ e1, getLast_of _ e2, List.length_append]
theorem ln_nl (l : List Nat) : lnOf (l ++ [10]) = lnOf l + 1 := by
  unfold lnOf
  rw [rws_nl]
  simp
theorem cl_nl (l : List Nat) : clOf (l ++ [10]) = 0 := by
  unfold clOf
  rw [getLast_of _ (rws_nl l [])]
  rfl
theorem cl_le : ∀ l : List Nat, clOf l ≤ l.length := by
  intro l
  have : ∀ (l acc : List Nat), ((rws acc l).getLast (rws_ne _ _)).length ≤ acc.length + l.length := by
    intro l
    induction l with
    | nil => intro acc; simp [rws]
    | cons c r ih =>
      intro acc
      by_cases hc : c = 10
      · have e : rws acc (c :: r) = acc :: rws [] r := by
          show (if c = 10 then _ else _) = _
          rw [if_pos hc]
        have e2 : (rws acc (c :: r)).getLast (rws_ne _ _) = (rws [] r).getLast (rws_ne _ _) := by
          simp only [e]
          exact List.getLast_cons (rws_ne _ _)
        rw [e2]
        have := ih []
        simp at this ⊢
        omega
      · have e : rws acc (c :: r) = rws (acc ++ [c]) r := by
          show (if c = 10 then _ else _) = _
          rw [if_neg hc]
        have e2 : (rws acc (c :: r)).getLast (rws_ne _ _) = (rws (acc ++ [c]) r).getLast (rws_ne _ _) := by simp only [e]
        rw [e2]
        have := ih (acc ++ [c])
        simp at this ⊢
        omega
  have := this l []
  simpa [clOf] using this
/-- row = source.split("\n"): how many, and the last one's length -/
theorem split_rows (l : List Nat) : Txt.split (TX l) (TX [10]) = (rws [] l).map TX := by
  have := SX.split_S (a := l) (b := [10]) (by simp) (by decide)
  rw [spl_rws] at this
  exact this
theorem rows_last (l : List Nat) : ∃ la : List Nat, atI ((rws [] l).map fun r => V.str (TX r)) (-1) = some (.str (TX la)) ∧ la.length = clOf l := by
  refine ⟨(rws [] l).getLast (rws_ne _ _), ?_, rfl⟩
  have hp : 0 < (rws [] l).length := List.length_pos_iff.mpr (rws_ne _ _)
  unfold atI ixN
  rw [if_neg (by decide), if_pos (by rw [List.length_map]; omega)]
  show ((rws [] l).map fun r => V.str (TX r))[_]? = _
  have e : (-1 + (((rws [] l).map fun r => V.str (TX r)).length : Int)).toNat = (rws [] l).length - 1 := by rw [List.length_map]; omega
  rw [e, List.getElem?_map, List.getElem?_eq_getElem (by omega), List.getLast_eq_getElem]
  rfl

/-! ### signs -/
def isLet (c : Nat) : Bool := (decide (97 ≤ c) && decide (c ≤ 122)) || (decide (65 ≤ c) && decide (c ≤ 90))
def isDig (c : Nat) : Bool := decide (48 ≤ c) && decide (c ≤ 57)
def isWs (c : Nat) : Bool := isLet c || isDig c || decide (c = 95)
end VL

set_option Elab.async false
set_option linter.all false
set_option maxRecDepth 100000
set_option maxHeartbeats 4000000
namespace VL
open PySem PySem.Spec PyProof.Rows L2

def top (i : Nat) : Stmt := PySem.Challenge.pw_viewloom_k75_what_another_program_keeps.main.body.getD i (.Pass ⟨0, 0, 0, 0⟩)
abbrev s_copy_of : Stmt := top 1
abbrev s_component_named : Stmt := top 3
abbrev s_fits : Stmt := top 5
abbrev s_kept_stores : Stmt := top 6
abbrev s__law_rows : Stmt := top 8
abbrev s__law_constant : Stmt := top 9
abbrev s__law_program : Stmt := top 10
abbrev s__law_cells : Stmt := top 11
abbrev s_law : Stmt := top 12
structure Ad where
  u0 : Unit
structure Txt (K : PySem.W.Frag) (w : World) (mg : Str → Option Value) (C : Ad) : Prop where
  z_bool : mg "bool" = none
  z_dict : mg "dict" = none
  z_int : mg "int" = none
  z_isinstance : mg "isinstance" = none
  z_len : mg "len" = none
  z_list : mg "list" = none
  z_range : mg "range" = none
  z_repr : mg "repr" = none
  z_str : mg "str" = none
  z_tuple : mg "tuple" = none
  d_copy_of : DefE K mg "copy_of" s_copy_of ["value"]
  d_component_named : DefE K mg "component_named" s_component_named ["program", "name"]
  d_fits : DefE K mg "fits" s_fits ["before", "now", "name"]
  d_kept_stores : DefE K mg "kept_stores" s_kept_stores ["stores", "now"]
  d__law_rows : DefE K mg "_law_rows" s__law_rows ["script", "count"]
  d__law_constant : DefE K mg "_law_constant" s__law_constant ["row"]
  d__law_program : DefE K mg "_law_program" s__law_program ["rows", "at"]
  d__law_cells : DefE K mg "_law_cells" s__law_cells ["program", "name"]
end VL

set_option Elab.async false
set_option linter.all false
set_option maxRecDepth 100000
set_option maxHeartbeats 4000000
namespace VL
open PySem PySem.Spec PyProof.Rows L2
def spFalse : Sp := fun _ _ _ _ => False
theorem Sm.new {t : Addr} {o : HO} {H : Hp} (h : H t = none) : Same H (upd H t o) := fun b u e => by rw [upd_ne (ne_of_none e h)]; exact e
def spRows (K : PySem.W.Frag) : Sp := fun vs H Q _ => ∃ (s : Addr) (ns : List Int) (m : Nat), vs = [.ref s, .int m] ∧ SqL K H s (ns.map V.int) ∧ ns.length ≤ 63 ∧ m ≤ 100 ∧ ∀ r (zs : List Int) H', Same H H' → H r = none → H' r = some (.lst (zs.map V.int)) → zs.length = m → Q (.ref r) H'
section
variable {P : Program} {w : World} {K : PySem.W.Frag} {mg : Str → Option Value} {base : Heap} {C : Ad}
theorem sc_copy_of : FnScope ["value", "part", "name"] ["value"] (defScope s_copy_of) := ⟨rfl, rfl, rfl, by decide +kernel, rfl, by decide +kernel, by decide +kernel⟩
theorem scal_ty {H : Hp} {v : V} {d : PyData} (h : Dq H v d) (hd : PyData.depth d = 0) : ∃ t : String, TyX K H v (.type t) ∧ kitB t "list" = some false ∧ kitB t "dict" = some false ∧ kitB t "tuple" = some false ∧ ((kitB t "int" = some true) ∨ (kitB t "int" = some false ∧ kitB t "str" = some true) ∨ (kitB t "int" = some false ∧ kitB t "str" = some false ∧ v = .non)) := by
  cases h with
  | non => exact ⟨"NoneType", .base .non, by decide +kernel, by decide +kernel, by decide +kernel, .inr (.inr ⟨by decide +kernel, by decide +kernel, rfl⟩)⟩
  | bl b => exact ⟨"bool", .base (.bl b), by decide +kernel, by decide +kernel, by decide +kernel, .inl (by decide +kernel)⟩
  | int i => exact ⟨"int", .base (.int i), by decide +kernel, by decide +kernel, by decide +kernel, .inl (by decide +kernel)⟩
  | str x => exact ⟨"str", .base (.str x), by decide +kernel, by decide +kernel, by decide +kernel, .inr (.inl ⟨by decide +kernel, by decide +kernel⟩)⟩
  | lst _ _ => exact absurd hd (by simp [PyData.depth])
  | tup _ _ => exact absurd hd (by simp [PyData.depth])
  | dic _ _ _ => exact absurd hd (by simp [PyData.depth])
theorem scal_dq {H H' : Hp} {v : V} {d : PyData} (h : Dq H v d) (hd : PyData.depth d = 0) : Dq H' v d := by
  cases h with
  | non => exact .non
  | bl b => exact .bl b
  | int i => exact .int i
  | str x => exact .str x
  | lst _ _ => exact absurd hd (by simp [PyData.depth])
  | tup _ _ => exact absurd hd (by simp [PyData.depth])
  | dic _ _ _ => exact absurd hd (by simp [PyData.depth])
theorem ok_copy0 (T : Txt K w mg C) {k : Nat} (Gcopy_of : Cal P w K mg base (k + 1) "copy_of" spFalse) : Cal P w K mg base (k + 2) "copy_of" (spCopy 0) := by
  refine cal_of T.d_copy_of sc_copy_of (fun vs H Q E h => ?_) (fun f cdv A outer s H vs Q E hr h => ?_)
  · obtain ⟨v, d, rfl, _⟩ := h
    rfl
  · obtain ⟨v, d, rfl, hd, hc, hn, q⟩ := h
    have hu := hu_of hr
    have d0 : PyData.depth d = 0 := Nat.le_zero.mp hn
    obtain ⟨t, ty, k1, k2, k3, _⟩ := scal_ty (K := K) hd d0
    refine ⟨_, (pss_cons (ps_if (pt_val (pe_callB call_isi (by rfl) T.z_isinstance (by decide +kernel) (pa_cons (pv 0) (pa_cons (pe_bltn (v := .ty "list") (by rfl) T.z_list (by decide +kernel) rfl) pa_nil)))) (pss_one (ps_ret (pe_lc (own := [("part", 1)]) (g := gName 1) (tt := tYes) rfl sc_copy_of.nd (pi_list (pv 0)) (blkOk_by (N := ["value", "part", "name"]) (sc := (defScope s_copy_of)) (by decide +kernel)) (fun _ _ _ _ _ => pg_name (i := 1) sc_copy_of.nd rfl (Or.inl rfl)) (fun _ _ _ _ _ => pts_nil) (fun _ _ _ _ _ => (pe_ifExp (PW.pt (pw_or (pt_val (pe_callB (call_isiS (K := K) rfl) (by rfl) T.z_isinstance (by decide +kernel) (pa_cons (pv 1) (pa_cons (pe_bltn (v := .ty "int") (by rfl) T.z_int (by decide +kernel) rfl) pa_nil)))) (pw_or (pt_val (pe_callB (call_isiS (K := K) rfl) (by rfl) T.z_isinstance (by decide +kernel) (pa_cons (pv 1) (pa_cons (pe_bltn (v := .ty "str") (by rfl) T.z_str (by decide +kernel) rfl) pa_nil)))) (pw_or1 (pt_cmp (pc_isN (pv 1))))))) (pv 1) (pe_c Gcopy_of hr (Nat.le_refl _) (by rfl) (pa_cons (pv 1) pa_nil))))))) pss_nil) (pss_cons (ps_if (pt_val (pe_callB call_isi (by rfl) T.z_isinstance (by decide +kernel) (pa_cons (pv 0) (pa_cons (pe_bltn (v := .ty "dict") (by rfl) T.z_dict (by decide +kernel) rfl) pa_nil)))) (pss_one (ps_ret (pe_lock (pe_dc (own := [("name", 2)]) (g := gName 2) (tt := tYes) rfl sc_copy_of.nd (pi_keys (pv 0)) (blkOk_by (N := ["value", "part", "name"]) (sc := (defScope s_copy_of)) (by decide +kernel)) (fun _ _ _ _ _ => pg_name (i := 2) sc_copy_of.nd rfl (Or.inl rfl)) (fun _ _ _ _ _ => pts_nil) (fun _ _ _ _ _ => (pv 2)) (fun _ _ _ _ _ => (pe_c Gcopy_of hr (Nat.le_refl _) (by rfl) (pa_cons (pe_dget hu (pv 0) (pv 2) (fun _ _ => rfl)) pa_nil))))))) pss_nil) (pss_cons (ps_if (pt_val (pe_callB call_isi (by rfl) T.z_isinstance (by decide +kernel) (pa_cons (pv 0) (pa_cons (pe_bltn (v := .ty "tuple") (by rfl) T.z_tuple (by decide +kernel) rfl) pa_nil)))) (pss_one (ps_ret (pe_tup (pa_cons (pe_ix ix_tup (pv 0) pe_int (fun _ _ => rfl)) (pa_cons (pe_ix ix_tup (pv 0) pe_int (fun _ _ => rfl)) (pa_cons (pe_ix ix_tup (pv 0) pe_int (fun _ _ => rfl)) (pa_cons (pe_c Gcopy_of hr (Nat.le_refl _) (by rfl) (pa_cons (pe_ix ix_tup (pv 0) pe_int (fun _ _ => rfl)) pa_nil)) pa_nil))))))) pss_nil) (pss_one (ps_ret (pv 0)))))), ?_⟩
    refine ⟨_, rfl, v, .ty "list", _, _, false, rfl, .ty _, ty, kit_ty k1, false, rfl, iteF ?_⟩
    refine ⟨_, rfl, v, .ty "dict", _, _, false, rfl, .ty _, ty, kit_ty k2, false, rfl, iteF ?_⟩
    refine ⟨_, rfl, v, .ty "tuple", _, _, false, rfl, .ty _, ty, kit_ty k3, false, rfl, iteF ?_⟩
    exact ⟨_, rfl, q v H (Same.refl _) (scal_dq hd d0)⟩
theorem ok_copyS (T : Txt K w mg C) {n : Nat} (Gcopy_of : Cal P w K mg base (n + 2) "copy_of" (spCopy n)) : Cal P w K mg base (n + 3) "copy_of" (spCopy (n + 1)) := by
  refine cal_of T.d_copy_of sc_copy_of (fun vs H Q E h => ?_) (fun f cdv A outer s H vs Q E hr h => ?_)
  · obtain ⟨v, d, rfl, _⟩ := h
    rfl
  · obtain ⟨v, d, rfl, hd, hc, hn, q⟩ := h
    have hu := hu_of hr
    have big : 100000 < sizeLine := by decide
    refine ⟨_, (pss_cons (ps_if (pt_val (pe_callB call_isi (by rfl) T.z_isinstance (by decide +kernel) (pa_cons (pv 0) (pa_cons (pe_bltn (v := .ty "list") (by rfl) T.z_list (by decide +kernel) rfl) pa_nil)))) (pss_one (ps_ret (pe_lc (own := [("part", 1)]) (g := gName 1) (tt := tYes) rfl sc_copy_of.nd (pi_list (pv 0)) (blkOk_by (N := ["value", "part", "name"]) (sc := (defScope s_copy_of)) (by decide +kernel)) (fun _ _ _ _ _ => pg_name (i := 1) sc_copy_of.nd rfl (Or.inl rfl)) (fun _ _ _ _ _ => pts_nil) (fun _ _ _ _ _ => (pe_ifExp (PW.pt (pw_or (pt_val (pe_callB (call_isiS (K := K) rfl) (by rfl) T.z_isinstance (by decide +kernel) (pa_cons (pv 1) (pa_cons (pe_bltn (v := .ty "int") (by rfl) T.z_int (by decide +kernel) rfl) pa_nil)))) (pw_or (pt_val (pe_callB (call_isiS (K := K) rfl) (by rfl) T.z_isinstance (by decide +kernel) (pa_cons (pv 1) (pa_cons (pe_bltn (v := .ty "str") (by rfl) T.z_str (by decide +kernel) rfl) pa_nil)))) (pw_or1 (pt_cmp (pc_isN (pv 1))))))) (pv 1) (pe_c Gcopy_of hr (Nat.le_refl _) (by rfl) (pa_cons (pv 1) pa_nil))))))) pss_nil) (pss_cons (ps_if (pt_val (pe_callB call_isi (by rfl) T.z_isinstance (by decide +kernel) (pa_cons (pv 0) (pa_cons (pe_bltn (v := .ty "dict") (by rfl) T.z_dict (by decide +kernel) rfl) pa_nil)))) (pss_one (ps_ret (pe_lock (pe_dc (own := [("name", 2)]) (g := gName 2) (tt := tYes) rfl sc_copy_of.nd (pi_keys (pv 0)) (blkOk_by (N := ["value", "part", "name"]) (sc := (defScope s_copy_of)) (by decide +kernel)) (fun _ _ _ _ _ => pg_name (i := 2) sc_copy_of.nd rfl (Or.inl rfl)) (fun _ _ _ _ _ => pts_nil) (fun _ _ _ _ _ => (pv 2)) (fun _ _ _ _ _ => (pe_c Gcopy_of hr (Nat.le_refl _) (by rfl) (pa_cons (pe_dget hu (pv 0) (pv 2) (fun _ _ => rfl)) pa_nil))))))) pss_nil) (pss_cons (ps_if (pt_val (pe_callB call_isi (by rfl) T.z_isinstance (by decide +kernel) (pa_cons (pv 0) (pa_cons (pe_bltn (v := .ty "tuple") (by rfl) T.z_tuple (by decide +kernel) rfl) pa_nil)))) (pss_one (ps_ret (pe_tup (pa_cons (pe_ix ix_tup (pv 0) pe_int (fun _ _ => rfl)) (pa_cons (pe_ix ix_tup (pv 0) pe_int (fun _ _ => rfl)) (pa_cons (pe_ix ix_tup (pv 0) pe_int (fun _ _ => rfl)) (pa_cons (pe_c Gcopy_of hr (Nat.le_refl _) (by rfl) (pa_cons (pe_ix ix_tup (pv 0) pe_int (fun _ _ => rfl)) pa_nil)) pa_nil))))))) pss_nil) (pss_one (ps_ret (pv 0)))))), ?_⟩
    by_cases d0 : PyData.depth d = 0
    · obtain ⟨t, ty, k1, k2, k3, _⟩ := scal_ty (K := K) hd d0
      refine ⟨_, rfl, v, .ty "list", _, _, false, rfl, .ty _, ty, kit_ty k1, false, rfl, iteF ?_⟩
      refine ⟨_, rfl, v, .ty "dict", _, _, false, rfl, .ty _, ty, kit_ty k2, false, rfl, iteF ?_⟩
      refine ⟨_, rfl, v, .ty "tuple", _, _, false, rfl, .ty _, ty, kit_ty k3, false, rfl, iteF ?_⟩
      exact ⟨_, rfl, q v H (Same.refl _) (scal_dq hd d0)⟩
    cases hd with
    | non => exact absurd rfl d0
    | bl b => exact absurd rfl d0
    | int i => exact absurd rfl d0
    | str x => exact absurd rfl d0
    | tup _ _ => exact nomatch hc
    | @lst a xs ds ha hds =>
      have hc' : ds.length ≤ 1000 ∧ cpyAll ds = true := by simpa [cpy] using hc
      have hl := hds.len
      have hn' : PyData.depthAll ds ≤ n := by simp only [PyData.depth] at hn; omega
      refine ⟨_, rfl, .ref a, .ty "list", _, _, true, rfl, .ty _, .base (.lst ha), kit_ty (by decide +kernel), true, rfl, iteT ?_⟩
      refine ⟨_, rfl, a, rfl, ⟨_, SqL.of ha⟩, fun D hD => ?_⟩
      refine lc_it (walk_list (K := K) (a := a) (xs := xs)) (fun i H' => Same H H' ∧ ∃ ys : List V, H' D = some (.lst ys) ∧ DqAll (newer (upd H D (.lst [])) H') ys (ds.take i)) ⟨Sm.new hD, [], upd_same, .nil⟩ (fun i H' _ z => SqL.of (z.1 _ _ ha)) ?_ ?_
      · rintro i x H1 H2 hi ⟨s1, ys, h1, py⟩ ⟨rfl, hx⟩
        have hi' : i < ds.length := by omega
        have hdi : ds[i]? = some ds[i] := List.getElem?_eq_getElem hi'
        obtain ⟨x', hx2, dx⟩ := dqAll_at hds hdi
        have : x' = x := by rw [hx2] at hx; exact Option.some.inj hx
        subst this
        have hm : ds[i] ∈ ds := List.getElem_mem hi'
        have tk : ds.take (i + 1) = ds.take i ++ [ds[i]] := by rw [List.take_add_one, hdi]; rfl
        have hyl : ys.length < sizeLine := by
          have := py.len
          rw [List.length_take] at this
          omega
        have fin : ∀ (y : V) (H3 : Hp), Same H2 H3 → Dq (newer H2 H3) y ds[i] → ∃ acc, H3 D = some (.lst acc) ∧ acc.length < sizeLine ∧ (Same H (upd H3 D (.lst (acc ++ [y]))) ∧ ∃ ys : List V, upd H3 D (.lst (acc ++ [y])) D = some (.lst ys) ∧ DqAll (newer (upd H D (.lst [])) (upd H3 D (.lst (acc ++ [y])))) ys (ds.take (i + 1))) := by
          intro y H3 s3 dy
          refine ⟨ys, s3 _ _ h1, hyl, fun b o eb => ?_, ys ++ [y], upd_same, ?_⟩
          · rw [upd_ne (ne_of_none eb hD)]
            exact s3 _ _ (s1 _ _ eb)
          · rw [tk]
            refine dqAll_ap (py.same fun b o hb => ?_) (.cons (dy.same fun b o hb => ?_) .nil)
            · obtain ⟨z1, z2⟩ := newer_some hb
              have ne : b ≠ D := fun z => by rw [z, upd_same] at z1; exact nomatch z1
              exact newer_mk z1 (by rw [upd_ne ne]; exact s3 _ _ z2)
            · obtain ⟨z1, z2⟩ := newer_some hb
              have ne : b ≠ D := fun z => by rw [z, h1] at z1; exact nomatch z1
              refine newer_mk ?_ (by rw [upd_ne ne]; exact z2)
              rw [upd_ne ne]
              cases e : H b with
              | none => rfl
              | some u => rw [s1 _ _ e] at z1; exact nomatch z1
        refine ⟨rfl, ?_⟩
        by_cases e0 : PyData.depth ds[i] = 0
        · have dx1 : Dq H2 x' ds[i] := dx.same s1
          have self := fin x' H2 (Same.refl _) (scal_dq dx e0)
          obtain ⟨t, ty, k1, k2, k3, k4⟩ := scal_ty (K := K) dx1 e0
          rcases k4 with k4 | ⟨k4, k5⟩ | ⟨k4, k5, k6⟩
          · refine ⟨_, rfl, x', .ty "int", _, _, true, rfl, .ty _, ty, kit_ty k4, true, rfl, iteT (iteT ?_)⟩
            exact ⟨_, rfl, self⟩
          · refine ⟨_, rfl, x', .ty "int", _, _, false, rfl, .ty _, ty, kit_ty k4, false, rfl, iteF ?_⟩
            refine ⟨_, rfl, x', .ty "str", _, _, true, rfl, .ty _, ty, kit_ty k5, true, rfl, iteT (iteT ?_)⟩
            exact ⟨_, rfl, self⟩
          · refine ⟨_, rfl, x', .ty "int", _, _, false, rfl, .ty _, ty, kit_ty k4, false, rfl, iteF ?_⟩
            refine ⟨_, rfl, x', .ty "str", _, _, false, rfl, .ty _, ty, kit_ty k5, false, rfl, iteF ?_⟩
            subst k6
            refine ⟨_, rfl, true, rfl, iteT ?_⟩
            exact ⟨_, rfl, self⟩
        · have call : spCopy n [x'] H2 (fun y H3 => ∃ acc, H3 D = some (.lst acc) ∧ acc.length < sizeLine ∧ (Same H (upd H3 D (.lst (acc ++ [y]))) ∧ ∃ ys : List V, upd H3 D (.lst (acc ++ [y])) D = some (.lst ys) ∧ DqAll (newer (upd H D (.lst [])) (upd H3 D (.lst (acc ++ [y])))) ys (ds.take (i + 1)))) (fun _ _ _ => False) :=
            ⟨x', ds[i], rfl, dx.same s1, cpyAll_mem hc'.2 _ hm, Nat.le_trans (mem_depth hm) hn', fun y H3 s3 dy => fin y H3 s3 dy⟩
          have isr : ∃ b, x' = .ref b ∧ ∃ t : String, TyX K H2 (.ref b) (.type t) ∧ kitB t "int" = some false ∧ kitB t "str" = some false := by
            have dx1 : Dq H2 x' ds[i] := dx.same s1
            revert e0 dx1
            generalize ds[i] = dd
            intro e0 dx1
            cases dx1 with
            | non => exact absurd rfl e0
            | bl b => exact absurd rfl e0
            | int i => exact absurd rfl e0
            | str x => exact absurd rfl e0
            | lst g _ => exact ⟨_, rfl, "list", .base (.lst g), by decide +kernel, by decide +kernel⟩
            | tup g _ => exact ⟨_, rfl, "tuple", .base (.tup g), by decide +kernel, by decide +kernel⟩
            | dic g _ _ => exact ⟨_, rfl, "dict", .base (.dK g), by decide +kernel, by decide +kernel⟩
          obtain ⟨b, rfl, t, ty, k4, k5⟩ := isr
          refine ⟨_, rfl, .ref b, .ty "int", _, _, false, rfl, .ty _, ty, kit_ty k4, false, rfl, iteF ?_⟩
          refine ⟨_, rfl, .ref b, .ty "str", _, _, false, rfl, .ty _, ty, kit_ty k5, false, rfl, iteF ?_⟩
          refine ⟨_, rfl, false, rfl, iteF ?_⟩
          exact ⟨_, rfl, call⟩
      · rintro H1 ⟨s1, ys, h1, py⟩
        rw [hl, List.take_length] at py
        refine q _ H1 s1 (.lst (newer_mk hD h1) (py.same fun b o hb => ?_))
        obtain ⟨z1, z2⟩ := newer_some hb
        have ne : b ≠ D := fun z => by rw [z, upd_same] at z1; exact nomatch z1
        rw [upd_ne ne] at z1
        exact newer_mk z1 z2
    | @dic a ks ds ha nd hds =>
      have kl : ks.length = ds.length := by have := hds.len; rwa [List.length_map] at this
      have hc0 : (zipK ks ds).length ≤ 1000 ∧ cpyKv (zipK ks ds) = true := by simpa [cpy] using hc
      have hca := cpyKv_zip kl hc0.2
      have zl : ks.length ≤ 1000 := by
        have : ((zipK ks ds).map (·.2)).length = ds.length := by rw [zipK_vals kl]
        rw [List.length_map] at this
        omega
      have hn' : PyData.depthAll ds ≤ n := by
        have := dKv_le ks ds kl
        simp only [PyData.depth] at hn
        omega
      have whole : Dq H (.ref a) (.dict (zipK ks ds)) := .dic ha nd hds
      refine ⟨_, rfl, .ref a, .ty "list", _, _, false, rfl, .ty _, .base (.dK ha), kit_ty (by decide +kernel), false, rfl, iteF ?_⟩
      refine ⟨_, rfl, .ref a, .ty "dict", _, _, true, rfl, .ty _, .base (.dK ha), kit_ty (by decide +kernel), true, rfl, iteT ?_⟩
      refine ⟨a, _, ha, trivial, fun od => ?_⟩
      have hlk : upd H a (.frz od (.dK ks)) a = some (.frz od (.dK ks)) := upd_same
      refine ⟨_, rfl, a, od, rfl, .inl ⟨_, hlk, fun D hD => ?_⟩⟩
      have hDa : D ≠ a := fun z => by rw [z, upd_same] at hD; cases hD
      have hDn : H D = none := by rw [upd_ne hDa] at hD; exact hD
      refine dc_itQ (walk_keys (d := a) (o := od) (kvs := ks)) (fun i H' => Same (upd H a (.frz od (.dK ks))) H' ∧ ∃ ys : List (Key × V), H' D = some (.dK ys) ∧ ys.map (·.1) = (ks.take i).map (·.1) ∧ DqAll (newer (upd (upd H a (.frz od (.dK ks))) D (.dK [])) H') (ys.map (·.2)) (ds.take i))
        ⟨Sm.new hD, [], upd_same, rfl, .nil⟩ (fun i H' _ z => z.1 _ _ hlk) ?_ ?_
      · rintro i x H1 H2 hi ⟨s1, ys, h1, kk, py⟩ ⟨rfl, k, v, hkv, rfl⟩
        have hi' : i < ds.length := by omega
        have hdi : ds[i]? = some ds[i] := List.getElem?_eq_getElem hi'
        obtain ⟨v', hv2, dv⟩ := dqAll_at hds hdi
        have : v' = v := by
          rw [List.getElem?_map, hkv] at hv2
          exact (Option.some.inj hv2).symm
        subst this
        have hm : ds[i] ∈ ds := List.getElem_mem hi'
        have tk : ds.take (i + 1) = ds.take i ++ [ds[i]] := by rw [List.take_add_one, hdi]; rfl
        have tk2 : ks.take (i + 1) = ks.take i ++ [(k, v')] := by rw [List.take_add_one, hkv]; rfl
        have dv2 : Dq H2 v' ds[i] := (dv.upd whole (by
          have := mem_depth hm
          have := dKv_le ks ds kl
          show PyData.depth ds[i] < PyData.depthKv (zipK ks ds) + 1
          omega)).same s1
        have knew : valV ys k = none := valV_out (by
          rw [kk]
          have nd2 : ((ks.take (i + 1)).map (·.1)).Nodup := by
            rw [List.map_take]
            exact nd.sublist (List.take_sublist _ _)
          rw [tk2, List.map_append] at nd2
          intro hk
          exact (List.nodup_append.mp nd2).2.2 k hk k List.mem_cons_self rfl)
        refine ⟨rfl, ?_⟩
        refine ⟨_, rfl, _, rfl, _, rfl, a, v', rfl, (by rw [← valV_nd nd hkv]; exact dget_fz (k := k) (s1 _ _ hlk)), v', ds[i], rfl, dv2, cpyAll_mem hca _ hm, Nat.le_trans (mem_depth hm) hn', fun y H3 s3 dy => ?_⟩
        have yl : ys.length = i := by
          have := congrArg List.length kk
          rw [List.length_map, List.length_map, List.length_take] at this
          omega
        refine ⟨ys, k, rfl, s3 _ _ h1, by omega, fun b o eb => ?_, ys ++ [(k, y)], ?_, ?_, ?_⟩
        · rw [upd_ne (ne_of_none eb hD)]
          exact s3 _ _ (s1 _ _ eb)
        · rw [upd_same, putK_nw knew]
        · rw [tk2, List.map_append, List.map_append, kk]
          rfl
        · rw [tk, putK_nw knew, List.map_append]
          refine dqAll_ap (py.same fun b o hb => ?_) (.cons (dy.same fun b o hb => ?_) .nil)
          · obtain ⟨z1, z2⟩ := newer_some hb
            have ne : b ≠ D := fun z => by rw [z, upd_same] at z1; exact nomatch z1
            exact newer_mk z1 (by rw [upd_ne ne]; exact s3 _ _ z2)
          · obtain ⟨z1, z2⟩ := newer_some hb
            have ne : b ≠ D := fun z => by rw [z, h1] at z1; exact nomatch z1
            refine newer_mk ?_ (by rw [upd_ne ne]; exact z2)
            rw [upd_ne ne]
            cases e : upd H a (.frz od (.dK ks)) b with
            | none => rfl
            | some u => rw [s1 _ _ e] at z1; exact nomatch z1
      · rintro H1 ⟨s1, ys, h1, kk, py⟩
        refine ⟨s1 _ _ hlk, ?_⟩
        rw [List.take_length] at kk
        rw [kl, List.take_length] at py
        have ez : zipK ys ds = zipK ks ds := zipK_keys kk
        refine q _ _ (fun b o eb => ?_) ?_
        · by_cases e : b = a
          · subst e
            rw [upd_same, ← ha, eb]
          · rw [upd_ne e]
            exact s1 _ _ (by rw [upd_ne e]; exact eb)
        · rw [← ez]
          refine .dic (newer_mk hDn (by rw [upd_ne hDa]; exact h1)) (by rw [kk]; exact nd) (py.same fun b o hb => ?_)
          obtain ⟨z1, z2⟩ := newer_some hb
          have n1 : b ≠ D := fun z => by rw [z, upd_same] at z1; exact nomatch z1
          rw [upd_ne n1] at z1
          have n2 : b ≠ a := fun z => by rw [z, upd_same] at z1; exact nomatch z1
          rw [upd_ne n2] at z1
          exact newer_mk z1 (by rw [upd_ne n2]; exact z2)
theorem ok_copyN (T : Txt K w mg C) : ∀ n : Nat, Cal P w K mg base (n + 2) "copy_of" (spCopy n)
  | 0 => ok_copy0 T (cal_of T.d_copy_of sc_copy_of (fun vs H Q E h => h.elim) (fun f cdv A outer s H vs Q E hr h => h.elim))
  | n + 1 => ok_copyS T (ok_copyN T n)
end
end VL

set_option Elab.async false
set_option linter.all false
set_option maxRecDepth 100000
set_option maxHeartbeats 4000000
namespace VL
open PySem PySem.Spec PyProof.Rows L2
theorem map_int_atR {ns : List Int} {j : Int} (h0 : 0 ≤ j) (h1 : j < (ns.length : Int)) : ∃ z, atI (ns.map V.int) j = some (.int z) := by
  have hj : j.toNat < ns.length := by omega
  refine ⟨ns[j.toNat], ?_⟩
  unfold atI ixN
  rw [if_pos h0, if_pos (by rw [List.length_map]; exact h1)]
  show (ns.map V.int)[j.toNat]? = _
  rw [List.getElem?_map, List.getElem?_eq_getElem hj]
  rfl
section
variable {P : Program} {w : World} {K : PySem.W.Frag} {mg : Str → Option Value} {base : Heap} {C : Ad}
theorem sc__law_rows : FnScope ["script", "count", "rows", "k", "cell"] ["script", "count"] (defScope s__law_rows) := ⟨rfl, rfl, rfl, by decide +kernel, rfl, by decide +kernel, by decide +kernel⟩
theorem ok_rows (T : Txt K w mg C) : Cal P w K mg base 1 "_law_rows" (spRows K) := by
  refine cal_of T.d__law_rows sc__law_rows (fun vs H Q E h => ?_) (fun f cdv A outer s H vs Q E hr h => ?_)
  · obtain ⟨a, ns, m, rfl, _⟩ := h
    rfl
  · obtain ⟨a, ns, m, rfl, ha, hn, hm, k⟩ := h
    have hu := hu_of hr
    have big : 100000 < sizeLine := by decide
    refine ⟨_, (pss_cons (ps_set (i := 2) sc__law_rows.nd rfl (Or.inl rfl) (pe_lst pa_nil)) (pss_cons (ps_for PassesOwn.never rfl (pi_range1 (by rfl) T.z_range (pa_cons (pv 1) pa_nil)) (pg_name (i := 3) sc__law_rows.nd rfl (Or.inl rfl)) (pss_cons (ps_set (i := 4) sc__law_rows.nd rfl (Or.inl rfl) pe_int) (C8.pss_cut (ps_if (pt_cmpR op_gt (pe_callB call_len_seq (by rfl) T.z_len PySem.boot_len (pa_cons (pv 0) pa_nil)) pe_int (nomark _)) (pss_one (ps_set (i := 4) sc__law_rows.nd rfl (Or.inl rfl) (pe_callTy call_int1 (by rfl) T.z_int (by decide +kernel) (pa_cons (pe_ix ix_list (pv 0) (pe_op op_mod (pe_callTy call_int1 (by rfl) T.z_int (by decide +kernel) (pa_cons (pv 3) pa_nil)) (pe_callB call_len_seq (by rfl) T.z_len PySem.boot_len (pa_cons (pv 0) pa_nil))) (fun _ _ => rfl)) pa_nil)))) pss_nil) (C8.pss_cut (ps_if (pt_cmpR op_lt (pv 4) pe_int (nomark _)) (pss_one (ps_set (i := 4) sc__law_rows.nd rfl (Or.inl rfl) (pe_op op_sub pe_int (pe_op op_mul pe_int (pv 4))))) pss_nil) (C8.pss_cut (ps_if (PW.pt (pw_or (pt_cmpR op_ge (pv 3) (pe_callB call_len_seq (by rfl) T.z_len PySem.boot_len (pa_cons (pv 0) pa_nil)) (nomark _)) (pw_or1 (pt_cmpR op_lt (pv 4) pe_int (nomark _))))) (pss_cons (ps_set (i := 4) sc__law_rows.nd rfl (Or.inl rfl) (pe_op op_mod (pe_callTy call_int1 (by rfl) T.z_int (by decide +kernel) (pa_cons (pe_op op_add (pe_op op_mul (pe_op op_add (pe_op op_add (pv 4) (pe_op op_mul pe_int (pv 3))) pe_int) pe_int) (pe_op op_mul (pe_op op_mul (pv 3) (pv 3)) pe_int)) pa_nil)) pe_int)) (pss_one (ps_set (i := 4) sc__law_rows.nd rfl (Or.inl rfl) (pe_op op_mod (pe_callTy call_int1 (by rfl) T.z_int (by decide +kernel) (pa_cons (pe_op op_mul (pe_op op_add (pe_op op_add (pv 4) (pe_op op_mul pe_int (pv 3))) pe_int) pe_int) pa_nil)) pe_int)))) pss_nil) (pss_one (ps_expr (pe_bm PySem.F.plainAttrs_list PySem.F.slot_list_append PySem.F.type_list_append mt_append (pv 2) (pa_cons (pv 4) pa_nil))))))))) (pss_one (ps_ret (pv 2))))), ?_⟩
    refine ⟨by show 0 ≤ sizeLine; decide, fun r hr0 => ?_⟩
    refine ⟨_, rfl, _, rfl, by omega, by omega, ?_⟩
    refine for_range (lo := 0) (n := ((m : Nat) : Int).toNat) (fun i σ H' => ∃ (zs : List Int) (y1 y2 : Option V), Same H H' ∧ H' r = some (.lst (zs.map V.int)) ∧ zs.length = i ∧ σ = [some (.ref a), some (.int m), some (.ref r), y1, y2]) ⟨[], none, none, Sm.new hr0, upd_same, rfl, rfl⟩ ?_ ?_
    · rintro i σ H1 hi ⟨zs, y1, y2, s1, h1, zl, rfl⟩
      have hi' : i < m := by omega
      have ha1 := Same.seq s1 ha
      have hL : ((ns.map V.int).length : Int) = (ns.length : Int) := by rw [List.length_map]
      refine ⟨fun σ' H' => H' = H1 ∧ ∃ c : Int, σ' = [some (.ref a), some (.int m), some (.ref r), some (.int (0 + (i : Int))), some (.int c)], ?_, ?_⟩
      · refine ⟨_, rfl, a, _, rfl, .inl ha1, _, _, rfl, rfl, _, rfl, ?_⟩
        rw [hL]
        refine ite2 (fun q => ?_) (fun q => ⟨rfl, 0, rfl⟩)
        have q' : (0 : Int) < ns.length := of_decide_eq_true q
        obtain ⟨z, hz⟩ := map_int_atR (ns := ns) (j := (0 + (i : Int)) % (ns.length : Int)) (Int.emod_nonneg _ (by omega)) (Int.emod_lt_of_pos _ q')
        refine ⟨_, rfl, _, rfl, .inl ⟨_, rfl, _, rfl, a, _, rfl, .inl ha1, _, _, rfl, rfl, by rw [hL]; exact q', a, _, _, .int z, rfl, rfl, ha1, by rw [hL]; exact hz, .inl ⟨_, rfl, rfl, z, rfl⟩⟩⟩
      · rintro σ' H' ⟨eH, c, rfl⟩
        rw [eH]
        refine ⟨fun σ' H' => H' = H1 ∧ ∃ c : Int, σ' = [some (.ref a), some (.int m), some (.ref r), some (.int (0 + (i : Int))), some (.int c)], ?_, ?_⟩
        · refine ⟨_, rfl, _, _, rfl, rfl, _, rfl, ?_⟩
          refine ite2 (fun q => ?_) (fun q => ⟨rfl, c, rfl⟩)
          exact ⟨_, rfl, _, _, rfl, rfl, .inl ⟨by decide, by decide⟩, _, _, rfl, rfl, rfl, _, rfl⟩
        · rintro σ' H' ⟨eH, c, rfl⟩
          rw [eH]
          refine ⟨fun σ' H' => H' = H1 ∧ ∃ c : Int, σ' = [some (.ref a), some (.int m), some (.ref r), some (.int (0 + (i : Int))), some (.int c)], ?_, ?_⟩
          · refine ⟨_, rfl, _, rfl, a, _, rfl, .inl ha1, _, _, rfl, rfl, _, rfl, ?_⟩
            refine ite2 (fun q => ?_) (fun q => ?_)
            · refine ⟨_, rfl, _, rfl, _, _, rfl, rfl, .inl ⟨by decide, by decide⟩, _, _, rfl, rfl, _, _, rfl, rfl, _, _, rfl, rfl, .inr ⟨by decide, by decide⟩, _, rfl, _, rfl, _, _, rfl, rfl, .inl ⟨by omega, by omega⟩, _, _, rfl, rfl, .inr ⟨by decide, by decide⟩, _, _, rfl, rfl, .inl ⟨_, rfl, _, _, rfl, rfl, (by show (0 : Int) < 1000000007; decide), ?_⟩⟩
              exact ⟨_, rfl, _, rfl, _, _, rfl, rfl, .inl ⟨by decide, by decide⟩, _, _, rfl, rfl, _, _, rfl, rfl, _, _, rfl, rfl, .inr ⟨by decide, by decide⟩, .inl ⟨_, rfl, _, _, rfl, rfl, (by show (0 : Int) < 18446744073709551557; decide), rfl, _, rfl⟩⟩
            · refine ⟨_, rfl, _, _, rfl, rfl, _, rfl, ?_⟩
              refine ite2 (fun q => ?_) (fun q => ⟨rfl, c, rfl⟩)
              refine ⟨_, rfl, _, rfl, _, _, rfl, rfl, .inl ⟨by decide, by decide⟩, _, _, rfl, rfl, _, _, rfl, rfl, _, _, rfl, rfl, .inr ⟨by decide, by decide⟩, _, rfl, _, rfl, _, _, rfl, rfl, .inl ⟨by omega, by omega⟩, _, _, rfl, rfl, .inr ⟨by decide, by decide⟩, _, _, rfl, rfl, .inl ⟨_, rfl, _, _, rfl, rfl, (by show (0 : Int) < 1000000007; decide), ?_⟩⟩
              exact ⟨_, rfl, _, rfl, _, _, rfl, rfl, .inl ⟨by decide, by decide⟩, _, _, rfl, rfl, _, _, rfl, rfl, _, _, rfl, rfl, .inr ⟨by decide, by decide⟩, .inl ⟨_, rfl, _, _, rfl, rfl, (by show (0 : Int) < 18446744073709551557; decide), rfl, _, rfl⟩⟩
          · rintro σ' H' ⟨eH, c, rfl⟩
            rw [eH]
            refine ⟨_, rfl, .inl ⟨rfl, _, SqL.of h1⟩, _, rfl, r, _, _, rfl, rfl, h1, ?_, ?_⟩
            · rw [List.length_map]
              omega
            · refine ⟨zs ++ [c], _, _, fun b o eb => ?_, ?_, by rw [List.length_append, zl]; rfl, rfl⟩
              · rw [upd_ne (ne_of_none eb hr0)]
                exact s1 _ _ eb
              · rw [upd_same, List.map_append]
                rfl
    · rintro σ H1 ⟨zs, y1, y2, s1, h1, zl, rfl⟩
      exact ⟨_, rfl, k r zs H1 s1 hr0 h1 (by omega)⟩
end
end VL

set_option Elab.async false
set_option linter.all false
set_option maxRecDepth 100000
set_option maxHeartbeats 4000000
namespace VL
open PySem PySem.Spec PyProof.Rows L2
/-! ### programs as data -/
structure Pg where
  st : List (Str × PyData)
  cs : List (Str × List (Str × Int))
def dCell (c : Str × Int) : PyData := .tuple [.str c.1, .tuple [.str "number", .int c.2]]
def dComp (c : Str × List (Str × Int)) : PyData := .dict [(.str "name", .str c.1), (.str "parameters", .list []), (.str "contexts", .list []), (.str "cells", .list (c.2.map dCell)), (.str "definitions", .list []), (.str "handlers", .list []), (.str "effects", .list []), (.str "view", .list [])]
def dStore (s : Str × PyData) : PyData := .tuple [.str s.1, s.2]
def dPg (p : Pg) : PyData := .dict [(.str "stores", .list (p.st.map dStore)), (.str "components", .list (p.cs.map dComp))]
def findC (p : Pg) (nm : Str) : Option (Str × List (Str × Int)) := p.cs.find? fun c => decide (c.1 = nm)
def fitB (b n : Pg) (nm : Str) : Bool := match findC b nm, findC n nm with
  | some c, some e => decide (c.2.map (·.1) = e.2.map (·.1))
  | _, _ => false
structure GoodP (p : Pg) : Prop where
  cl : p.cs.length ≤ 4
  ce : ∀ c ∈ p.cs, c.2.length ≤ 4 ∧ ∀ x ∈ c.2, PyData.strOk x.1 = true ∧ (reprText x.1).length ≤ 10 ∧ 0 ≤ x.2 ∧ x.2 ≤ 30
  cn : ∀ c ∈ p.cs, (reprText c.1).length ≤ 10
  sl : p.st.length ≤ 4
  sn : (p.st.map (·.1)).Nodup
  sd : ∀ s ∈ p.st, Small 100 4 s.2 ∧ cpy s.2 = true ∧ PyData.depth s.2 ≤ 4 ∧ (reprText s.1).length ≤ 10
theorem eqv_strs : ∀ a b : List Str, PyData.eqv (.list (a.map PyData.str)) (.list (b.map PyData.str)) = decide (a = b) := by
  have h : ∀ a b : List Str, PyData.eqvAll (a.map PyData.str) (b.map PyData.str) = decide (a = b) := by
    intro a
    induction a with
    | nil =>
      intro b
      cases b with
      | nil => rfl
      | cons y b => show false = decide (([] : List Str) = y :: b); simp
    | cons x a ih =>
      intro b
      cases b with
      | nil => show false = decide (x :: a = ([] : List Str)); simp
      | cons y b =>
        show ((x == y) && PyData.eqvAll (a.map PyData.str) (b.map PyData.str)) = decide (x :: a = y :: b)
        rw [ih b]
        by_cases e : x = y
        · subst e
          by_cases e2 : a = b <;> simp [e2]
        · have : (x == y) = false := by simpa using e
          rw [this]
          simp [e]
  exact fun a b => h a b
theorem shaped_strs {a : List Str} (h : ∀ x ∈ a, PyData.strOk x = true) : SeqAt.shaped (.list (a.map PyData.str)) = true := by
  have h1 : PyData.canLayAll0 (a.map PyData.str) = true := by
    induction a with
    | nil => rfl
    | cons x a ih =>
      have i2 := ih fun y hy => h y (List.mem_cons_of_mem _ hy)
      have i3 := h x List.mem_cons_self
      show PyData.canLayAll0 (.str x :: a.map PyData.str) = true
      simp [PyData.canLayAll0, PyData.canLay0, i2, i3]
  have h2 : PyData.depthAll (a.map PyData.str) ≤ 1 := by
    clear h1 h
    induction a with
    | nil => decide
    | cons x a ih =>
      show max (PyData.depth (.str x)) (PyData.depthAll (a.map PyData.str)) ≤ 1
      have : PyData.depth (.str x) = 0 := rfl
      omega
  unfold SeqAt.shaped
  rw [Bool.and_eq_true]
  refine ⟨by simpa [PyData.canLay0] using h1, decide_eq_true ?_⟩
  show PyData.depthAll (a.map PyData.str) + 1 ≤ 64
  omega
theorem dp_strs {K : PySem.W.Frag} {H : Hp} : ∀ a : List Str, DpAll K H (a.map V.str) (a.map PyData.str)
  | [] => .nil
  | x :: a => .cons (.str x) (dp_strs a)
/-- keys a dict's data has -/
theorem dict_get {H : Hp} {a : Addr} {ks : List (Key × V)} {kvs : List (PyData × PyData)} {k : Key} {d : PyData} (look : ∀ k, (lkp kvs k = none ∧ valV ks k = none) ∨ ∃ d v, lkp kvs k = some d ∧ valV ks k = some v ∧ Dq H v d) (e : lkp kvs k = some d) : ∃ v, valV ks k = some v ∧ Dq H v d := by
  rcases look k with ⟨z, _⟩ | ⟨d', v, z1, z2, z3⟩
  · rw [e] at z
    exact nomatch z
  · rw [e] at z1
    cases z1
    exact ⟨v, z2, z3⟩
def spNamed : Sp := fun vs H Q _ => ∃ (v : V) (nm : Str) (p : Pg), vs = [v, .str nm] ∧ Dq H v (dPg p) ∧ (findC p nm = none → Q .non H) ∧ ∀ c v', c ∈ p.cs → findC p nm = some c → Dq H v' (dComp c) → Q v' H
def spFits : Sp := fun vs H Q _ => ∃ (vb vn : V) (nm : Str) (b n : Pg), vs = [vb, vn, .str nm] ∧ Dq H vb (dPg b) ∧ Dq H vn (dPg n) ∧ GoodP b ∧ GoodP n ∧ ∀ H', Same H H' → Q (.bl (fitB b n nm)) H'
def keptD (D0 : List (PyData × PyData)) (st : List (Str × PyData)) : List (PyData × PyData) := st.map fun s => (.str s.1, (lkp D0 (.inr s.1)).getD s.2)
def spKept : Sp := fun vs H Q _ => ∃ (vs0 vn : V) (D0 : List (PyData × PyData)) (p : Pg), vs = [vs0, vn] ∧ Dq H vs0 (.dict D0) ∧ Dq H vn (dPg p) ∧ GoodP p ∧ (∀ q ∈ D0, cpy q.2 = true ∧ PyData.depth q.2 ≤ 4) ∧ ∀ v' H', Same H H' → Dq (newer H H') v' (.dict (keptD D0 p.st)) → Q v' H'
def spCells : Sp := fun vs H Q _ => ∃ (v : V) (nm : Str) (p : Pg), vs = [v, .str nm] ∧ Dq H v (dPg p) ∧ GoodP p ∧ (findC p nm = none → Q .non H) ∧ ∀ c l H', findC p nm = some c → Same H H' → H l = none → H' l = some (.lst ((c.2.map (·.1)).map V.str)) → Q (.ref l) H'
theorem at0q {x : V} {xs : List V} : atI (x :: xs) 0 = some x := by
  unfold atI ixN
  rw [if_pos (by decide), if_pos (by rw [List.length_cons]; omega)]
  rfl
theorem lkp_mem {k : Key} {d : PyData} : ∀ {D0 : List (PyData × PyData)}, lkp D0 k = some d → ∃ q ∈ D0, q.2 = d
  | p :: D0, h => by
    have e : lkp (p :: D0) k = if keyB p.1 k = true then some p.2 else lkp D0 k := rfl
    rw [e] at h
    by_cases q : keyB p.1 k = true
    · rw [if_pos q] at h
      exact ⟨p, List.mem_cons_self, Option.some.inj h⟩
    · rw [if_neg q] at h
      obtain ⟨x, h1, h2⟩ := lkp_mem h
      exact ⟨x, List.mem_cons_of_mem _ h1, h2⟩
theorem find_drop {cs : List (Str × List (Str × Int))} {nm : Str} {i : Nat} {c : Str × List (Str × Int)} (h : cs[i]? = some c) (e : cs.find? (fun c => decide (c.1 = nm)) = (cs.drop i).find? fun c => decide (c.1 = nm)) :
    (c.1 = nm → cs.find? (fun c => decide (c.1 = nm)) = some c) ∧ (c.1 ≠ nm → cs.find? (fun c => decide (c.1 = nm)) = (cs.drop (i + 1)).find? fun c => decide (c.1 = nm)) := by
  have hi : i < cs.length := by
    rcases Nat.lt_or_ge i cs.length with z | z
    · exact z
    · rw [List.getElem?_eq_none z] at h
      exact nomatch h
  have ec : cs[i] = c := by
    rw [List.getElem?_eq_getElem hi] at h
    exact Option.some.inj h
  have dr : cs.drop i = c :: cs.drop (i + 1) := by rw [List.drop_eq_getElem_cons hi, ec]
  rw [e, dr]
  exact ⟨fun z => by rw [List.find?_cons_of_pos (by simp [z])], fun z => by rw [List.find?_cons_of_neg (by simp [z])]⟩
section
variable {P : Program} {w : World} {K : PySem.W.Frag} {mg : Str → Option Value} {base : Heap} {C : Ad}
theorem lk_comps (a b : PyData) : lkp [(.str "stores", a), (.str "components", b)] (.inr "components") = some b := rfl
theorem lk_stores (a b : PyData) : lkp [(.str "stores", a), (.str "components", b)] (.inr "stores") = some a := rfl
theorem lk_name (c : Str × List (Str × Int)) : lkp [(.str "name", .str c.1), (.str "parameters", .list []), (.str "contexts", .list []), (.str "cells", .list (c.2.map dCell)), (.str "definitions", .list []), (.str "handlers", .list []), (.str "effects", .list []), (.str "view", .list [])] (.inr "name") = some (.str c.1) := rfl
theorem lk_cells (c : Str × List (Str × Int)) : lkp [(.str "name", .str c.1), (.str "parameters", .list []), (.str "contexts", .list []), (.str "cells", .list (c.2.map dCell)), (.str "definitions", .list []), (.str "handlers", .list []), (.str "effects", .list []), (.str "view", .list [])] (.inr "cells") = some (.list (c.2.map dCell)) := rfl
theorem comp_name {H : Hp} {v : V} {c : Str × List (Str × Int)} (h : Dq H v (dComp c)) : ∃ a, v = .ref a ∧ DGet H a (.str "name") (some (.str c.1)) := by
  obtain ⟨a, ks, rfl, h1, nd, _, look⟩ := dq_dict h
  obtain ⟨x, e1, e2⟩ := dict_get (a := a) look (lk_name c)
  cases e2
  exact ⟨a, rfl, by rw [← e1]; exact DGet.k (k := .inr "name") h1⟩
theorem comp_cells {H : Hp} {v : V} {c : Str × List (Str × Int)} (h : Dq H v (dComp c)) : ∃ a l xs, v = .ref a ∧ DGet H a (.str "cells") (some (.ref l)) ∧ H l = some (.lst xs) ∧ DqAll H xs (c.2.map dCell) := by
  obtain ⟨a, ks, rfl, h1, nd, _, look⟩ := dq_dict h
  obtain ⟨x, e1, e2⟩ := dict_get (a := a) look (lk_cells c)
  obtain ⟨l, xs, rfl, h2, h3⟩ := dq_list e2
  exact ⟨a, l, xs, rfl, by rw [← e1]; exact DGet.k (k := .inr "cells") h1, h2, h3⟩
theorem pg_comps {H : Hp} {v : V} {p : Pg} (h : Dq H v (dPg p)) : ∃ a l xs, v = .ref a ∧ DGet H a (.str "components") (some (.ref l)) ∧ H l = some (.lst xs) ∧ DqAll H xs (p.cs.map dComp) := by
  obtain ⟨a, ks, rfl, h1, nd, _, look⟩ := dq_dict h
  obtain ⟨x, e1, e2⟩ := dict_get (a := a) look (lk_comps _ _)
  obtain ⟨l, xs, rfl, h2, h3⟩ := dq_list e2
  exact ⟨a, l, xs, rfl, by rw [← e1]; exact DGet.k (k := .inr "components") h1, h2, h3⟩
theorem pg_stores {H : Hp} {v : V} {p : Pg} (h : Dq H v (dPg p)) : ∃ a l xs, v = .ref a ∧ DGet H a (.str "stores") (some (.ref l)) ∧ H l = some (.lst xs) ∧ DqAll H xs (p.st.map dStore) := by
  obtain ⟨a, ks, rfl, h1, nd, _, look⟩ := dq_dict h
  obtain ⟨x, e1, e2⟩ := dict_get (a := a) look (lk_stores _ _)
  obtain ⟨l, xs, rfl, h2, h3⟩ := dq_list e2
  exact ⟨a, l, xs, rfl, by rw [← e1]; exact DGet.k (k := .inr "stores") h1, h2, h3⟩
theorem sc_component_named : FnScope ["program", "name", "component"] ["program", "name"] (defScope s_component_named) := ⟨rfl, rfl, rfl, by decide +kernel, rfl, by decide +kernel, by decide +kernel⟩
theorem ok_named (T : Txt K w mg C) : Cal P w K mg base 1 "component_named" spNamed := by
  refine cal_of T.d_component_named sc_component_named (fun vs H Q E h => ?_) (fun f cdv A outer s H vs Q E hr h => ?_)
  · obtain ⟨v, nm, p, rfl, _⟩ := h
    rfl
  · obtain ⟨v, nm, p, rfl, hd, k1, k2⟩ := h
    have hu := hu_of hr
    obtain ⟨a, l, xs, rfl, dg, hl, ds⟩ := pg_comps hd
    have xl := ds.len
    rw [List.length_map] at xl
    refine ⟨_, (pss_cons (ps_for PassesOwn.never rfl (pi_list (pe_dget hu (pv 0) pe_str (fun _ _ => rfl))) (pg_name (i := 2) sc_component_named.nd rfl (Or.inl rfl)) (pss_one (ps_if (pt_cmpR op_eq (pe_dget hu (pv 2) pe_str (fun _ _ => rfl)) (pv 1) (nomark _)) (pss_one (ps_ret (pv 2))) pss_nil))) (pss_one (ps_ret pe_non))), ?_⟩
    refine ⟨_, rfl, a, _, rfl, dg, l, rfl, ⟨_, SqL.of hl⟩, ?_⟩
    refine for_it (walk_list (K := K) (a := l) (xs := xs)) (fun i σ H' => H' = H ∧ findC p nm = (p.cs.drop i).find? (fun c => decide (c.1 = nm)) ∧ ∃ y, σ = [some (.ref a), some (.str nm), y]) ⟨rfl, rfl, none, rfl⟩ (fun i σ H' _ z => by rw [z.1]; exact SqL.of hl) ?_ ?_
    · rintro i x σ H1 H2 hi ⟨eH, ef, y, rfl⟩ ⟨rfl, hx⟩
      subst eH
      have hi' : i < p.cs.length := by omega
      have hc := List.getElem?_eq_getElem hi'
      obtain ⟨x', hx2, dx⟩ := dqAll_at ds (by rw [List.getElem?_map, hc]; rfl)
      have : x' = x := by rw [hx2] at hx; exact Option.some.inj hx
      subst this
      obtain ⟨b, rfl, dn⟩ := comp_name dx
      obtain ⟨f1, f2⟩ := find_drop hc ef
      refine ⟨_, rfl, b, _, rfl, dn, _, rfl, rfl, _, rfl, ?_⟩
      refine ite2 (fun q => ?_) (fun q => ?_)
      · have q' : p.cs[i].1 = nm := V.str.inj (of_decide_eq_true q)
        exact ⟨_, rfl, k2 _ _ (List.getElem_mem hi') (f1 q') dx⟩
      · exact ⟨rfl, f2 fun z => q (by rw [z]; simp), _, rfl⟩
    · rintro σ H1 ⟨eH, ef, y, rfl⟩
      subst eH
      rw [xl, List.drop_length] at ef
      exact k1 ef
theorem sc__law_cells : FnScope ["program", "name", "component", "cell"] ["program", "name"] (defScope s__law_cells) := ⟨rfl, rfl, rfl, by decide +kernel, rfl, by decide +kernel, by decide +kernel⟩
theorem ok_cells (T : Txt K w mg C) : Cal P w K mg base 1 "_law_cells" spCells := by
  refine cal_of T.d__law_cells sc__law_cells (fun vs H Q E h => ?_) (fun f cdv A outer s H vs Q E hr h => ?_)
  · obtain ⟨v, nm, p, rfl, _⟩ := h
    rfl
  · obtain ⟨v, nm, p, rfl, hd, gp, k1, k2⟩ := h
    have hu := hu_of hr
    have big : 100000 < sizeLine := by decide
    obtain ⟨a, l, xs, rfl, dg, hl, ds⟩ := pg_comps hd
    have xl := ds.len
    rw [List.length_map] at xl
    refine ⟨_, (pss_cons (ps_for PassesOwn.never rfl (pi_list (pe_dget hu (pv 0) pe_str (fun _ _ => rfl))) (pg_name (i := 2) sc__law_cells.nd rfl (Or.inl rfl)) (pss_one (ps_if (pt_cmpR op_eq (pe_dget hu (pv 2) pe_str (fun _ _ => rfl)) (pv 1) (nomark _)) (pss_one (ps_ret (pe_lc (own := [("cell", 3)]) (g := gName 3) (tt := tYes) rfl sc__law_cells.nd (pi_list (pe_dget hu (pv 2) pe_str (fun _ _ => rfl))) (blkOk_by (N := ["program", "name", "component", "cell"]) (sc := (defScope s__law_cells)) (by decide +kernel)) (fun _ _ _ _ _ => pg_name (i := 3) sc__law_cells.nd rfl (Or.inl rfl)) (fun _ _ _ _ _ => pts_nil) (fun _ _ _ _ _ => (pe_ix (ix_tupS (K := K) rfl) (pv 3) pe_int (fun _ _ => rfl)))))) pss_nil))) (pss_one (ps_ret pe_non))), ?_⟩
    refine ⟨_, rfl, a, _, rfl, dg, l, rfl, ⟨_, SqL.of hl⟩, ?_⟩
    refine for_it (walk_list (K := K) (a := l) (xs := xs)) (fun i σ H' => H' = H ∧ findC p nm = (p.cs.drop i).find? (fun c => decide (c.1 = nm)) ∧ ∃ y, σ = [some (.ref a), some (.str nm), y, none]) ⟨rfl, rfl, none, rfl⟩ (fun i σ H' _ z => by rw [z.1]; exact SqL.of hl) ?_ ?_
    · rintro i x σ H1 H2 hi ⟨eH, ef, y, rfl⟩ ⟨rfl, hx⟩
      subst eH
      have hi' : i < p.cs.length := by omega
      have hc := List.getElem?_eq_getElem hi'
      obtain ⟨x', hx2, dx⟩ := dqAll_at ds (by rw [List.getElem?_map, hc]; rfl)
      have : x' = x := by rw [hx2] at hx; exact Option.some.inj hx
      subst this
      obtain ⟨b, rfl, dn⟩ := comp_name dx
      obtain ⟨f1, f2⟩ := find_drop hc ef
      refine ⟨_, rfl, b, _, rfl, dn, _, rfl, rfl, _, rfl, ?_⟩
      refine ite2 (fun q => ?_) (fun q => ?_)
      · have q' : p.cs[i].1 = nm := V.str.inj (of_decide_eq_true q)
        obtain ⟨b', l2, ys, eb, dc, hl2, dys⟩ := comp_cells dx
        cases eb
        have c4 := (gp.ce _ (List.getElem_mem hi')).1
        generalize p.cs[i] = c at *
        have yl := dys.len
        rw [List.length_map] at yl
        refine ⟨_, rfl, b, _, rfl, dc, l2, rfl, ⟨_, SqL.of hl2⟩, fun D hD => ?_⟩
        refine lc_it (walk_list (K := K) (a := l2) (xs := ys)) (fun i H' => Same H2 H' ∧ H' D = some (.lst ((((c.2.take i).map (·.1))).map V.str))) ⟨Sm.new hD, upd_same⟩ (fun i H' _ z => SqL.of (z.1 _ _ hl2)) ?_ ?_
        · rintro j y2 H3 H4 hj ⟨s3, h3⟩ ⟨rfl, hy⟩
          have hj' : j < c.2.length := by omega
          have hcj := List.getElem?_eq_getElem hj'
          obtain ⟨z, hz, dz⟩ := dqAll_at dys (by rw [List.getElem?_map, hcj]; rfl)
          have : z = y2 := by rw [hz] at hy; exact Option.some.inj hy
          subst this
          obtain ⟨t, ts, rfl, ht, dts⟩ := dq_tup dz
          cases dts with
          | cons a1 a2 =>
            cases a1
            have tk : c.2.take (j + 1) = c.2.take j ++ [c.2[j]] := by rw [List.take_add_one, hcj]; rfl
            refine ⟨rfl, ?_⟩
            refine ⟨_, rfl, t, _, _, _, rfl, rfl, SqT.of (s3 _ _ ht), at0q, _, h3, ?_, fun b o eb => ?_, ?_⟩
            · rw [List.length_map, List.length_map, List.length_take]
              omega
            · rw [upd_ne (ne_of_none eb hD)]
              exact s3 _ _ eb
            · rw [upd_same, tk, List.map_append, List.map_append]
              rfl
        · rintro H3 ⟨s3, h3⟩
          rw [yl, List.take_length] at h3
          exact k2 _ D H3 (f1 q') s3 hD h3
      · exact ⟨rfl, f2 fun z => q (by rw [z]; simp), _, rfl⟩
    · rintro σ H1 ⟨eH, ef, y, rfl⟩
      subst eH
      rw [xl, List.drop_length] at ef
      exact k1 ef
theorem sc_fits : FnScope ["before", "now", "name", "old", "new", "cell", "_"] ["before", "now", "name"] (defScope s_fits) := ⟨rfl, rfl, rfl, by decide +kernel, rfl, by decide +kernel, by decide +kernel⟩
theorem ok_fits (T : Txt K w mg C) : Cal P w K mg base 2 "fits" spFits := by
  have Gcomponent_named : Cal P w K mg base 1 "component_named" spNamed := ok_named T
  refine cal_of T.d_fits sc_fits (fun vs H Q E h => ?_) (fun f cdv A outer s H vs Q E hr h => ?_)
  · obtain ⟨vb, vn, nm, b, n, rfl, _⟩ := h
    rfl
  · obtain ⟨vb, vn, nm, b, n, rfl, hb, hn, gb, gn, k⟩ := h
    have hu := hu_of hr
    have big : 100000 < sizeLine := by decide
    refine ⟨_, (pss_cons (ps_set (i := 3) sc_fits.nd rfl (Or.inl rfl) (pe_c Gcomponent_named hr (by decide) (by rfl) (pa_cons (pv 0) (pa_cons (pv 2) pa_nil)))) (pss_cons (ps_set (i := 4) sc_fits.nd rfl (Or.inl rfl) (pe_c Gcomponent_named hr (by decide) (by rfl) (pa_cons (pv 1) (pa_cons (pv 2) pa_nil)))) (pss_cons (ps_if (PW.pt (pw_or (pt_cmp (pc_isN (pv 3))) (pw_or1 (pt_cmp (pc_isN (pv 4)))))) (pss_one (ps_ret pe_bl)) pss_nil) (pss_one (ps_ret (pe_cmpR (op_eqD hr.units) (pe_lc (own := [("cell", 5), ("_", 6)]) (g := gTup K 2 (gCons (gName 5) (gCons (gName 6) (gNil)))) (tt := tYes) rfl sc_fits.nd (pi_list (pe_dget hu (pv 3) pe_str (fun _ _ => rfl))) (blkOk_by (N := ["before", "now", "name", "old", "new", "cell", "_"]) (sc := (defScope s_fits)) (by decide +kernel)) (fun _ _ _ _ _ => pg_tupS (K := K) rfl rfl (pgs_cons (pg_name (i := 5) sc_fits.nd rfl (Or.inl rfl)) (pgs_cons (pg_name (i := 6) sc_fits.nd rfl (Or.inl rfl)) pgs_nil))) (fun _ _ _ _ _ => pts_nil) (fun _ _ _ _ _ => (pv 5))) (pe_lc (own := [("cell", 5), ("_", 6)]) (g := gTup K 2 (gCons (gName 5) (gCons (gName 6) (gNil)))) (tt := tYes) rfl sc_fits.nd (pi_list (pe_dget hu (pv 4) pe_str (fun _ _ => rfl))) (blkOk_by (N := ["before", "now", "name", "old", "new", "cell", "_"]) (sc := (defScope s_fits)) (by decide +kernel)) (fun _ _ _ _ _ => pg_tupS (K := K) rfl rfl (pgs_cons (pg_name (i := 5) sc_fits.nd rfl (Or.inl rfl)) (pgs_cons (pg_name (i := 6) sc_fits.nd rfl (Or.inl rfl)) pgs_nil))) (fun _ _ _ _ _ => pts_nil) (fun _ _ _ _ _ => (pv 5))) (nomark _))))))), ?_⟩
    refine ⟨_, rfl, _, rfl, vb, nm, b, rfl, hb, fun f1 => ?_, fun c vc cm f1 dc => ?_⟩
    · have res : fitB b n nm = false := by unfold fitB; rw [f1]
      rw [res] at k
      refine ⟨_, rfl, _, rfl, vn, nm, n, rfl, hn, fun f2 => ?_, fun e ve em f2 de => ?_⟩
      · refine ⟨_, rfl, true, rfl, iteT (iteT ?_)⟩
        exact k H (Same.refl _)
      · refine ⟨_, rfl, true, rfl, iteT (iteT ?_)⟩
        exact k H (Same.refl _)
    · obtain ⟨ac, lc, xc, rfl, dgc, hlc, dsc⟩ := comp_cells dc
      refine ⟨_, rfl, _, rfl, vn, nm, n, rfl, hn, fun f2 => ?_, fun e ve em f2 de => ?_⟩
      · have res : fitB b n nm = false := by unfold fitB; rw [f1, f2]
        rw [res] at k
        refine ⟨_, rfl, false, rfl, iteF ?_⟩
        refine ⟨_, rfl, true, rfl, iteT ?_⟩
        exact k H (Same.refl _)
      · obtain ⟨ae, le, xe, rfl, dge, hle, dse⟩ := comp_cells de
        have res : fitB b n nm = decide (c.2.map (·.1) = e.2.map (·.1)) := by unfold fitB; rw [f1, f2]
        rw [res] at k
        have c4 := gb.ce c cm
        have e4 := gn.ce e em
        have cl := dsc.len
        have el := dse.len
        rw [List.length_map] at cl el
        refine ⟨_, rfl, false, rfl, iteF ?_⟩
        refine ⟨_, rfl, false, rfl, iteF ?_⟩
        refine ⟨_, rfl, ac, _, rfl, dgc, lc, rfl, ⟨_, SqL.of hlc⟩, fun D hD => ?_⟩
        refine lc_it (walk_list (K := K) (a := lc) (xs := xc)) (fun i H' => Same H H' ∧ H' D = some (.lst (((c.2.take i).map (·.1)).map V.str))) ⟨Sm.new hD, upd_same⟩ (fun i H' _ z => SqL.of (z.1 _ _ hlc)) ?_ ?_
        · rintro j y2 H3 H4 hj ⟨s3, h3⟩ ⟨rfl, hy⟩
          have hj' : j < c.2.length := by omega
          have hcj := List.getElem?_eq_getElem hj'
          obtain ⟨z, hz, dz⟩ := dqAll_at dsc (by rw [List.getElem?_map, hcj]; rfl)
          have : z = y2 := by rw [hz] at hy; exact Option.some.inj hy
          subst this
          obtain ⟨t, ts, rfl, ht, dts⟩ := dq_tup dz
          cases dts with
          | cons a1 a2 =>
            cases a1
            cases a2 with
            | cons b1 b2 =>
              cases b2
              have tk : c.2.take (j + 1) = c.2.take j ++ [c.2[j]] := by rw [List.take_add_one, hcj]; rfl
              refine ⟨_, _, rfl, SqT.of (s3 _ _ ht), rfl, _, _, rfl, _, _, rfl, rfl, rfl, ?_⟩
              refine ⟨_, rfl, _, h3, ?_, fun b o eb => ?_, ?_⟩
              · rw [List.length_map, List.length_map, List.length_take]
                omega
              · rw [upd_ne (ne_of_none eb hD)]
                exact s3 _ _ eb
              · rw [upd_same, tk, List.map_append, List.map_append]
                rfl
        rintro H3 ⟨s3, h3⟩
        rw [cl, List.take_length] at h3
        obtain ⟨ae', le', xe', e1, dge', hle', dse'⟩ := comp_cells (de.same s3)
        cases e1
        have el' := dse'.len
        rw [List.length_map] at el'
        refine ⟨_, rfl, ae, _, rfl, dge', le', rfl, ⟨_, SqL.of hle'⟩, fun D2 hD2 => ?_⟩
        have hDD : D ≠ D2 := ne_of_none h3 hD2
        refine lc_it (walk_list (K := K) (a := le') (xs := xe')) (fun i H' => Same H3 H' ∧ H' D2 = some (.lst (((e.2.take i).map (·.1)).map V.str))) ⟨Sm.new hD2, upd_same⟩ (fun i H' _ z => SqL.of (z.1 _ _ hle')) ?_ ?_
        · rintro j y2 H4 H5 hj ⟨s4, h4⟩ ⟨rfl, hy⟩
          have hj' : j < e.2.length := by omega
          have hcj := List.getElem?_eq_getElem hj'
          obtain ⟨z, hz, dz⟩ := dqAll_at dse' (by rw [List.getElem?_map, hcj]; rfl)
          have : z = y2 := by rw [hz] at hy; exact Option.some.inj hy
          subst this
          obtain ⟨t, ts, rfl, ht, dts⟩ := dq_tup dz
          cases dts with
          | cons a1 a2 =>
            cases a1
            cases a2 with
            | cons b1 b2 =>
              cases b2
              have tk : e.2.take (j + 1) = e.2.take j ++ [e.2[j]] := by rw [List.take_add_one, hcj]; rfl
              refine ⟨_, _, rfl, SqT.of (s4 _ _ ht), rfl, _, _, rfl, _, _, rfl, rfl, rfl, ?_⟩
              refine ⟨_, rfl, _, h4, ?_, fun b o eb => ?_, ?_⟩
              · rw [List.length_map, List.length_map, List.length_take]
                omega
              · rw [upd_ne (ne_of_none eb hD2)]
                exact s4 _ _ eb
              · rw [upd_same, tk, List.map_append, List.map_append]
                rfl
        rintro H4 ⟨s4, h4⟩
        rw [el', List.take_length] at h4
        refine ⟨.list ((c.2.map (·.1)).map PyData.str), .list ((e.2.map (·.1)).map PyData.str), .lst (SqL.of (s4 _ _ h3)) (dp_strs _), .lst (SqL.of h4) (dp_strs _), shaped_strs fun x hx => ?_, shaped_strs fun x hx => ?_, ?_⟩
        · obtain ⟨y, hy, rfl⟩ := List.mem_map.mp hx
          exact (c4.2 y hy).1
        · obtain ⟨y, hy, rfl⟩ := List.mem_map.mp hx
          exact (e4.2 y hy).1
        · rw [eqv_strs]
          exact k H4 (Same.trans s3 s4)
theorem kept_app (D0 : List (PyData × PyData)) (a b : List (Str × PyData)) : keptD D0 (a ++ b) = keptD D0 a ++ keptD D0 b := by
  unfold keptD
  rw [List.map_append]
theorem sc_kept_stores : FnScope ["stores", "now", "name", "value"] ["stores", "now"] (defScope s_kept_stores) := ⟨rfl, rfl, rfl, by decide +kernel, rfl, by decide +kernel, by decide +kernel⟩
theorem ok_kept (T : Txt K w mg C) : Cal P w K mg base 7 "kept_stores" spKept := by
  have Gcopy_of : Cal P w K mg base 6 "copy_of" (spCopy 4) := ok_copyN T 4
  refine cal_of T.d_kept_stores sc_kept_stores (fun vs H Q E h => ?_) (fun f cdv A outer s H vs Q E hr h => ?_)
  · obtain ⟨vs0, vn, D0, p, rfl, _⟩ := h
    rfl
  · obtain ⟨vs0, vn, D0, p, rfl, hs, hn, gp, g0, k⟩ := h
    have hu := hu_of hr
    have big : 100000 < sizeLine := by decide
    obtain ⟨a, l, xs, rfl, dg, hl, ds⟩ := pg_stores hn
    obtain ⟨sa, sk, rfl, hsa, snd, _, look⟩ := dq_dict hs
    have xl := ds.len
    rw [List.length_map] at xl
    have sl := gp.sl
    refine ⟨_, (pss_one (ps_ret (pe_dc (own := [("name", 2), ("value", 3)]) (g := gTup K 2 (gCons (gName 2) (gCons (gName 3) (gNil)))) (tt := tYes) rfl sc_kept_stores.nd (pi_list (pe_dget hu (pv 1) pe_str (fun _ _ => rfl))) (blkOk_by (N := ["stores", "now", "name", "value"]) (sc := (defScope s_kept_stores)) (by decide +kernel)) (fun _ _ _ _ _ => pg_tupS (K := K) rfl rfl (pgs_cons (pg_name (i := 2) sc_kept_stores.nd rfl (Or.inl rfl)) (pgs_cons (pg_name (i := 3) sc_kept_stores.nd rfl (Or.inl rfl)) pgs_nil))) (fun _ _ _ _ _ => pts_nil) (fun _ _ _ _ _ => (pv 2)) (fun _ _ _ _ _ => (pe_c Gcopy_of hr (by decide) (by rfl) (pa_cons (pe_ifExp (pt_cmp (pc_din hu (pv 2) (pv 0))) (pe_dget hu (pv 0) (pv 2) (fun _ _ => rfl)) (pv 3)) pa_nil)))))), ?_⟩
    refine ⟨_, rfl, a, _, rfl, dg, l, rfl, ⟨_, SqL.of hl⟩, fun D hD => ?_⟩
    refine dc_itQ (walk_list (K := K) (a := l) (xs := xs)) (fun i H' => Same H H' ∧ ∃ (ys : List (Key × V)) (es : List PyData), H' D = some (.dK ys) ∧ ys.map (·.1) = (p.st.take i).map (fun s => (Sum.inr s.1 : Key)) ∧ DqAll (newer (upd H D (.dK [])) H') (ys.map (·.2)) es ∧ zipK ys es = keptD D0 (p.st.take i))
      ⟨Sm.new hD, [], [], upd_same, rfl, .nil, rfl⟩ (fun i H' _ z => SqL.of (z.1 _ _ hl)) ?_ ?_
    · rintro i x H1 H2 hi ⟨s1, ys, es, h1, kk, py, zz⟩ ⟨rfl, hx⟩
      have hi' : i < p.st.length := by omega
      have hc := List.getElem?_eq_getElem hi'
      have hm : p.st[i] ∈ p.st := List.getElem_mem hi'
      obtain ⟨z, hz, dz⟩ := dqAll_at ds (by rw [List.getElem?_map, hc]; rfl)
      have : z = x := by rw [hz] at hx; exact Option.some.inj hx
      subst this
      have gd := gp.sd _ hm
      have tk : p.st.take (i + 1) = p.st.take i ++ [p.st[i]] := by rw [List.take_add_one, hc]; rfl
      have yl : ys.length = i := by
        have := congrArg List.length kk
        rw [List.length_map, List.length_map, List.length_take] at this
        omega
      have el : ys.length = es.length := by have := py.len; rwa [List.length_map] at this
      have knew : valV ys (.inr p.st[i].1) = none := valV_out (by
        rw [kk]
        have nd2 : ((p.st.take (i + 1)).map (·.1)).Nodup := by
          rw [List.map_take]
          exact gp.sn.sublist (List.take_sublist _ _)
        rw [tk, List.map_append] at nd2
        intro hk
        obtain ⟨s0, hs0, e0⟩ := List.mem_map.mp hk
        exact (List.nodup_append.mp nd2).2.2 s0.1 (List.mem_map.mpr ⟨s0, hs0, rfl⟩) _ List.mem_cons_self (Sum.inr.inj e0))
      generalize p.st[i] = st at *
      obtain ⟨t, ts, rfl, ht, dts⟩ := dq_tup dz
      cases dts with
      | @cons _ _ _ _ a1 a2 =>
        cases a1
        cases a2 with
        | @cons vv _ _ _ b1 b2 =>
          cases b2
          have fin : ∀ (src : V) (dd : PyData), Dq H2 src dd → cpy dd = true → PyData.depth dd ≤ 4 → (lkp D0 (.inr st.1)).getD st.2 = dd → spCopy 4 [src] H2 (fun z H5 => ∃ kvs k, V.str st.1 = kV k ∧ H5 D = some (.dK kvs) ∧ kvs.length < sizeLine ∧ (Same H (upd H5 D (.dK (putK kvs k z))) ∧ ∃ (ys : List (Key × V)) (es : List PyData), upd H5 D (.dK (putK kvs k z)) D = some (.dK ys) ∧ ys.map (·.1) = (p.st.take (i + 1)).map (fun s => (Sum.inr s.1 : Key)) ∧ DqAll (newer (upd H D (.dK [])) (upd H5 D (.dK (putK kvs k z)))) (ys.map (·.2)) es ∧ zipK ys es = keptD D0 (p.st.take (i + 1)))) (fun _ _ _ => False) := by
            intro src dd h1d h2d h3d h4d
            refine ⟨src, dd, rfl, h1d, h2d, h3d, fun y H5 s5 dy => ⟨ys, .inr st.1, rfl, s5 _ _ h1, by omega, fun b o eb => ?_, ys ++ [(.inr st.1, y)], es ++ [dd], ?_, ?_, ?_, ?_⟩⟩
            · rw [upd_ne (ne_of_none eb hD)]
              exact s5 _ _ (s1 _ _ eb)
            · rw [upd_same, putK_nw knew]
            · rw [tk, List.map_append, List.map_append, kk]
              rfl
            · rw [putK_nw knew, List.map_append]
              refine dqAll_ap (py.same fun b o hb => ?_) (.cons (dy.same fun b o hb => ?_) .nil)
              · obtain ⟨z1, z2⟩ := newer_some hb
                have ne : b ≠ D := fun z => by rw [z, upd_same] at z1; exact nomatch z1
                exact newer_mk z1 (by rw [upd_ne ne]; exact s5 _ _ z2)
              · obtain ⟨z1, z2⟩ := newer_some hb
                have ne : b ≠ D := fun z => by rw [z, h1] at z1; exact nomatch z1
                refine newer_mk ?_ (by rw [upd_ne ne]; exact z2)
                rw [upd_ne ne]
                cases e : H b with
                | none => rfl
                | some u => rw [s1 _ _ e] at z1; exact nomatch z1
            · rw [tk, kept_app, zipK_app el, zz]
              show _ ++ [(PyData.str st.1, dd)] = _ ++ [(PyData.str st.1, (lkp D0 (.inr st.1)).getD st.2)]
              rw [h4d]
          refine ⟨_, _, rfl, SqT.of (s1 _ _ ht), rfl, _, _, rfl, _, _, rfl, rfl, rfl, ?_⟩
          refine ⟨_, rfl, _, rfl, _, rfl, sa, valV sk (.inr st.1), rfl, DGet.k (k := .inr st.1) (s1 _ _ hsa), _, rfl, ?_⟩
          rcases look (.inr st.1) with ⟨l1, l2⟩ | ⟨dd, v1, l1, l2, l3⟩
          · rw [l2]
            refine iteF ?_
            exact ⟨_, rfl, fin vv st.2 (b1.same s1) gd.2.1 gd.2.2.1 (by rw [l1]; rfl)⟩
          · rw [l2]
            refine iteT ?_
            refine ⟨_, rfl, _, rfl, sa, v1, rfl, (by rw [← l2]; exact DGet.k (k := .inr st.1) (s1 _ _ hsa)), fin v1 dd (l3.same s1) ?_ ?_ (by rw [l1]; rfl)⟩
            · obtain ⟨q, q1, q2⟩ := lkp_mem l1
              rw [← q2]
              exact (g0 q q1).1
            · obtain ⟨q, q1, q2⟩ := lkp_mem l1
              rw [← q2]
              exact (g0 q q1).2
    · rintro H1 ⟨s1, ys, es, h1, kk, py, zz⟩
      rw [xl, List.take_length] at kk zz
      refine k _ H1 s1 ?_
      rw [← zz]
      refine .dic (newer_mk hD h1) ?_ (py.same fun b o hb => ?_)
      · rw [kk]
        have : (p.st.map fun s => (Sum.inr s.1 : Key)) = (p.st.map (·.1)).map Sum.inr := by rw [List.map_map]; rfl
        rw [this]
        exact gp.sn.map _ (fun a b h e => h (Sum.inr.inj e))
      · obtain ⟨z1, z2⟩ := newer_some hb
        have ne : b ≠ D := fun z => by rw [z, upd_same] at z1; exact nomatch z1
        rw [upd_ne ne] at z1
        exact newer_mk z1 z2
end
end VL

set_option Elab.async false
set_option linter.all false
set_option maxRecDepth 100000
set_option maxHeartbeats 4000000

namespace VL
open PySem PySem.Spec PyProof.Rows L2
def cstD (k m : Int) : PyData :=
  if k ≤ 1 then .int m else if k = 2 then .str ("t" ++ Str.ofString (toString m)) else if k = 3 then .int (-m - 1) else if k = 4 then .list [.int m, .none, .list [.str "in"]]
  else if k = 5 then .dict [(.str "a", .bool true), (.str "b", .list [.int m])] else if k = 6 then .none else .bool false
theorem cst_ok {k m : Int} (h0 : 0 ≤ k) (h1 : k < 8) (h2 : 0 ≤ m) (h3 : m < 90) : Small 100 4 (cstD k m) ∧ cpy (cstD k m) = true ∧ PyData.depth (cstD k m) ≤ 4 := by
  have all : ∀ (x : Fin 8) (y : Fin 90), (PyData.showable (cstD ((x.val : Nat) : Int) ((y.val : Nat) : Int)) = true ∧ PyData.depth (cstD ((x.val : Nat) : Int) ((y.val : Nat) : Int)) ≤ 4 ∧ (PyData.shown (cstD ((x.val : Nat) : Int) ((y.val : Nat) : Int))).length ≤ 100) ∧ cpy (cstD ((x.val : Nat) : Int) ((y.val : Nat) : Int)) = true := by decide +kernel
  have := all ⟨k.toNat, by omega⟩ ⟨m.toNat, by omega⟩
  rw [show (((⟨k.toNat, by omega⟩ : Fin 8).val : Nat) : Int) = k from Int.toNat_of_nonneg h0, show (((⟨m.toNat, by omega⟩ : Fin 90).val : Nat) : Int) = m from Int.toNat_of_nonneg h2] at this
  exact ⟨⟨this.1.1, this.1.2.1, this.1.2.2⟩, this.2, this.1.2.1⟩
theorem log90 {i : Int} (h0 : -100 ≤ i) (h1 : i ≤ 100) : i.natAbs.log2 < 1920 := by
  rcases Nat.eq_zero_or_pos i.natAbs with z | z
  · rw [z]; decide
  · exact (Nat.log2_lt (by omega)).mpr (Nat.lt_of_lt_of_le (show i.natAbs < 2 ^ 7 by omega) (Nat.pow_le_pow_right (by decide) (by decide)))
theorem num_len2 {i : Int} (h0 : 0 ≤ i) (h1 : i < 100) : (Str.ofString (toString i)).length ≤ 2 := by
  have all : ∀ k : Fin 100, (Str.ofString (toString ((k.val : Nat) : Int))).length ≤ 2 := by decide +kernel
  have := all ⟨i.toNat, by omega⟩
  rwa [show (((⟨i.toNat, by omega⟩ : Fin 100).val : Nat) : Int) = i from Int.toNat_of_nonneg h0] at this
def spConst : Sp := fun vs H Q _ => ∃ row : Int, vs = [.int row] ∧ ∀ v H', Same H H' → Dq (newer H H') v (cstD (row % 8) (row / 8 % 90)) → Q v H'
section
variable {P : Program} {w : World} {K : PySem.W.Frag} {mg : Str → Option Value} {base : Heap} {C : Ad}
theorem sc__law_constant : FnScope ["row", "kind", "more"] ["row"] (defScope s__law_constant) := ⟨rfl, rfl, rfl, by decide +kernel, rfl, by decide +kernel, by decide +kernel⟩
theorem ok_const (T : Txt K w mg C) : Cal P w K mg base 1 "_law_constant" spConst := by
  refine cal_of T.d__law_constant sc__law_constant (fun vs H Q E h => ?_) (fun f cdv A outer s H vs Q E hr h => ?_)
  · obtain ⟨row, rfl, _⟩ := h
    rfl
  · obtain ⟨row, rfl, k⟩ := h
    have hu := hu_of hr
    have big : 100000 < sizeLine := by decide
    refine ⟨_, (C8.pss_cut (ps_set (i := 1) sc__law_constant.nd rfl (Or.inl rfl) (pe_op op_mod (pe_callTy call_int1 (by rfl) T.z_int (by decide +kernel) (pa_cons (pv 0) pa_nil)) pe_int)) (C8.pss_cut (ps_set (i := 2) sc__law_constant.nd rfl (Or.inl rfl) (pe_op op_mod (pe_callTy call_int1 (by rfl) T.z_int (by decide +kernel) (pa_cons (pe_op op_fdiv (pv 0) pe_int) pa_nil)) pe_int)) (pss_cons (ps_if (pt_cmpR op_le (pv 1) pe_int (nomark _)) (pss_one (ps_ret (pv 2))) pss_nil) (pss_cons (ps_if (pt_cmpR op_eq (pv 1) pe_int (nomark _)) (pss_one (ps_ret (pe_op op_add_str pe_str (pe_callTy call_str_int (by rfl) T.z_str (by decide +kernel) (pa_cons (pv 2) pa_nil))))) pss_nil) (pss_cons (ps_if (pt_cmpR op_eq (pv 1) pe_int (nomark _)) (pss_one (ps_ret (pe_op op_sub (pe_un un_neg (pv 2)) pe_int))) pss_nil) (pss_cons (ps_if (pt_cmpR op_eq (pv 1) pe_int (nomark _)) (pss_one (ps_ret (pe_lst (pa_cons (pv 2) (pa_cons pe_non (pa_cons (pe_lst (pa_cons pe_str pa_nil)) pa_nil)))))) pss_nil) (pss_cons (ps_if (pt_cmpR op_eq (pv 1) pe_int (nomark _)) (pss_one (ps_ret (pe_disp (pps_cons pe_str pe_bl (pps_cons pe_str (pe_lst (pa_cons (pv 2) pa_nil)) pps_nil)) (by rfl) (by rfl) (fun z => by cases z) (by decide)))) pss_nil) (pss_one (ps_ret (pe_ix ix_list (pe_lst (pa_cons pe_non (pa_cons pe_bl pa_nil))) (pe_op op_sub (pv 1) pe_int) (fun _ _ => rfl))))))))))), ?_⟩
    have k0 : 0 ≤ row % 8 := Int.emod_nonneg _ (by decide)
    have k1 : row % 8 < 8 := Int.emod_lt_of_pos _ (by decide)
    have m0 : 0 ≤ row / 8 % 90 := Int.emod_nonneg _ (by decide)
    have m1 : row / 8 % 90 < 90 := Int.emod_lt_of_pos _ (by decide)
    refine ⟨fun σ' H' => H' = H ∧ σ' = [some (.int row), some (.int (row % 8)), none], ⟨_, rfl, .inl ⟨_, rfl, _, _, rfl, rfl, (by show (0 : Int) < 8; decide), rfl, rfl⟩⟩, ?_⟩
    rintro σ' H' ⟨eH, rfl⟩
    subst eH
    refine ⟨fun σ' H'' => H'' = H' ∧ σ' = [some (.int row), some (.int (row % 8)), some (.int (row / 8 % 90))], ⟨_, rfl, _, _, rfl, rfl, ⟨by decide, by decide⟩, .inl ⟨_, rfl, _, _, rfl, rfl, (by show (0 : Int) < 90; decide), rfl, rfl⟩⟩, ?_⟩
    rintro σ' H'' ⟨eH, rfl⟩
    subst eH
    generalize row % 8 = kk at *
    generalize row / 8 % 90 = mm at *
    refine ⟨_, rfl, _, _, rfl, rfl, _, rfl, ?_⟩
    refine ite2 (fun q => ?_) (fun q1 => ?_)
    · have q' : kk ≤ 1 := of_decide_eq_true q
      refine ⟨_, rfl, k _ _ (Same.refl _) ?_⟩
      unfold cstD
      rw [if_pos q']
      exact .int _
    have q1' : ¬ kk ≤ 1 := fun z => q1 (decide_eq_true z)
    refine ⟨_, rfl, rfl, _, rfl, ?_⟩
    refine ite2 (fun q => ?_) (fun q2 => ?_)
    · have q' : kk = 2 := V.int.inj (of_decide_eq_true q)
      have nl := num_len2 m0 (by omega)
      refine ⟨_, rfl, _, rfl, log90 (by omega) (by omega), _, _, rfl, rfl, ?_, k _ _ (Same.refl _) ?_⟩
      · show 1 + (Str.ofString (toString mm)).length ≤ sizeLine
        omega
      · unfold cstD
        rw [if_neg q1', if_pos q']
        exact .str _
    have q2' : ¬ kk = 2 := fun z => q2 (by rw [z]; simp)
    refine ⟨_, rfl, rfl, _, rfl, ?_⟩
    refine ite2 (fun q => ?_) (fun q3 => ?_)
    · have q' : kk = 3 := V.int.inj (of_decide_eq_true q)
      refine ⟨_, rfl, _, rfl, _, _, rfl, rfl, k _ _ (Same.refl _) ?_⟩
      unfold cstD
      rw [if_neg q1', if_neg q2', if_pos q']
      exact .int _
    have q3' : ¬ kk = 3 := fun z => q3 (by rw [z]; simp)
    refine ⟨_, rfl, rfl, _, rfl, ?_⟩
    refine ite2 (fun q => ?_) (fun q4 => ?_)
    · have q' : kk = 4 := V.int.inj (of_decide_eq_true q)
      refine ⟨_, rfl, by show 1 ≤ sizeLine; decide, fun a ha => ⟨by show 3 ≤ sizeLine; decide, fun b hb => k _ _ (Same.trans (Sm.new ha) (Sm.new hb)) ?_⟩⟩
      have hb0 := Same.free (Sm.new ha) hb
      have nab : a ≠ b := ne_of_none upd_same hb
      unfold cstD
      rw [if_neg q1', if_neg q2', if_neg q3', if_pos q']
      exact .lst (newer_mk hb0 upd_same) (.cons (.int _) (.cons .non (.cons (.lst (newer_mk ha (by rw [upd_ne nab]; exact upd_same)) (.cons (.str _) .nil)) .nil)))
    have q4' : ¬ kk = 4 := fun z => q4 (by rw [z]; simp)
    refine ⟨_, rfl, rfl, _, rfl, ?_⟩
    refine ite2 (fun q => ?_) (fun q5 => ?_)
    · have q' : kk = 5 := V.int.inj (of_decide_eq_true q)
      intro p hp
      refine ⟨_, rfl, by show 1 ≤ sizeLine; decide, fun a ha => ?_⟩
      have npa : p ≠ a := ne_of_none upd_same ha
      have ha0 := Same.free (Sm.new hp) ha
      refine ⟨by rw [upd_ne npa]; exact upd_same, [(.inr "a", .bl true), (.inr "b", .ref a)], rfl, (by show 2 ≤ 15; decide), k _ _ (fun c o e => ?_) ?_⟩
      · rw [upd_ne (ne_of_none e hp), upd_ne (ne_of_none e ha0), upd_ne (ne_of_none e hp)]
        exact e
      · unfold cstD
        rw [if_neg q1', if_neg q2', if_neg q3', if_neg q4', if_pos q']
        exact Dq.dic (ks := [(.inr "a", .bl true), (.inr "b", .ref a)]) (ds := [.bool true, .list [.int mm]]) (newer_mk hp upd_same) (by show ([(Sum.inr ("a" : Str) : Key), .inr ("b" : Str)]).Nodup; decide +kernel) (.cons (.bl _) (.cons (.lst (newer_mk ha0 (by rw [upd_ne npa.symm]; exact upd_same)) (.cons (.int _) .nil)) .nil))
    have q5' : ¬ kk = 5 := fun z => q5 (by rw [z]; simp)
    refine ⟨by show 2 ≤ sizeLine; decide, fun p hp => ?_⟩
    have e67 : kk = 6 ∨ kk = 7 := by omega
    have fin : ∀ v d, cstD kk mm = d → Dq (newer H'' (upd H'' p (.lst [.non, .bl false]))) v d → Q v (upd H'' p (.lst [.non, .bl false])) := fun v d e h => k _ _ (Sm.new hp) (by rw [e]; exact h)
    rcases e67 with e | e
    · subst e
      exact ⟨_, rfl, _, _, rfl, rfl, p, _, _, .non, rfl, rfl, SqL.of upd_same, rfl, fin _ _ (by unfold cstD; rfl) .non⟩
    · subst e
      exact ⟨_, rfl, _, _, rfl, rfl, p, _, _, .bl false, rfl, rfl, SqL.of upd_same, rfl, fin _ _ (by unfold cstD; rfl) (.bl _)⟩
end
end VL

set_option Elab.async false
set_option linter.all false
set_option maxRecDepth 100000
set_option maxHeartbeats 4000000

namespace VL
open PySem PySem.Spec PyProof.Rows L2
def valsD (p : Pg) : List (PyData × PyData) := p.st.map fun s => (.str s.1, s.2)
def spProg : Sp := fun vs H Q _ => ∃ (rl : Addr) (zs : List Int) (at_ : Int), vs = [.ref rl, .int at_] ∧ H rl = some (.lst (zs.map V.int)) ∧ zs.length = 60 ∧ 0 ≤ at_ ∧ at_ ≤ 30 ∧
  ∀ t v1 v2 p H', Same H H' → H t = none → H' t = some (.tup [v1, v2]) → Dq H' v1 (dPg p) → Dq H' v2 (.dict (valsD p)) → GoodP p → Q (.ref t) H'
/-- what has been built of the stores -/
structure S1 (n : Nat) (st : List (Str × PyData)) (G : Hp) (sx : List V) (vk : List (Key × V)) : Prop where
  a : DqAll G sx (st.map dStore)
  b : DqAll G (vk.map (·.2)) (st.map (·.2))
  k : vk.map (·.1) = st.map fun s => (Sum.inr s.1 : Key)
  len : st.length ≤ n
  nd : (st.map (·.1)).Nodup
  good : ∀ s ∈ st, Small 100 4 s.2 ∧ cpy s.2 = true ∧ PyData.depth s.2 ≤ 4 ∧ (reprText s.1).length ≤ 10
structure GoodC (n : Nat) (cs : List (Str × List (Str × Int))) : Prop where
  len : cs.length ≤ n
  ce : ∀ c ∈ cs, c.2.length ≤ 4 ∧ ∀ x ∈ c.2, PyData.strOk x.1 = true ∧ (reprText x.1).length ≤ 10 ∧ 0 ≤ x.2 ∧ x.2 ≤ 30
  cn : ∀ c ∈ cs, (reprText c.1).length ≤ 10
theorem at_int {ns : List Int} {j : Int} (h0 : 0 ≤ j) (h1 : j < (ns.length : Int)) : ∃ z, atI (ns.map V.int) j = some (.int z) := map_int_atR h0 h1
theorem name_len (c : Str) (hc : c ∈ [("s" : Str), "C", "c"]) {n : Int} (h0 : 0 ≤ n) (h1 : n < 6) : (reprText (c ++ Str.ofString (toString n))).length ≤ 10 ∧ PyData.strOk (c ++ Str.ofString (toString n)) = true := by
  have all : ∀ x ∈ [("s" : Str), "C", "c"], ∀ k : Fin 6, (reprText (x ++ Str.ofString (toString ((k.val : Nat) : Int)))).length ≤ 10 ∧ PyData.strOk (x ++ Str.ofString (toString ((k.val : Nat) : Int))) = true := by decide +kernel
  have := all c hc ⟨n.toNat, by omega⟩
  rwa [show (((⟨n.toNat, by omega⟩ : Fin 6).val : Nat) : Int) = n from Int.toNat_of_nonneg h0] at this
theorem inV_st (x : Str) : ∀ l : List Str, inV (.str x) (l.map V.str) = decide (x ∈ l)
  | [] => rfl
  | y :: l => by
    have ih := inV_st x l
    unfold inV at ih ⊢
    rw [List.map_cons, List.any_cons, ih]
    by_cases e : y = x
    · subst e
      simp [eqV]
    · have e2 : ¬ x = y := fun z => e z.symm
      simp [eqV, e, e2]
theorem valV_in2 {k : Key} : ∀ {ks : List (Key × V)}, k ∈ ks.map (·.1) → (valV ks k).isSome = true
  | p :: ks, h => by
    by_cases e : p.1 = k
    · rw [valV_pos e]
      rfl
    · rw [valV_neg e]
      refine valV_in2 ?_
      rcases List.mem_cons.mp (show k ∈ p.1 :: ks.map (·.1) from h) with z | z
      · exact absurd z.symm e
      · exact z
theorem zip_vals : ∀ {ks : List (Key × V)} {st : List (Str × PyData)}, ks.map (·.1) = st.map (fun s => (Sum.inr s.1 : Key)) → zipK ks (st.map (·.2)) = st.map fun s => (PyData.str s.1, s.2)
  | [], [], _ => rfl
  | p :: ks, q :: st, h => by
    rw [List.map_cons, List.map_cons] at h
    injection h with h1 h2
    show (enK p.1, q.2) :: zipK ks (st.map (·.2)) = (PyData.str q.1, q.2) :: st.map fun s => (PyData.str s.1, s.2)
    rw [h1, zip_vals h2]
    rfl
  | [], q :: st, h => nomatch h
  | p :: ks, [], h => nomatch h
theorem flat_st (l : List Str) : (l.map V.str).all flatV = true := List.all_eq_true.mpr fun y hy => by
  obtain ⟨x, _, rfl⟩ := List.mem_map.mp hy
  rfl
section
variable {P : Program} {w : World} {K : PySem.W.Frag} {mg : Str → Option Value} {base : Heap} {C : Ad}
theorem sc__law_program : FnScope ["rows", "at", "stores", "values", "j", "name", "components", "names", "cells", "i", "cell", "pair"] ["rows", "at"] (defScope s__law_program) := ⟨rfl, rfl, rfl, by decide +kernel, rfl, by decide +kernel, by decide +kernel⟩
theorem ok_prog (T : Txt K w mg C) : Cal P w K mg base 2 "_law_program" spProg := by
  have G_law_constant : Cal P w K mg base 1 "_law_constant" spConst := ok_const T
  refine cal_of T.d__law_program sc__law_program (fun vs H Q E h => ?_) (fun f cdv A outer s H vs Q E hr h => ?_)
  · obtain ⟨rl, zs, at_, rfl, _⟩ := h
    rfl
  · obtain ⟨rl, zs, at_, rfl, hrl, zl, a0, a1, k⟩ := h
    have hu := hu_of hr
    have big : 100000 < sizeLine := by decide
    refine ⟨_, (pss_cons (ps_set (i := 2) sc__law_program.nd rfl (Or.inl rfl) (pe_lst pa_nil)) (pss_cons (ps_set (i := 3) sc__law_program.nd rfl (Or.inl rfl) pe_dnewK) (pss_cons (ps_for PassesOwn.never rfl (pi_range1 (by rfl) T.z_range (pa_cons (pe_op op_mod (pe_callTy call_int1 (by rfl) T.z_int (by decide +kernel) (pa_cons (pe_ix ix_list (pv 0) (pv 1) (fun _ _ => rfl)) pa_nil)) pe_int) pa_nil)) (pg_name (i := 4) sc__law_program.nd rfl (Or.inl rfl)) (C8.pss_cut (ps_set (i := 5) sc__law_program.nd rfl (Or.inl rfl) (pe_op op_add_str pe_str (pe_callTy call_str_int (by rfl) T.z_str (by decide +kernel) (pa_cons (pe_op op_mod (pe_callTy call_int1 (by rfl) T.z_int (by decide +kernel) (pa_cons (pe_op op_fdiv (pe_ix ix_list (pv 0) (pe_op op_add (pv 1) (pv 4)) (fun _ _ => rfl)) pe_int) pa_nil)) pe_int) pa_nil)))) (pss_one (ps_if (pt_cmp (pc_dnotin hu (pv 5) (pv 3))) (pss_cons (ps_dput hu (pv 3) (pv 5) (pe_c G_law_constant hr (by decide) (by rfl) (pa_cons (pe_op op_fdiv (pe_ix ix_list (pv 0) (pe_op op_add (pv 1) (pv 4)) (fun _ _ => rfl)) pe_int) pa_nil)) rfl) (pss_one (ps_expr (pe_bm PySem.F.plainAttrs_list PySem.F.slot_list_append PySem.F.type_list_append mt_append (pv 2) (pa_cons (pe_tup (pa_cons (pv 5) (pa_cons (pe_c G_law_constant hr (by decide) (by rfl) (pa_cons (pe_op op_fdiv (pe_ix ix_list (pv 0) (pe_op op_add (pv 1) (pv 4)) (fun _ _ => rfl)) pe_int) pa_nil)) pa_nil))) pa_nil))))) pss_nil)))) (pss_cons (ps_set (i := 6) sc__law_program.nd rfl (Or.inl rfl) (pe_lst pa_nil)) (pss_cons (ps_set (i := 7) sc__law_program.nd rfl (Or.inl rfl) (pe_lst pa_nil)) (pss_cons (ps_for PassesOwn.never rfl (pi_range1 (by rfl) T.z_range (pa_cons (pe_op op_mod (pe_callTy call_int1 (by rfl) T.z_int (by decide +kernel) (pa_cons (pe_op op_fdiv (pe_ix ix_list (pv 0) (pv 1) (fun _ _ => rfl)) pe_int) pa_nil)) pe_int) pa_nil)) (pg_name (i := 4) sc__law_program.nd rfl (Or.inl rfl)) (C8.pss_cut (ps_set (i := 5) sc__law_program.nd rfl (Or.inl rfl) (pe_op op_add_str pe_str (pe_callTy call_str_int (by rfl) T.z_str (by decide +kernel) (pa_cons (pe_op op_mod (pe_callTy call_int1 (by rfl) T.z_int (by decide +kernel) (pa_cons (pe_op op_fdiv (pe_ix ix_list (pv 0) (pe_op op_add (pe_op op_add (pv 1) (pv 4)) pe_int) (fun _ _ => rfl)) pe_int) pa_nil)) pe_int) pa_nil)))) (pss_one (ps_if (pt_cmpR op_notIn_seq (pv 5) (pv 7) rfl) (pss_cons (ps_set (i := 8) sc__law_program.nd rfl (Or.inl rfl) (pe_lst pa_nil)) (pss_cons (ps_for PassesOwn.never rfl (pi_range1 (by rfl) T.z_range (pa_cons (pe_op op_mod (pe_callTy call_int1 (by rfl) T.z_int (by decide +kernel) (pa_cons (pe_op op_fdiv (pe_ix ix_list (pv 0) (pe_op op_add (pe_op op_add (pv 1) (pv 4)) pe_int) (fun _ _ => rfl)) pe_int) pa_nil)) pe_int) pa_nil)) (pg_name (i := 9) sc__law_program.nd rfl (Or.inl rfl)) (C8.pss_cut (ps_set (i := 10) sc__law_program.nd rfl (Or.inl rfl) (pe_op op_add_str pe_str (pe_callTy call_str_int (by rfl) T.z_str (by decide +kernel) (pa_cons (pe_op op_mod (pe_callTy call_int1 (by rfl) T.z_int (by decide +kernel) (pa_cons (pe_op op_fdiv (pe_ix ix_list (pv 0) (pe_op op_add (pe_op op_add (pv 1) (pv 4)) pe_int) (fun _ _ => rfl)) (pe_op op_add pe_int (pe_op op_mul pe_int (pv 9)))) pa_nil)) pe_int) pa_nil)))) (pss_one (ps_if (pt_cmpR op_notIn_seq (pv 10) (pe_lc (own := [("pair", 11)]) (g := gName 11) (tt := tYes) rfl sc__law_program.nd (pi_list (pv 8)) (blkOk_by (N := ["rows", "at", "stores", "values", "j", "name", "components", "names", "cells", "i", "cell", "pair"]) (sc := (defScope s__law_program)) (by decide +kernel)) (fun _ _ _ _ _ => pg_name (i := 11) sc__law_program.nd rfl (Or.inl rfl)) (fun _ _ _ _ _ => pts_nil) (fun _ _ _ _ _ => (pe_ix (ix_tupS (K := K) rfl) (pv 11) pe_int (fun _ _ => rfl)))) rfl) (pss_one (ps_expr (pe_bm PySem.F.plainAttrs_list PySem.F.slot_list_append PySem.F.type_list_append mt_append (pv 8) (pa_cons (pe_tup (pa_cons (pv 10) (pa_cons (pe_tup (pa_cons pe_str (pa_cons (pe_op op_mod (pe_callTy call_int1 (by rfl) T.z_int (by decide +kernel) (pa_cons (pe_ix ix_list (pv 0) (pe_op op_add (pv 1) (pv 9)) (fun _ _ => rfl)) pa_nil)) pe_int) pa_nil))) pa_nil))) pa_nil)))) pss_nil)))) (pss_cons (ps_expr (pe_bm PySem.F.plainAttrs_list PySem.F.slot_list_append PySem.F.type_list_append mt_append (pv 7) (pa_cons (pv 5) pa_nil))) (pss_one (ps_expr (pe_bm PySem.F.plainAttrs_list PySem.F.slot_list_append PySem.F.type_list_append mt_append (pv 6) (pa_cons (pe_disp (pps_cons pe_str (pv 5) (pps_cons pe_str (pe_lst pa_nil) (pps_cons pe_str (pe_lst pa_nil) (pps_cons pe_str (pv 8) (pps_cons pe_str (pe_lst pa_nil) (pps_cons pe_str (pe_lst pa_nil) (pps_cons pe_str (pe_lst pa_nil) (pps_cons pe_str (pe_lst pa_nil) pps_nil)))))))) (by rfl) (by rfl) (fun z => by cases z) (by decide)) pa_nil))))))) pss_nil)))) (pss_one (ps_ret (pe_tup (pa_cons (pe_disp (pps_cons pe_str (pv 2) (pps_cons pe_str (pv 6) pps_nil)) (by rfl) (by rfl) (fun z => by cases z) (by decide)) (pa_cons (pv 3) pa_nil))))))))))), ?_⟩
    refine ⟨by show 0 ≤ sizeLine; decide, fun S hS Vd hVd => ?_⟩
    have sb0 : Sb H (upd (upd H S (.lst [])) Vd (.dK [])) [(Vd, .dK []), (S, .lst [])] := (Sb.nil.add hS).add hVd
    have hrl2 := sb0.s _ _ hrl
    obtain ⟨z0, hz0⟩ := at_int (ns := zs) (j := at_) a0 (by omega)
    have lo : 0 ≤ z0 % 5 := Int.emod_nonneg _ (by decide)
    have hi5 : z0 % 5 < 5 := Int.emod_lt_of_pos _ (by decide)
    refine ⟨_, rfl, _, rfl, rl, _, _, .int z0, rfl, rfl, SqL.of hrl2, hz0, .inl ⟨_, rfl, _, _, rfl, rfl, (by show (0 : Int) < 5; decide), ?_⟩⟩
    refine ⟨_, rfl, by omega, by omega, ?_⟩
    refine for_range (lo := 0) (n := (z0 % 5).toNat) (fun j σ H' => ∃ (G : Hp) (st : List (Str × PyData)) (sx : List V) (vk : List (Key × V)) (y4 y5 : Option V), Sb G H' [(Vd, .dK vk), (S, .lst sx)] ∧ Same H G ∧ S1 j st G sx vk ∧
      σ = [some (.ref rl), some (.int at_), some (.ref S), some (.ref Vd), y4, y5, none, none, none, none, none, none]) ⟨H, [], [], [], none, none, sb0, Same.refl _, ⟨.nil, .nil, rfl, Nat.le_refl _, List.nodup_nil, (fun _ h => nomatch h)⟩, rfl⟩ ?_ ?_
    · rintro j σ H1 hj ⟨G, st, sx, vk, y4, y5, sb, sG, B, rfl⟩
      have hj' : j < 4 := by omega
      have hrl1 := sb.s _ _ (sG _ _ hrl)
      obtain ⟨z, hz⟩ := at_int (ns := zs) (j := at_ + (0 + (j : Int))) (by omega) (by omega)
      have n0 : 0 ≤ z / 5 % 5 := Int.emod_nonneg _ (by decide)
      have n1 : z / 5 % 5 < 5 := Int.emod_lt_of_pos _ (by decide)
      refine ⟨fun σ' H' => H' = H1 ∧ σ' = [some (.ref rl), some (.int at_), some (.ref S), some (.ref Vd), some (.int (0 + (j : Int))), some (.str ("s" ++ Str.ofString (toString (z / 5 % 5)))), none, none, none, none, none, none], ?_, ?_⟩
      · refine ⟨_, rfl, _, rfl, _, rfl, _, _, rfl, rfl, rl, _, _, .int z, rfl, rfl, SqL.of hrl1, hz, _, _, rfl, rfl, ⟨by decide, by decide⟩, .inl ⟨_, rfl, _, _, rfl, rfl, (by show (0 : Int) < 5; decide), _, rfl, log90 (by omega) (by omega), _, _, rfl, rfl, ?_, rfl, rfl⟩⟩
        have := num_len2 n0 (by omega)
        show 1 + (Str.ofString (toString (z / 5 % 5))).length ≤ sizeLine
        omega
      rintro σ' H' ⟨eH, rfl⟩
      rw [eH]
      have nl := name_len "s" (by simp) n0 (by omega)
      generalize hnm : ("s" : Str) ++ Str.ofString (toString (z / 5 % 5)) = nm at *
      refine ⟨_, rfl, _, rfl, Vd, _, rfl, DGet.k (k := .inr nm) sb.hd, _, rfl, ?_⟩
      refine ite2 (fun c => ?_) (fun c => ⟨G, st, sx, vk, _, _, sb, sG, ⟨B.a, B.b, B.k, by have := B.len; omega, B.nd, B.good⟩, rfl⟩)
      have vn : valV vk (.inr nm) = none := by
        cases e : valV vk (.inr nm) with
        | none => rfl
        | some v => rw [e] at c; exact nomatch c
      have nmn : nm ∉ st.map (·.1) := fun hm => by
        obtain ⟨s0, hs0, e0⟩ := List.mem_map.mp hm
        have : (Sum.inr nm : Key) ∈ vk.map (·.1) := by rw [B.k]; exact List.mem_map.mpr ⟨s0, hs0, by rw [e0]⟩
        have := valV_in2 this
        rw [vn] at this
        exact nomatch this
      have c0 : 0 ≤ z / 25 % 8 := Int.emod_nonneg _ (by decide)
      have c1 : z / 25 % 8 < 8 := Int.emod_lt_of_pos _ (by decide)
      have d0 : 0 ≤ z / 25 / 8 % 90 := Int.emod_nonneg _ (by decide)
      have d1 : z / 25 / 8 % 90 < 90 := Int.emod_lt_of_pos _ (by decide)
      have gd := cst_ok c0 c1 d0 d1
      refine ⟨_, rfl, _, rfl, _, rfl, _, _, rfl, rfl, rl, _, _, .int z, rfl, rfl, SqL.of hrl1, hz, _, _, rfl, rfl, ⟨by decide, by decide⟩, z / 25, rfl, fun v H2 s2 dv => ?_⟩
      have sb2 := sb.call s2
      have vl : vk.length = st.length := by
        have := congrArg List.length B.k
        rwa [List.length_map, List.length_map] at this
      have stl := B.len
      refine ⟨_, rfl, _, rfl, Vd, _, rfl, DPut.k (k := .inr nm) sb2.hd (by omega), ?_⟩
      have sb3 := sb2.put (u := .dK (putK vk (.inr nm) v))
      have hrl3 := s2 _ _ hrl1
      have rV : rl ≠ Vd := ne_of hrl1 sb.hd (by simp)
      refine ⟨_, rfl, .inl ⟨rfl, _, SqL.of sb3.hd2⟩, _, rfl, _, rfl, _, rfl, _, rfl, _, _, rfl, rfl, rl, _, _, .int z, rfl, rfl, SqL.of (by rw [upd_ne rV]; exact hrl3), hz, _, _, rfl, rfl, ⟨by decide, by decide⟩, z / 25, rfl, fun v2 H3 s3 dv2 => ⟨by show 2 ≤ sizeLine; decide, fun t ht => ?_⟩⟩
      have sb4 := sb3.call s3
      have sb5 := sb4.alloc (o := .tup [.str nm, v2]) ht
      have sl : sx.length = st.length := by have := B.a.len; rwa [List.length_map] at this
      refine ⟨S, _, _, rfl, rfl, sb5.hd2, by omega, ?_⟩
      have sb6 := (sb5.swap.put (u := .lst (sx ++ [V.ref t]))).swap
      have g1 : Same G (joinH G (newer H1 H2)) := joinH_l
      have g2 : Same (joinH G (newer H1 H2)) (joinH (joinH G (newer H1 H2)) (newer (upd H2 Vd (.dK (putK vk (.inr nm) v))) H3)) := joinH_l
      have g3 := sb4.grow (o := .tup [.str nm, v2]) ht
      have gall := Same.trans (Same.trans g1 g2) g3
      have dvG := (dv.same (joinH_r sb.s)).same (Same.trans g2 g3)
      have dv2G := (dv2.same (joinH_r sb3.s)).same g3
      refine ⟨_, st ++ [(nm, cstD (z / 25 % 8) (z / 25 / 8 % 90))], _, _, _, _, sb6, Same.trans sG gall, ⟨?_, ?_, ?_, ?_, ?_, ?_⟩, rfl⟩
      · rw [List.map_append]
        exact dqAll_ap (B.a.same gall) (.cons (.tup upd_same (.cons (.str _) (.cons dv2G .nil))) .nil)
      · rw [putK_nw vn] at gall dvG ⊢
        rw [List.map_append, List.map_append]
        exact dqAll_ap (B.b.same gall) (.cons dvG .nil)
      · rw [putK_nw vn, List.map_append, List.map_append, B.k]
        rfl
      · rw [List.length_append]
        show st.length + 1 ≤ j + 1
        omega
      · rw [List.map_append]
        exact List.nodup_append.mpr ⟨B.nd, by simp, fun x hx y hy e => by
          rw [List.mem_singleton.mp hy] at e
          rw [e] at hx
          exact nmn hx⟩
      · intro s0 hs0
        rcases List.mem_append.mp hs0 with hs0 | hs0
        · exact B.good s0 hs0
        · rw [List.mem_singleton.mp hs0]
          exact ⟨gd.1, gd.2.1, gd.2.2, nl.1⟩
    · rintro σ H1 ⟨G0, st, sx, vk, y4, y5, sb, sG0, B, rfl⟩
      obtain ⟨GV, gV⟩ : ∃ GV, GV = G0 := ⟨_, rfl⟩
      have hVd1 := sb.hd
      have hS1 := sb.hd2
      have sH1 : Same H H1 := Same.trans sG0 sb.s
      have dst : Dq H1 (.ref S) (.list (st.map dStore)) := .lst hS1 (B.a.same sb.s)
      have dvl : Dq H1 (.ref Vd) (.dict (st.map fun s => (PyData.str s.1, s.2))) := by
        rw [← zip_vals B.k]
        refine .dic hVd1 ?_ (B.b.same sb.s)
        rw [B.k, show (st.map fun s => (Sum.inr s.1 : Key)) = (st.map (·.1)).map Sum.inr by rw [List.map_map]; rfl]
        exact B.nd.map _ (fun a b h e => h (Sum.inr.inj e))
      refine ⟨by show 0 ≤ sizeLine; decide, fun Cm hCm => ⟨by show 0 ≤ sizeLine; decide, fun Nm hNm => ?_⟩⟩
      have sc0 : Sb H1 (upd (upd H1 Cm (.lst [])) Nm (.lst [])) [(Nm, .lst []), (Cm, .lst [])] := (Sb.nil.add hCm).add hNm
      have hrl3 := sc0.s _ _ (sH1 _ _ hrl)
      have lo : 0 ≤ z0 / 7 % 5 := Int.emod_nonneg _ (by decide)
      have hi7 : z0 / 7 % 5 < 5 := Int.emod_lt_of_pos _ (by decide)
      refine ⟨_, rfl, _, rfl, rl, _, _, .int z0, rfl, rfl, SqL.of hrl3, hz0, _, _, rfl, rfl, ⟨by decide, by decide⟩, .inl ⟨_, rfl, _, _, rfl, rfl, (by show (0 : Int) < 5; decide), ?_⟩⟩
      refine ⟨_, rfl, by omega, by omega, ?_⟩
      refine for_range (lo := 0) (n := (z0 / 7 % 5).toNat) (fun j σ H' => ∃ (G : Hp) (cs : List (Str × List (Str × Int))) (cx : List V) (nms : List Str) (y4 y5 y8 y9 y10 : Option V), Sb G H' [(Nm, .lst (nms.map V.str)), (Cm, .lst cx)] ∧ Same H1 G ∧ DqAll G cx (cs.map dComp) ∧ GoodC j cs ∧ nms.length ≤ j ∧
        σ = [some (.ref rl), some (.int at_), some (.ref S), some (.ref Vd), y4, y5, some (.ref Cm), some (.ref Nm), y8, y9, y10, none]) ⟨H1, [], [], [], _, _, _, _, _, sc0, Same.refl _, .nil, ⟨Nat.le_refl _, (fun _ h => nomatch h), (fun _ h => nomatch h)⟩, Nat.le_refl _, rfl⟩ ?_ ?_
      · rintro j σ H2 hj ⟨G, cs, cx, nms, y4, y5, y8, y9, y10, sb, sG, dc, gc, nl, rfl⟩
        have hj' : j < 4 := by omega
        have hrl2 := sb.s _ _ (sG _ _ (sH1 _ _ hrl))
        obtain ⟨z, hz⟩ := at_int (ns := zs) (j := at_ + (0 + (j : Int)) + 5) (by omega) (by omega)
        have n0 : 0 ≤ z / 3 % 5 := Int.emod_nonneg _ (by decide)
        have n1 : z / 3 % 5 < 5 := Int.emod_lt_of_pos _ (by decide)
        refine ⟨fun σ' H' => H' = H2 ∧ σ' = [some (.ref rl), some (.int at_), some (.ref S), some (.ref Vd), some (.int (0 + (j : Int))), some (.str ("C" ++ Str.ofString (toString (z / 3 % 5)))), some (.ref Cm), some (.ref Nm), y8, y9, y10, none], ?_, ?_⟩
        · refine ⟨_, rfl, _, rfl, _, rfl, _, _, rfl, rfl, _, _, rfl, rfl, rl, _, _, .int z, rfl, rfl, SqL.of hrl2, hz, _, _, rfl, rfl, ⟨by decide, by decide⟩, .inl ⟨_, rfl, _, _, rfl, rfl, (by show (0 : Int) < 5; decide), _, rfl, log90 (by omega) (by omega), _, _, rfl, rfl, ?_, rfl, rfl⟩⟩
          have := num_len2 n0 (by omega)
          show 1 + (Str.ofString (toString (z / 3 % 5))).length ≤ sizeLine
          omega
        rintro σ' H' ⟨eH, rfl⟩
        rw [eH]
        have nln := name_len "C" (by simp) n0 (by omega)
        generalize hnm : ("C" : Str) ++ Str.ofString (toString (z / 3 % 5)) = nm at *
        refine ⟨_, rfl, _, rfl, Nm, _, rfl, .inl (SqL.of sb.hd), rfl, flat_st _, _, rfl, ?_⟩
        refine ite2 (fun c => ?_) (fun c => ⟨G, cs, cx, nms, _, _, _, _, _, sb, sG, dc, ⟨by have := gc.len; omega, gc.ce, gc.cn⟩, by omega, rfl⟩)
        refine ⟨by show 0 ≤ sizeLine; decide, fun Cl hCl => ?_⟩
        have sd0 := sb.add (o := .lst []) hCl
        have hrl4 := sd0.s _ _ (sG _ _ (sH1 _ _ hrl))
        have lo2 : 0 ≤ z / 15 % 4 := Int.emod_nonneg _ (by decide)
        have hi15 : z / 15 % 4 < 4 := Int.emod_lt_of_pos _ (by decide)
        refine ⟨_, rfl, _, rfl, _, rfl, _, _, rfl, rfl, _, _, rfl, rfl, rl, _, _, .int z, rfl, rfl, SqL.of hrl4, hz, _, _, rfl, rfl, ⟨by decide, by decide⟩, .inl ⟨_, rfl, _, _, rfl, rfl, (by show (0 : Int) < 4; decide), ?_⟩⟩
        refine ⟨_, rfl, by omega, by omega, ?_⟩
        refine for_range (lo := 0) (n := (z / 15 % 4).toNat) (fun i σ H' => ∃ (G2 : Hp) (ce : List (Str × Int)) (ex : List V) (y9 y10 : Option V), Sb G2 H' [(Cl, .lst ex), (Nm, .lst (nms.map V.str)), (Cm, .lst cx)] ∧ Same G G2 ∧ DqAll G2 ex (ce.map dCell) ∧ ce.length ≤ i ∧ (∀ x ∈ ce, PyData.strOk x.1 = true ∧ (reprText x.1).length ≤ 10 ∧ 0 ≤ x.2 ∧ x.2 ≤ 30) ∧
          σ = [some (.ref rl), some (.int at_), some (.ref S), some (.ref Vd), some (.int (0 + (j : Int))), some (.str nm), some (.ref Cm), some (.ref Nm), some (.ref Cl), y9, y10, none]) ⟨G, [], [], _, _, sd0, Same.refl _, .nil, Nat.le_refl _, (fun _ h => nomatch h), rfl⟩ ?_ ?_
        · rintro i σ H3 hi ⟨G2, ce, ex, y9, y10, sb2, sG2, de, cl, gce, rfl⟩
          have hi' : i < 3 + 1 := by omega
          have hrl5 := sb2.s _ _ (sG2 _ _ (sG _ _ (sH1 _ _ hrl)))
          obtain ⟨z2, hz2⟩ := at_int (ns := zs) (j := at_ + (0 + (j : Int)) + 9) (by omega) (by omega)
          have m0 : 0 ≤ z2 / (3 + 5 * (0 + (i : Int))) % 3 := Int.emod_nonneg _ (by decide)
          have m1 : z2 / (3 + 5 * (0 + (i : Int))) % 3 < 3 := Int.emod_lt_of_pos _ (by decide)
          refine ⟨fun σ' H' => H' = H3 ∧ σ' = [some (.ref rl), some (.int at_), some (.ref S), some (.ref Vd), some (.int (0 + (j : Int))), some (.str nm), some (.ref Cm), some (.ref Nm), some (.ref Cl), some (.int (0 + (i : Int))), some (.str ("c" ++ Str.ofString (toString (z2 / (3 + 5 * (0 + (i : Int))) % 3)))), none], ?_, ?_⟩
          · refine ⟨_, rfl, _, rfl, _, rfl, _, _, rfl, rfl, _, _, rfl, rfl, rl, _, _, .int z2, rfl, rfl, SqL.of hrl5, hz2, _, rfl, _, _, rfl, rfl, .inl ⟨by decide, by decide⟩, _, _, rfl, rfl, _, _, rfl, rfl, ⟨by omega, by omega⟩, .inl ⟨_, rfl, _, _, rfl, rfl, (by show (0 : Int) < 3; decide), _, rfl, log90 (by omega) (by omega), _, _, rfl, rfl, ?_, rfl, rfl⟩⟩
            have := num_len2 m0 (by omega)
            show 1 + (Str.ofString (toString (z2 / (3 + 5 * (0 + (i : Int))) % 3))).length ≤ sizeLine
            omega
          rintro σ' H' ⟨eH, rfl⟩
          rw [eH]
          have cln := name_len "c" (by simp) m0 (by omega)
          generalize hcn : ("c" : Str) ++ Str.ofString (toString (z2 / (3 + 5 * (0 + (i : Int))) % 3)) = cn at *
          have exl : ex.length = ce.length := by have := de.len; rwa [List.length_map] at this
          refine ⟨_, rfl, _, rfl, Cl, rfl, ⟨_, SqL.of sb2.hd⟩, fun D hD => ?_⟩
          refine lc_it (walk_list (K := K) (a := Cl) (xs := ex)) (fun t H' => Same H3 H' ∧ H' D = some (.lst (((ce.take t).map (·.1)).map V.str))) ⟨Sm.new hD, upd_same⟩ (fun t H' _ z => SqL.of (z.1 _ _ sb2.hd)) ?_ ?_
          · rintro t x H4 H5 ht ⟨s4, h4⟩ ⟨rfl, hx⟩
            have ht' : t < ce.length := by omega
            have hct := List.getElem?_eq_getElem ht'
            obtain ⟨x', hx2, dx⟩ := dqAll_at de (by rw [List.getElem?_map, hct]; rfl)
            have : x' = x := by rw [hx2] at hx; exact Option.some.inj hx
            subst this
            obtain ⟨tt, ts, rfl, htt, dts⟩ := dq_tup dx
            cases dts with
            | cons a1 a2 =>
              cases a1
              have tk : ce.take (t + 1) = ce.take t ++ [ce[t]] := by rw [List.take_add_one, hct]; rfl
              refine ⟨rfl, ?_⟩
              refine ⟨_, rfl, tt, _, _, _, rfl, rfl, SqT.of (s4 _ _ (sb2.s _ _ htt)), at0q, _, h4, ?_, fun b o eb => ?_, ?_⟩
              · rw [List.length_map, List.length_map, List.length_take]
                omega
              · rw [upd_ne (ne_of_none eb hD)]
                exact s4 _ _ eb
              · rw [upd_same, tk, List.map_append, List.map_append]
                rfl
          rintro H4 ⟨s4, h4⟩
          refine ⟨D, _, rfl, .inl (SqL.of h4), rfl, flat_st _, _, rfl, ?_⟩
          have sb4 := sb2.call s4
          have g1 : Same G2 (joinH G2 (newer H3 H4)) := joinH_l
          refine ite2 (fun c => ?_) (fun c => ⟨_, ce, ex, _, _, sb4, Same.trans sG2 g1, de.same g1, by omega, gce, rfl⟩)
          have hrl6 := s4 _ _ hrl5
          obtain ⟨z3, hz3⟩ := at_int (ns := zs) (j := at_ + (0 + (i : Int))) (by omega) (by omega)
          have r0 : 0 ≤ z3 % 9 := Int.emod_nonneg _ (by decide)
          have r1 : z3 % 9 < 9 := Int.emod_lt_of_pos _ (by decide)
          refine ⟨_, rfl, .inl ⟨rfl, _, SqL.of sb4.hd⟩, _, rfl, _, rfl, _, rfl, _, rfl, _, _, rfl, rfl, rl, _, _, .int z3, rfl, rfl, SqL.of hrl6, hz3, .inl ⟨_, rfl, _, _, rfl, rfl, (by show (0 : Int) < 9; decide), by show 2 ≤ sizeLine; decide, fun q hq => ⟨by show 2 ≤ sizeLine; decide, fun p hp => ?_⟩⟩⟩
          have sb5 := sb4.alloc (o := .tup [.str "number", .int (z3 % 9)]) hq
          have g2 := sb4.grow (o := .tup [.str "number", .int (z3 % 9)]) hq
          have sb6 := sb5.alloc (o := .tup [.str cn, .ref q]) hp
          have g3 := sb5.grow (o := .tup [.str cn, .ref q]) hp
          have sb7 := sb6.put (u := .lst (ex ++ [V.ref p]))
          have gall := Same.trans (Same.trans g1 g2) g3
          refine ⟨Cl, _, _, rfl, rfl, sb6.hd, by omega, _, ce ++ [(cn, z3 % 9)], _, _, _, sb7, Same.trans sG2 gall, ?_, ?_, ?_, rfl⟩
          · rw [List.map_append]
            exact dqAll_ap (de.same gall) (.cons (.tup upd_same (.cons (.str _) (.cons (.tup (g3 _ _ upd_same) (.cons (.str _) (.cons (.int _) .nil))) .nil))) .nil)
          · rw [List.length_append]
            show ce.length + 1 ≤ i + 1
            omega
          · intro x hx
            rcases List.mem_append.mp hx with hx | hx
            · exact gce x hx
            · rw [List.mem_singleton.mp hx]
              exact ⟨cln.2, cln.1, r0, by show z3 % 9 ≤ 30; omega⟩
        · rintro σ H3 ⟨G2, ce, ex, y9, y10, sb2, sG2, de, cl, gce, rfl⟩
          have cl4 : ce.length ≤ 4 := by omega
          obtain ⟨sb3, g0⟩ := sb2.drop
          have dcl : Dq (upd G2 Cl (.lst ex)) (.ref Cl) (.list (ce.map dCell)) := .lst upd_same (de.same g0)
          refine ⟨_, rfl, .inl ⟨rfl, _, SqL.of sb3.hd⟩, _, rfl, Nm, _, _, rfl, rfl, sb3.hd, by rw [List.length_map]; omega, ?_⟩
          have sb4 := sb3.put (u := .lst (nms.map V.str ++ [V.str nm]))
          refine ⟨_, rfl, .inl ⟨rfl, _, SqL.of sb4.hd2⟩, fun p hp => ⟨_, rfl, by show 0 ≤ sizeLine; decide, fun q1 h1 => ⟨by show 0 ≤ sizeLine; decide, fun q2 h2 => ⟨_, rfl, by show 0 ≤ sizeLine; decide, fun q3 h3 => ⟨by show 0 ≤ sizeLine; decide, fun q4 h4 => ⟨by show 0 ≤ sizeLine; decide, fun q5 h5 => ⟨by show 0 ≤ sizeLine; decide, fun q6 h6 => ?_⟩⟩⟩⟩⟩⟩⟩
          have t0 := sb4.add (o := .dK []) hp
          have t1 := t0.alloc (o := .lst []) h1
          have e1 := t0.grow (o := .lst []) h1
          have t2 := t1.alloc (o := .lst []) h2
          have e2 := t1.grow (o := .lst []) h2
          have t3 := t2.alloc (o := .lst []) h3
          have e3 := t2.grow (o := .lst []) h3
          have t4 := t3.alloc (o := .lst []) h4
          have e4 := t3.grow (o := .lst []) h4
          have t5 := t4.alloc (o := .lst []) h5
          have e5 := t4.grow (o := .lst []) h5
          have t6 := t5.alloc (o := .lst []) h6
          have e6 := t5.grow (o := .lst []) h6
          have t7 := t6.put (u := .dK [(.inr "name", .str nm), (.inr "parameters", .ref q1), (.inr "contexts", .ref q2), (.inr "cells", .ref Cl), (.inr "definitions", .ref q3), (.inr "handlers", .ref q4), (.inr "effects", .ref q5), (.inr "view", .ref q6)])
          obtain ⟨t8, e8⟩ := t7.drop
          have t9 := (t8.swap.put (u := .lst (cx ++ [V.ref p]))).swap
          have gall := Same.trans (Same.trans (Same.trans (Same.trans (Same.trans (Same.trans e1 e2) e3) e4) e5) e6) e8
          refine ⟨t6.hd, [(.inr "name", .str nm), (.inr "parameters", .ref q1), (.inr "contexts", .ref q2), (.inr "cells", .ref Cl), (.inr "definitions", .ref q3), (.inr "handlers", .ref q4), (.inr "effects", .ref q5), (.inr "view", .ref q6)], rfl, (by show 8 ≤ 15; decide), Cm, _, _, rfl, rfl, t8.hd2, ?_, _, cs ++ [(nm, ce)], _, nms ++ [nm], _, _, _, _, _, (by rw [List.map_append]; exact t9), Same.trans (Same.trans (Same.trans sG sG2) g0) gall, ?_, ⟨?_, ?_, ?_⟩, ?_, rfl⟩
          · have := dc.len
            rw [List.length_map] at this
            have := gc.len
            omega
          · rw [List.map_append]
            refine dqAll_ap (dc.same (Same.trans (Same.trans sG2 g0) gall)) (.cons ?_ .nil)
            refine Dq.dic (ks := [(.inr "name", .str nm), (.inr "parameters", .ref q1), (.inr "contexts", .ref q2), (.inr "cells", .ref Cl), (.inr "definitions", .ref q3), (.inr "handlers", .ref q4), (.inr "effects", .ref q5), (.inr "view", .ref q6)]) (ds := [.str nm, .list [], .list [], .list (ce.map dCell), .list [], .list [], .list [], .list []]) upd_same (by show ([(Sum.inr ("name" : Str) : Key), .inr ("parameters" : Str), .inr ("contexts" : Str), .inr ("cells" : Str), .inr ("definitions" : Str), .inr ("handlers" : Str), .inr ("effects" : Str), .inr ("view" : Str)]).Nodup; decide +kernel) ?_
            exact .cons (.str _) (.cons (.lst ((Same.trans (Same.trans (Same.trans (Same.trans (Same.trans e2 e3) e4) e5) e6) e8) _ _ upd_same) .nil) (.cons (.lst ((Same.trans (Same.trans (Same.trans (Same.trans e3 e4) e5) e6) e8) _ _ upd_same) .nil) (.cons (dcl.same gall) (.cons (.lst ((Same.trans (Same.trans (Same.trans e4 e5) e6) e8) _ _ upd_same) .nil) (.cons (.lst ((Same.trans (Same.trans e5 e6) e8) _ _ upd_same) .nil) (.cons (.lst ((Same.trans e6 e8) _ _ upd_same) .nil) (.cons (.lst (e8 _ _ upd_same) .nil) .nil)))))))
          · rw [List.length_append]
            have := gc.len
            show cs.length + 1 ≤ j + 1
            omega
          · intro c hc
            rcases List.mem_append.mp hc with hc | hc
            · exact gc.ce c hc
            · rw [List.mem_singleton.mp hc]
              exact ⟨cl4, gce⟩
          · intro c hc
            rcases List.mem_append.mp hc with hc | hc
            · exact gc.cn c hc
            · rw [List.mem_singleton.mp hc]
              exact nln.1
          · rw [List.length_append]
            show nms.length + 1 ≤ j + 1
            omega
      · rintro σ H2 ⟨G, cs, cx, nms, y4, y5, y8, y9, y10, sb, sG, dc, gc, nl, rfl⟩
        have s12 : Same H1 H2 := Same.trans sG sb.s
        intro p hp
        refine ⟨_, rfl, _, rfl, upd_same, [(.inr "stores", .ref S), (.inr "components", .ref Cm)], rfl, (by show 2 ≤ 15; decide), _, rfl, by show 2 ≤ sizeLine; decide, fun t ht => ?_⟩
        have hp2 : upd (upd H2 p (.dK [])) p (.dK [(.inr "stores", .ref S), (.inr "components", .ref Cm)]) = upd H2 p (.dK [(.inr "stores", .ref S), (.inr "components", .ref Cm)]) := upd_upd
        have ht' : upd H2 p (.dK [(.inr "stores", .ref S), (.inr "components", .ref Cm)]) t = none := by rw [← hp2]; exact ht
        have sp := Sm.new (o := .dK [(.inr "stores", .ref S), (.inr "components", .ref Cm)]) hp
        have st2 := Sm.new (o := .tup [.ref p, .ref Vd]) ht'
        have fin := k t (.ref p) (.ref Vd) ⟨st, cs⟩ (upd (upd H2 p (.dK [(.inr "stores", .ref S), (.inr "components", .ref Cm)])) t (.tup [.ref p, .ref Vd])) (Same.trans (Same.trans sH1 s12) (Same.trans sp st2)) (Same.free (Same.trans (Same.trans sH1 s12) sp) ht') upd_same ?_ ?_ ?_
        · rw [← hp2] at fin
          exact fin
        · refine Dq.dic (ks := [(.inr "stores", .ref S), (.inr "components", .ref Cm)]) (ds := [.list (st.map dStore), .list (cs.map dComp)]) (st2 _ _ upd_same) (by show ([(Sum.inr ("stores" : Str) : Key), .inr ("components" : Str)]).Nodup; decide +kernel) ?_
          exact .cons ((dst.same s12).same (Same.trans sp st2)) (.cons (.lst ((Same.trans sp st2) _ _ sb.hd2) (dc.same (Same.trans sb.s (Same.trans sp st2)))) .nil)
        · exact (dvl.same s12).same (Same.trans sp st2)
        · exact ⟨by have := gc.len; show cs.length ≤ 4; omega, gc.ce, gc.cn, by have := B.len; show st.length ≤ 4; omega, B.nd, B.good⟩
end
end VL

set_option Elab.async false
set_option linter.all false
set_option maxRecDepth 100000
set_option maxHeartbeats 4000000

namespace VL
open PySem PySem.Spec PyProof.Rows L2
def spLaw (K : PySem.W.Frag) : Sp := fun vs H Q _ => ∃ (a : Addr) (ns : List Int), vs = [.ref a] ∧ SqL K H a (ns.map V.int) ∧ ns.length ≤ 63 ∧ ∀ H', Q (.bl true) H'
def keptL (nm : Str) : PyData := .list [.str "kept", .str nm]
def presD (b : Pg) : List (PyData × PyData) := b.st.map fun s => (.str s.1, keptL s.1)
theorem zip_keys : ∀ {ks : List (Key × V)} {ds : List PyData}, ks.length = ds.length → (zipK ks ds).map (·.1) = ks.map fun p => enK p.1
  | [], [], _ => rfl
  | p :: ks, d :: ds, h => by
    show enK p.1 :: (zipK ks ds).map (·.1) = enK p.1 :: _
    rw [zip_keys (Nat.succ.inj h)]
theorem dq_dict2 {H : Hp} {v : V} {kvs : List (PyData × PyData)} (h : Dq H v (.dict kvs)) : ∃ a ks, v = .ref a ∧ H a = some (.dK ks) ∧ (ks.map (·.1)).Nodup ∧ (ks.map fun p => enK p.1) = kvs.map (·.1) ∧ DqAll H (ks.map (·.2)) (kvs.map (·.2)) ∧ zipK ks (kvs.map (·.2)) = kvs := by
  cases h with
  | @dic a ks ds h1 nd h2 =>
    have kl : ks.length = ds.length := by have := h2.len; rwa [List.length_map] at this
    refine ⟨a, ks, rfl, h1, nd, (zip_keys kl).symm, ?_, ?_⟩
    · rw [zipK_vals kl]
      exact h2
    · rw [zipK_vals kl]
theorem kV_dq {H : Hp} (k : Key) : Dq H (kV k) (enK k) := by
  cases k with
  | inl i => exact .int i
  | inr x => exact .str x
theorem items_dq {H : Hp} : ∀ {ts : List Addr} {ks : List (Key × V)} {ds : List PyData}, Paired (fun (t : Addr) (q : Key × V) => H t = some (.tup [kV q.1, q.2])) ts ks → DqAll H (ks.map (·.2)) ds → DqAll H (ts.map V.ref) ((zipK ks ds).map fun p => .tuple [p.1, p.2])
  | _, [], ds, .nil, h => by cases h; exact .nil
  | _, q :: ks, _, .cons g p, .cons (d := d) (ds := ds) a b => .cons (.tup g (.cons (kV_dq _) (.cons a .nil))) (items_dq p b)
/-! ### sizes -/
theorem sm_str {x : Str} (h : (reprText x).length ≤ 10) : Small 10 0 (.str x) := ⟨rfl, Nat.le_refl _, h⟩
theorem sm_strs {x : Str} (h : (reprText x).length ≤ 20) : Small 20 0 (.str x) := ⟨rfl, Nat.le_refl _, h⟩
theorem sm_int {i : Int} (h0 : 0 ≤ i) (h1 : i ≤ 30) : Small 10 0 (.int i) := by
  refine ⟨?_, Nat.le_refl _, ?_⟩
  · show decide (i.natAbs.log2 < 1920) = true
    exact decide_eq_true (log90 (by omega) (by omega))
  · show (Str.ofString (toString i)).length ≤ 10
    have := num_len2 h0 (by omega)
    omega
theorem sm_kept {nm : Str} (h : (reprText nm).length ≤ 10) : Small 26 1 (keptL nm) := by
  refine small_list (c := 10) (k := 0) (n := 2) (fun d hd => ?_) (Nat.le_refl _)
  rcases List.mem_cons.mp hd with rfl | hd
  · exact sm_str (by decide +kernel)
  · rw [List.mem_singleton.mp hd]
    exact sm_str h
theorem sm_pres {b : Pg} (g : GoodP b) : Small 226 2 (.dict (presD b)) := by
  refine small_dict (c := 26) (k := 1) (n := 4) (fun p hp => ?_) (by unfold presD; rw [List.length_map]; exact g.sl)
  obtain ⟨s, hs, rfl⟩ := List.mem_map.mp hp
  have := (g.sd s hs).2.2.2
  exact ⟨(sm_str this).mono (by omega) (by omega), sm_kept this⟩
theorem sm_cell {x : Str × Int} (h1 : (reprText x.1).length ≤ 10) (h2 : 0 ≤ x.2 ∧ x.2 ≤ 30) : Small 61 2 (dCell x) := by
  have inner : Small 27 1 (.tuple [.str "number", .int x.2]) := by
    refine small_tup (c := 10) (k := 0) (n := 2) (fun d hd => ?_) (Nat.le_refl _)
    rcases List.mem_cons.mp hd with rfl | hd
    · exact sm_str (by decide +kernel)
    · rw [List.mem_singleton.mp hd]
      exact sm_int h2.1 h2.2
  refine small_tup (c := 27) (k := 1) (n := 2) (fun d hd => ?_) (Nat.le_refl _)
  rcases List.mem_cons.mp hd with rfl | hd
  · exact (sm_str h1).mono (by omega) (by omega)
  · rw [List.mem_singleton.mp hd]
    exact inner
theorem sm_comp {c : Str × List (Str × Int)} (h1 : (reprText c.1).length ≤ 10) (h2 : c.2.length ≤ 4 ∧ ∀ x ∈ c.2, PyData.strOk x.1 = true ∧ (reprText x.1).length ≤ 10 ∧ 0 ≤ x.2 ∧ x.2 ≤ 30) : Small 4098 4 (dComp c) := by
  have cells : Small 254 3 (.list (c.2.map dCell)) := by
    refine small_list (c := 61) (k := 2) (n := 4) (fun d hd => ?_) (by rw [List.length_map]; exact h2.1)
    obtain ⟨x, hx, rfl⟩ := List.mem_map.mp hd
    exact sm_cell (h2.2 x hx).2.1 (h2.2 x hx).2.2
  have e0 : Small 254 3 (.list []) := (small_list (c := 0) (k := 0) (n := 0) (ds := []) (fun d hd => absurd hd List.not_mem_nil) (Nat.le_refl _)).mono (by omega) (by omega)
  have ks : ∀ x ∈ [("name" : Str), "parameters", "contexts", "cells", "definitions", "handlers", "effects", "view"], (reprText x).length ≤ 20 := by decide +kernel
  have kk : ∀ x ∈ [("name" : Str), "parameters", "contexts", "cells", "definitions", "handlers", "effects", "view"], Small 254 3 (.str x) := fun x hx => (sm_strs (ks x hx)).mono (by omega) (by omega)
  refine small_dict (c := 254) (k := 3) (n := 8) (fun p hp => ?_) (Nat.le_refl _)
  simp only [List.mem_cons, List.not_mem_nil, or_false] at hp
  rcases hp with rfl | rfl | rfl | rfl | rfl | rfl | rfl | rfl
  · exact ⟨kk _ (by simp), (sm_str h1).mono (by omega) (by omega)⟩
  · exact ⟨kk _ (by simp), e0⟩
  · exact ⟨kk _ (by simp), e0⟩
  · exact ⟨kk _ (by simp), cells⟩
  · exact ⟨kk _ (by simp), e0⟩
  · exact ⟨kk _ (by simp), e0⟩
  · exact ⟨kk _ (by simp), e0⟩
  · exact ⟨kk _ (by simp), e0⟩
theorem sm_pg {p : Pg} (g : GoodP p) : Small 65618 7 (dPg p) := by
  have st : Small 838 6 (.list (p.st.map dStore)) := by
    refine small_list (c := 207) (k := 5) (n := 4) (fun d hd => ?_) (by rw [List.length_map]; exact g.sl)
    obtain ⟨s, hs, rfl⟩ := List.mem_map.mp hd
    obtain ⟨g1, _, _, g4⟩ := g.sd s hs
    refine small_tup (c := 100) (k := 4) (n := 2) (fun d hd => ?_) (Nat.le_refl _)
    rcases List.mem_cons.mp hd with rfl | hd
    · exact (sm_str g4).mono (by omega) (by omega)
    · rw [List.mem_singleton.mp hd]
      exact g1
  have cs : Small 16402 5 (.list (p.cs.map dComp)) := by
    refine small_list (c := 4098) (k := 4) (n := 4) (fun d hd => ?_) (by rw [List.length_map]; exact g.cl)
    obtain ⟨c, hc, rfl⟩ := List.mem_map.mp hd
    exact sm_comp (g.cn c hc) (g.ce c hc)
  refine small_dict (c := 16402) (k := 6) (n := 2) (fun q hq => ?_) (Nat.le_refl _)
  rcases List.mem_cons.mp hq with rfl | hq
  · exact ⟨(sm_strs (by decide +kernel)).mono (by omega) (by omega), st.mono (by omega) (by omega)⟩
  · rw [List.mem_singleton.mp hq]
    exact ⟨(sm_strs (by decide +kernel)).mono (by omega) (by omega), cs.mono (by omega) (by omega)⟩
theorem sm_both {b n : Pg} (gb : GoodP b) (gn : GoodP n) : Small 140000 8 (.tuple [.dict (presD b), dPg n]) := by
  refine (small_tup (c := 65618) (k := 7) (n := 2) (fun d hd => ?_) (Nat.le_refl _)).mono (by omega) (by omega)
  rcases List.mem_cons.mp hd with rfl | hd
  · exact (sm_pres gb).mono (by omega) (by omega)
  · rw [List.mem_singleton.mp hd]
    exact sm_pg gn
def itemsD (kvs : List (PyData × PyData)) : PyData := .list (kvs.map fun p => .tuple [p.1, p.2])
theorem lkp_pres (b : Pg) (nm : Str) : lkp (presD b) (.inr nm) = if nm ∈ b.st.map (·.1) then some (keptL nm) else none := by
  unfold presD
  induction b.st with
  | nil => rfl
  | cons s st ih =>
    have e : lkp ((s :: st).map fun s => (PyData.str s.1, keptL s.1)) (.inr nm) = if keyB (.str s.1) (.inr nm) = true then some (keptL s.1) else lkp (st.map fun s => (PyData.str s.1, keptL s.1)) (.inr nm) := rfl
    rw [e, ih]
    by_cases q : s.1 = nm
    · subst q
      rw [if_pos (by show decide (s.1 = s.1) = true; simp), if_pos (by simp)]
    · rw [if_neg (by show ¬ decide (s.1 = nm) = true; simpa using q)]
      by_cases m : nm ∈ st.map (·.1)
      · rw [if_pos m, if_pos (by rw [List.map_cons]; exact List.mem_cons_of_mem _ m)]
      · rw [if_neg m, if_neg (by
          rw [List.map_cons]
          intro z
          rcases List.mem_cons.mp z with z | z
          · exact q z.symm
          · exact m z)]
theorem sm_items {b n : Pg} (gb : GoodP b) (gn : GoodP n) : Small 1000 6 (itemsD (keptD (presD b) n.st)) := by
  refine (small_list (c := 207) (k := 5) (n := 4) (fun d hd => ?_) (by unfold keptD; rw [List.length_map, List.length_map]; exact gn.sl)).mono (by omega) (by omega)
  obtain ⟨q, hq, rfl⟩ := List.mem_map.mp hd
  obtain ⟨s, hs, rfl⟩ := List.mem_map.mp hq
  obtain ⟨g1, _, _, g4⟩ := gn.sd s hs
  refine small_tup (c := 100) (k := 4) (n := 2) (fun d hd => ?_) (Nat.le_refl _)
  rcases List.mem_cons.mp hd with rfl | hd
  · exact (sm_str g4).mono (by omega) (by omega)
  · rw [List.mem_singleton.mp hd]
    show Small 100 4 ((lkp (presD b) (.inr s.1)).getD s.2)
    rw [lkp_pres]
    by_cases m : s.1 ∈ b.st.map (·.1)
    · rw [if_pos m]
      exact (sm_kept g4).mono (by omega) (by omega)
    · rw [if_neg m]
      exact g1
end VL

set_option Elab.async false
set_option linter.all false
set_option maxRecDepth 100000
set_option maxHeartbeats 4000000

namespace VL
open PySem PySem.Spec PyProof.Rows L2
theorem keys_of : ∀ {ks : List (Key × V)} {st : List (Str × PyData)}, (ks.map fun p => enK p.1) = (st.map fun s => PyData.str s.1) → ks.map (·.1) = st.map fun s => (Sum.inr s.1 : Key)
  | [], [], _ => rfl
  | p :: ks, s :: st, h => by
    rw [List.map_cons, List.map_cons] at h
    injection h with h1 h2
    have e : p.1 = .inr s.1 := enK_inj h1
    rw [List.map_cons, List.map_cons, keys_of h2, e]
  | [], s :: st, h => nomatch h
  | p :: ks, [], h => nomatch h
theorem keys_in {ks : List (Key × V)} {st : List (Str × PyData)} (h : ks.map (·.1) = st.map fun s => (Sum.inr s.1 : Key)) (nm : Str) : (valV ks (.inr nm)).isSome = decide (nm ∈ st.map (·.1)) := by
  by_cases m : nm ∈ st.map (·.1)
  · rw [decide_eq_true m]
    refine valV_in2 ?_
    rw [h]
    obtain ⟨s, hs, e⟩ := List.mem_map.mp m
    exact List.mem_map.mpr ⟨s, hs, by rw [e]⟩
  · rw [decide_eq_false m, valV_out (by
      rw [h]
      intro z
      obtain ⟨s, hs, e⟩ := List.mem_map.mp z
      exact m (List.mem_map.mpr ⟨s, hs, Sum.inr.inj e⟩))]
    rfl
theorem zip_pres {ks : List (Key × V)} {b : Pg} (h : ks.map (·.1) = b.st.map fun s => (Sum.inr s.1 : Key)) : zipK ks (b.st.map fun s => keptL s.1) = presD b := by
  have := zip_vals (ks := ks) (st := b.st.map fun s => (s.1, keptL s.1)) (by rw [h, List.map_map]; rfl)
  rw [List.map_map, List.map_map] at this
  exact this
theorem zip_due {ks : List (Key × V)} {b n : Pg} (h : ks.map (·.1) = n.st.map fun s => (Sum.inr s.1 : Key)) : zipK ks (n.st.map fun s => (lkp (presD b) (.inr s.1)).getD s.2) = keptD (presD b) n.st := by
  have := zip_vals (ks := ks) (st := n.st.map fun s => (s.1, (lkp (presD b) (.inr s.1)).getD s.2)) (by rw [h, List.map_map]; rfl)
  rw [List.map_map, List.map_map] at this
  exact this
theorem nd_inr {st : List (Str × PyData)} (h : (st.map (·.1)).Nodup) : (st.map fun s => (Sum.inr s.1 : Key)).Nodup := by
  rw [show (st.map fun s => (Sum.inr s.1 : Key)) = (st.map (·.1)).map Sum.inr by rw [List.map_map]; rfl]
  exact h.map _ (fun a b h e => h (Sum.inr.inj e))
theorem new_key {st : List (Str × PyData)} (nd : (st.map (·.1)).Nodup) {ks : List (Key × V)} {i : Nat} {s : Str × PyData} (hs : st[i]? = some s) (h : ks.map (·.1) = (st.take i).map fun s => (Sum.inr s.1 : Key)) : valV ks (.inr s.1) = none := valV_out (by
  rw [h]
  intro z
  obtain ⟨s0, hs0, e⟩ := List.mem_map.mp z
  have tk : st.take (i + 1) = st.take i ++ [s] := by rw [List.take_add_one, hs]; rfl
  have nd2 : ((st.take (i + 1)).map (·.1)).Nodup := by
    rw [List.map_take]
    exact nd.sublist (List.take_sublist _ _)
  rw [tk, List.map_append] at nd2
  exact (List.nodup_append.mp nd2).2.2 s0.1 (List.mem_map.mpr ⟨s0, hs0, rfl⟩) _ List.mem_cons_self (Sum.inr.inj e))
def KpA (H : Hp) (q : Key × V) (s : Str × PyData) : Prop := ∃ p, q.2 = .ref p ∧ H p = some (.lst [.str "kept", .str s.1])
theorem kp_all {H : Hp} : ∀ {qs : List (Key × V)} {st : List (Str × PyData)}, Paired (KpA H) qs st → DqAll H (qs.map (·.2)) (st.map fun s => keptL s.1)
  | _, _, .nil => .nil
  | _, _, .cons (a := q) (b := s) (l₁ := qs) (l₂ := st) ⟨p, e, h⟩ r => by
    refine .cons ?_ (kp_all r)
    show Dq H q.2 (keptL s.1)
    rw [e]
    exact .lst h (.cons (.str _) (.cons (.str _) .nil))
def DuA (fn : List Str) (H : Hp) (q r : Key × V) : Prop := ∃ nm, r.1 = .inr nm ∧ ((nm ∈ fn ∧ ∃ p, q.2 = .ref p ∧ H p = some (.lst [.str "kept", .str nm])) ∨ (nm ∉ fn ∧ q.2 = r.2))
theorem due_all {b : Pg} {H : Hp} : ∀ {qs rs : List (Key × V)} {st : List (Str × PyData)}, Paired (DuA (b.st.map (·.1)) H) qs rs → rs.map (·.1) = st.map (fun s => (Sum.inr s.1 : Key)) → DqAll H (rs.map (·.2)) (st.map (·.2)) → DqAll H (qs.map (·.2)) (st.map fun s => (lkp (presD b) (.inr s.1)).getD s.2)
  | _, _, [], .nil, _, _ => .nil
  | _, _, s :: st, .cons (a := q) (b := r) (l₁ := qs) (l₂ := rs) ⟨nm, e, h⟩ p, hk, .cons a1 a2 => by
    rw [List.map_cons, List.map_cons] at hk
    injection hk with k1 k2
    rw [e] at k1
    have en : nm = s.1 := Sum.inr.inj k1
    subst en
    refine .cons ?_ (due_all p k2 a2)
    show Dq H q.2 ((lkp (presD b) (.inr s.1)).getD s.2)
    rw [lkp_pres]
    rcases h with ⟨m, p, e1, e2⟩ | ⟨m, e1⟩
    · rw [if_pos m, e1]
      exact .lst e2 (.cons (.str _) (.cons (.str _) .nil))
    · rw [if_neg m, e1]
      exact a1
  | _, _, s :: st, .nil, hk, _ => nomatch hk
  | _, _, [], .cons _ _, hk, _ => nomatch hk
theorem paired_mq {α β : Type} {F G : α → β → Prop} (h : ∀ a b, F a b → G a b) : ∀ {l₁ : List α} {l₂ : List β}, Paired F l₁ l₂ → Paired G l₁ l₂
  | _, _, .nil => .nil
  | _, _, .cons g p => .cons (h _ _ g) (paired_mq h p)
theorem paired_aq {α β : Type} {G : α → β → Prop} : ∀ {l₁ m₁ : List α} {l₂ m₂ : List β}, Paired G l₁ l₂ → Paired G m₁ m₂ → Paired G (l₁ ++ m₁) (l₂ ++ m₂)
  | _, _, _, _, .nil, q => q
  | _, _, _, _, .cons g p, q => .cons g (paired_aq p q)
/-- no list -/
def NL (H : Hp) (v : V) : Prop := v = .non ∨ (∃ b, v = .bl b) ∨ (∃ i, v = .int i) ∨ (∃ x, v = .str x) ∨ ∃ l m, v = .ref l ∧ H l = some (.dK m)
theorem NL.ty {K : PySem.W.Frag} {H : Hp} {v : V} (h : NL H v) : ∃ t : String, TyX K H v (.type t) ∧ kitB t "list" = some false := by
  rcases h with rfl | ⟨b, rfl⟩ | ⟨i, rfl⟩ | ⟨x, rfl⟩ | ⟨l, m, rfl, h⟩
  · exact ⟨"NoneType", .base .non, by decide +kernel⟩
  · exact ⟨"bool", .base (.bl b), by decide +kernel⟩
  · exact ⟨"int", .base (.int i), by decide +kernel⟩
  · exact ⟨"str", .base (.str x), by decide +kernel⟩
  · exact ⟨"dict", .base (.dK h), by decide +kernel⟩
/-- a list that has come since He, or no list -/
def LsA (He H : Hp) (Lk : Addr) (m : Nat) (v : V) : Prop := (∃ l zs, v = .ref l ∧ He l = none ∧ l ≠ Lk ∧ H l = some (.lst zs) ∧ zs.length ≤ m) ∨ NL H v
theorem LsA.put {He H : Hp} {Lk l : Addr} {m : Nat} {v x : V} {zs : List V} (h : LsA He H Lk m v) (hl : H l = some (.lst zs)) (hz : zs.length ≤ m) : LsA He (upd H l (.lst (zs ++ [x]))) Lk (m + 1) v := by
  rcases h with ⟨l', ws, e, h0, h1, h2, h3⟩ | h
  · by_cases q : l' = l
    · subst q
      exact .inl ⟨l', zs ++ [x], e, h0, h1, upd_same, by rw [List.length_append]; show zs.length + 1 ≤ m + 1; omega⟩
    · exact .inl ⟨l', ws, e, h0, h1, by rw [upd_ne q]; exact h2, by omega⟩
  · refine .inr ?_
    rcases h with h | h | h | h | ⟨a, mm, e, h⟩
    · exact .inl h
    · exact .inr (.inl h)
    · exact .inr (.inr (.inl h))
    · exact .inr (.inr (.inr (.inl h)))
    · exact .inr (.inr (.inr (.inr ⟨a, mm, e, by rw [upd_ne (ne_of h hl (by simp))]; exact h⟩)))
theorem LsA.of {He H1 H : Hp} {Lk : Addr} {v : V} {d : PyData} (h : Dq (newer He H1) v d) (c : cpy d = true) (s : Same H1 H) (n : H1 Lk = none) : LsA He H Lk 1000 v := by
  cases h with
  | non => exact .inr (.inl rfl)
  | bl b => exact .inr (.inr (.inl ⟨b, rfl⟩))
  | int i => exact .inr (.inr (.inr (.inl ⟨i, rfl⟩)))
  | str x => exact .inr (.inr (.inr (.inr (.inl ⟨x, rfl⟩))))
  | @lst a xs ds h1 h2 =>
    obtain ⟨z1, z2⟩ := newer_some h1
    have c' : ds.length ≤ 1000 ∧ cpyAll ds = true := by simpa [cpy] using c
    exact .inl ⟨a, xs, rfl, z1, ne_of_none z2 n, s _ _ z2, by rw [h2.len]; exact c'.1⟩
  | tup h1 h2 => exact nomatch c
  | dic h1 _ h2 => exact .inr (.inr (.inr (.inr (.inr ⟨_, _, rfl, s _ _ (newer_some h1).2⟩))))
section
variable {P : Program} {w : World} {K : PySem.W.Frag} {mg : Str → Option Value} {base : Heap} {C : Ad}
theorem sc_law : FnScope ["script", "rows", "before", "first", "now", "values", "j", "name", "cells", "due", "told", "present", "kept", "again"] ["script"] (defScope s_law) := ⟨rfl, rfl, rfl, by decide +kernel, rfl, by decide +kernel, by decide +kernel⟩
theorem ok_law {f : Addr} {fd : FuncData} (F : Fun K "law" "law" s_law f fd) (T : Txt K w mg C) : FnG P w K mg base 9 f fd ["script"] (spLaw K) := by
  have G_law_rows : Cal P w K mg base 1 "_law_rows" (spRows K) := ok_rows T
  have G_law_program : Cal P w K mg base 2 "_law_program" spProg := ok_prog T
  have G_law_cells : Cal P w K mg base 1 "_law_cells" spCells := ok_cells T
  have Gfits : Cal P w K mg base 2 "fits" spFits := ok_fits T
  have Gkept_stores : Cal P w K mg base 7 "kept_stores" spKept := ok_kept T
  refine fnG_of F sc_law (fun vs H Q E h => ?_) (fun cdv A outer s H vs Q E gd hr h => ?_)
  · obtain ⟨a, ns, rfl, _⟩ := h
    rfl
  · obtain ⟨sa, ns, rfl, hS, hlen, k⟩ := h
    have hu := hu_of hr
    have big : 1000000 < sizeLine := by decide
    refine ⟨_, (pss_cons (ps_set (i := 1) sc_law.nd rfl (Or.inl rfl) (pe_c G_law_rows hr (by decide) (by rfl) (pa_cons (pv 0) (pa_cons pe_int pa_nil)))) (pss_cons (ps_asg (pe_c G_law_program hr (by decide) (by rfl) (pa_cons (pv 1) (pa_cons pe_int pa_nil))) (pg_tup rfl (pgs_cons (pg_name (i := 2) sc_law.nd rfl (Or.inl rfl)) (pgs_cons (pg_name (i := 3) sc_law.nd rfl (Or.inl rfl)) pgs_nil)))) (pss_cons (ps_asg (pe_c G_law_program hr (by decide) (by rfl) (pa_cons (pv 1) (pa_cons pe_int pa_nil))) (pg_tup rfl (pgs_cons (pg_name (i := 4) sc_law.nd rfl (Or.inl rfl)) (pgs_cons (pg_name (i := 5) sc_law.nd rfl (Or.inl rfl)) pgs_nil)))) (C8.pss_cut (ps_for PassesOwn.never rfl (pi_range1 (by rfl) T.z_range (pa_cons pe_int pa_nil)) (pg_name (i := 6) sc_law.nd rfl (Or.inl rfl)) (pss_cons (ps_set (i := 7) sc_law.nd rfl (Or.inl rfl) (pe_op op_add_str pe_str (pe_callTy call_str_int (by rfl) T.z_str (by decide +kernel) (pa_cons (pv 6) pa_nil)))) (C8.pss_cut (ps_set (i := 8) sc_law.nd rfl (Or.inl rfl) (pe_c G_law_cells hr (by decide) (by rfl) (pa_cons (pv 4) (pa_cons (pv 7) pa_nil)))) (C8.pss_cut (ps_set (i := 9) sc_law.nd rfl (Or.inl rfl) (pe_and (pe_cmp (pc_notN (pv 8))) (pe_one (pe_cmpR (op_eqD hr.units) (pv 8) (pe_c G_law_cells hr (by decide) (by rfl) (pa_cons (pv 2) (pa_cons (pv 7) pa_nil))) (nomark _))))) (pss_cons (ps_set (i := 10) sc_law.nd rfl (Or.inl rfl) (pe_c Gfits hr (by decide) (by rfl) (pa_cons (pv 2) (pa_cons (pv 4) (pa_cons (pv 7) pa_nil))))) (pss_one (ps_if (PW.pt (pw_or (pt_not (pt_val (pe_callB call_isi (by rfl) T.z_isinstance (by decide +kernel) (pa_cons (pv 10) (pa_cons (pe_bltn (v := .ty "bool") (by rfl) T.z_bool (by decide +kernel) rfl) pa_nil))))) (pw_or (pt_cmpR op_ne (pv 10) (pv 9) (nomark _)) (pw_or1 (pt_cmpR op_ne (pe_c Gfits hr (by decide) (by rfl) (pa_cons (pv 4) (pa_cons (pv 4) (pa_cons (pv 7) pa_nil)))) (pe_cmp (pc_notN (pv 8))) (nomark _)))))) (pss_one (ps_ret pe_bl)) pss_nil))))))) (pss_cons (ps_set (i := 11) sc_law.nd rfl (Or.inl rfl) pe_dnewK) (C8.pss_cut (ps_lock (ps_for PassesOwn.never rfl (pi_keys (pv 3)) (pg_name (i := 7) sc_law.nd rfl (Or.inl rfl)) (pss_one (ps_dput hu (pv 11) (pv 7) (pe_lst (pa_cons pe_str (pa_cons (pv 7) pa_nil))) rfl)))) (pss_cons (ps_set (i := 12) sc_law.nd rfl (Or.inl rfl) (pe_callB (call_repQ gd hr.units) (by rfl) T.z_repr (by decide +kernel) (pa_cons (pe_tup (pa_cons (pv 11) (pa_cons (pv 4) pa_nil))) pa_nil))) (pss_cons (ps_set (i := 9) sc_law.nd rfl (Or.inl rfl) pe_dnewK) (C8.pss_cut (ps_lock (ps_for PassesOwn.never rfl (pi_keys (pv 5)) (pg_name (i := 7) sc_law.nd rfl (Or.inl rfl)) (pss_one (ps_dput hu (pv 9) (pv 7) (pe_ifExp (pt_cmp (pc_din hu (pv 7) (pv 3))) (pe_lst (pa_cons pe_str (pa_cons (pv 7) pa_nil))) (pe_dget hu (pv 5) (pv 7) (fun _ _ => rfl))) rfl)))) (pss_cons (ps_set (i := 10) sc_law.nd rfl (Or.inl rfl) (pe_c Gkept_stores hr (by decide) (by rfl) (pa_cons (pv 11) (pa_cons (pv 4) pa_nil)))) (pss_cons (ps_if (PW.pt (pw_or (pt_not (pt_val (pe_callB call_isi (by rfl) T.z_isinstance (by decide +kernel) (pa_cons (pv 10) (pa_cons (pe_bltn (v := .ty "dict") (by rfl) T.z_dict (by decide +kernel) rfl) pa_nil))))) (pw_or1 (pt_cmpR op_ne (pe_callB (call_repQ gd hr.units) (by rfl) T.z_repr (by decide +kernel) (pa_cons (LiI.pe_listItems rfl (pv 10) (by rfl) T.z_list (by decide +kernel)) pa_nil)) (pe_callB (call_repQ gd hr.units) (by rfl) T.z_repr (by decide +kernel) (pa_cons (LiI.pe_listItems rfl (pv 9) (by rfl) T.z_list (by decide +kernel)) pa_nil)) (nomark _))))) (pss_one (ps_ret pe_bl)) pss_nil) (pss_cons (ps_if (pt_cmpR op_ne (pe_callB (call_repQ gd hr.units) (by rfl) T.z_repr (by decide +kernel) (pa_cons (pe_tup (pa_cons (pv 11) (pa_cons (pv 4) pa_nil))) pa_nil)) (pv 12) (nomark _)) (pss_one (ps_ret pe_bl)) pss_nil) (C8.pss_cut (ps_for PassesOwn.never rfl (pi_list (pe_callTy (call_listD rfl) (by rfl) T.z_list (by decide +kernel) (pa_cons (pv 10) pa_nil))) (pg_name (i := 7) sc_law.nd rfl (Or.inl rfl)) (pss_one (ps_if (pt_val (pe_callB call_isi (by rfl) T.z_isinstance (by decide +kernel) (pa_cons (pe_dget hu (pv 10) (pv 7) (fun _ _ => rfl)) (pa_cons (pe_bltn (v := .ty "list") (by rfl) T.z_list (by decide +kernel) rfl) pa_nil)))) (pss_one (ps_expr (pe_bm PySem.F.plainAttrs_list PySem.F.slot_list_append PySem.F.type_list_append mt_append (pe_dget hu (pv 10) (pv 7) (fun _ _ => rfl)) (pa_cons pe_str pa_nil)))) pss_nil))) (pss_cons (ps_set (i := 13) sc_law.nd rfl (Or.inl rfl) (pe_c Gkept_stores hr (by decide) (by rfl) (pa_cons (pv 11) (pa_cons (pv 4) pa_nil)))) (pss_one (ps_ret (pe_cmpR op_eq (pe_callB (call_repQ gd hr.units) (by rfl) T.z_repr (by decide +kernel) (pa_cons (LiI.pe_listItems rfl (pv 13) (by rfl) T.z_list (by decide +kernel)) pa_nil)) (pe_callB (call_repQ gd hr.units) (by rfl) T.z_repr (by decide +kernel) (pa_cons (LiI.pe_listItems rfl (pv 9) (by rfl) T.z_list (by decide +kernel)) pa_nil)) (nomark _)))))))))))))))))), ?_⟩
    refine ⟨_, rfl, sa, ns, 60, rfl, hS, hlen, by decide, fun rl zs H1 s1 hrl hr1 zl => ?_⟩
    refine ⟨_, rfl, rl, zs, 0, rfl, hr1, zl, by decide, by decide, fun t1 vb vf b Ha sa1 ht1n ht1 db df gb => ?_⟩
    refine ⟨_, _, rfl, SqT.of ht1, rfl, _, _, rfl, _, _, rfl, rfl, ?_⟩
    refine ⟨_, rfl, rl, zs, 30, rfl, sa1 _ _ hr1, zl, by decide, by decide, fun t2 vn vv n Hb sab ht2n ht2 dn dv gn => ?_⟩
    refine ⟨_, _, rfl, SqT.of ht2, rfl, _, _, rfl, _, _, rfl, rfl, ?_⟩
    have db := db.same sab
    have df := df.same sab
    refine ⟨fun σ H' => Same Hb H' ∧ ∃ y6 y7 y8 y9 y10 : Option V, σ = [some (.ref sa), some (.ref rl), some vb, some vf, some vn, some vv, y6, y7, y8, y9, y10, none, none, none], ?_, ?_⟩
    · refine ⟨_, rfl, by decide, by decide, ?_⟩
      refine for_range (lo := 0) (n := (6 : Int).toNat) (fun i σ H' => Same Hb H' ∧ ∃ y6 y7 y8 y9 y10 : Option V, σ = [some (.ref sa), some (.ref rl), some vb, some vf, some vn, some vv, y6, y7, y8, y9, y10, none, none, none]) ⟨Same.refl _, _, _, _, _, _, rfl⟩ ?_ (fun σ H' h => h)
      rintro i σ H2 hi ⟨s2, y6, y7, y8, y9, y10, rfl⟩
      have hi' : i < 6 := hi
      have nl := num_len2 (i := 0 + (i : Int)) (by omega) (by omega)
      refine ⟨_, rfl, _, rfl, log90 (by omega) (by omega), _, _, rfl, rfl, (by show 1 + (Str.ofString (toString (0 + (i : Int)))).length ≤ sizeLine; omega), ?_⟩
      refine ⟨fun σ H' => Same Hb H' ∧ ∃ y8 : V, ((findC n ("C" ++ Str.ofString (toString (0 + (i : Int)))) = none ∧ y8 = .non) ∨ ∃ c l, findC n ("C" ++ Str.ofString (toString (0 + (i : Int)))) = some c ∧ y8 = .ref l ∧ H' l = some (.lst ((c.2.map (·.1)).map V.str))) ∧ σ = [some (.ref sa), some (.ref rl), some vb, some vf, some vn, some vv, some (.int (0 + (i : Int))), some (.str ("C" ++ Str.ofString (toString (0 + (i : Int))))), some y8, y9, y10, none, none, none], ?_, ?_⟩
      · refine ⟨_, rfl, _, rfl, vn, _, n, rfl, dn.same s2, gn, fun f1 => ⟨s2, _, .inl ⟨f1, rfl⟩, rfl⟩, fun c l H3 f1 s3 h0 h3 => ⟨Same.trans s2 s3, _, .inr ⟨c, l, f1, rfl, h3⟩, rfl⟩⟩
      rintro σ H3 ⟨s3, y8, hy8, rfl⟩
      generalize ("C" : Str) ++ Str.ofString (toString (0 + (i : Int))) = nm at *
      refine ⟨fun σ H' => Same Hb H' ∧ σ = [some (.ref sa), some (.ref rl), some vb, some vf, some vn, some vv, some (.int (0 + (i : Int))), some (.str nm), some y8, some (.bl (fitB b n nm)), y10, none, none, none], ?_, ?_⟩
      · rcases hy8 with ⟨f1, rfl⟩ | ⟨c, l, f1, rfl, hl⟩
        · refine ⟨_, rfl, false, rfl, iteF ?_⟩
          refine ⟨s3, ?_⟩
          have : fitB b n nm = false := by unfold fitB; rw [f1]; cases findC b nm <;> rfl
          rw [this]
          rfl
        · refine ⟨_, rfl, true, rfl, iteT ?_⟩
          have hc : c ∈ n.cs := List.mem_of_find?_eq_some f1
          have shc := shaped_strs (a := c.2.map (·.1)) (fun x hx => by
            obtain ⟨y, hy, rfl⟩ := List.mem_map.mp hx
            exact ((gn.ce c hc).2 y hy).1)
          refine ⟨_, rfl, _, rfl, _, rfl, vb, nm, b, rfl, db.same s3, gb, fun f2 => ?_, fun e l2 H4 f2 s4 h0 h4 => ?_⟩
          · refine ⟨.list ((c.2.map (·.1)).map PyData.str), .none, .lst (SqL.of hl) (dp_strs _), .non, shc, by decide +kernel, s3, ?_⟩
            have : fitB b n nm = false := by unfold fitB; rw [f2]
            rw [this]
            rfl
          · have he : e ∈ b.cs := List.mem_of_find?_eq_some f2
            have she := shaped_strs (a := e.2.map (·.1)) (fun x hx => by
              obtain ⟨y, hy, rfl⟩ := List.mem_map.mp hx
              exact ((gb.ce e he).2 y hy).1)
            refine ⟨.list ((c.2.map (·.1)).map PyData.str), .list ((e.2.map (·.1)).map PyData.str), .lst (SqL.of (s4 _ _ hl)) (dp_strs _), .lst (SqL.of h4) (dp_strs _), shc, she, Same.trans s3 s4, ?_⟩
            have : fitB b n nm = PyData.eqv (.list ((c.2.map (·.1)).map PyData.str)) (.list ((e.2.map (·.1)).map PyData.str)) := by
              unfold fitB
              rw [f2, f1, eqv_strs]
              exact decide_eq_decide.mpr ⟨fun z => z.symm, fun z => z.symm⟩
            rw [this]
            rfl
      · rintro σ H4 ⟨s4, rfl⟩
        have fnn : fitB n n nm = !decide (y8 = V.non) := by
          unfold fitB
          rcases hy8 with ⟨f1, rfl⟩ | ⟨c, l, f1, rfl, hl⟩
          · rw [f1]; rfl
          · rw [f1]; simp
        refine ⟨_, rfl, _, rfl, _, rfl, vb, vn, nm, b, n, rfl, db.same s4, dn.same s4, gb, gn, fun H5 s5 => ?_⟩
        refine ⟨_, rfl, .bl (fitB b n nm), .ty "bool", _, _, true, rfl, .ty _, .base (.bl _), kit_ty (by decide +kernel), true, rfl, ite2 (fun c => nomatch c) (fun _ => ?_)⟩
        refine ⟨_, rfl, _, rfl, rfl, _, rfl, ite2 (fun c => absurd c (by simp)) (fun _ => ?_)⟩
        refine ⟨_, rfl, _, rfl, _, rfl, vn, vn, nm, n, n, rfl, dn.same (Same.trans s4 s5), dn.same (Same.trans s4 s5), gn, gn, fun H6 s6 => ⟨_, rfl, rfl, _, rfl, ite2 (fun c => absurd c ?_) (fun _ => ⟨Same.trans (Same.trans s4 s5) s6, _, _, _, _, _, rfl⟩)⟩⟩
        show ¬ (!decide (V.bl (fitB n n nm) = V.bl (!decide (y8 = V.non)))) = true
        rw [fnn]
        simp
    · rintro σ Hc ⟨sbc, y6, y7, y8, y9, y10, rfl⟩
      have db := db.same sbc
      have df := df.same sbc
      have dn := dn.same sbc
      have dv := dv.same sbc
      obtain ⟨fa, fks, rfl, hfa, fnd, fkk, fda, fz⟩ := dq_dict2 df
      obtain ⟨va, vks, rfl, hva, vnd, vkk, vda, vz⟩ := dq_dict2 dv
      have fkeys : fks.map (·.1) = b.st.map fun s => (Sum.inr s.1 : Key) := keys_of (by rw [fkk]; unfold valsD; rw [List.map_map]; rfl)
      have vkeys : vks.map (·.1) = n.st.map fun s => (Sum.inr s.1 : Key) := keys_of (by rw [vkk]; unfold valsD; rw [List.map_map]; rfl)
      have vdat : DqAll Hc (vks.map (·.2)) (n.st.map (·.2)) := by
        have : (valsD n).map (·.2) = n.st.map (·.2) := by unfold valsD; rw [List.map_map]; rfl
        rw [← this]
        exact vda
      have fl : fks.length = b.st.length := by have := congrArg List.length fkeys; rwa [List.length_map, List.length_map] at this
      have vl : vks.length = n.st.length := by have := congrArg List.length vkeys; rwa [List.length_map, List.length_map] at this
      have bl4 := gb.sl
      have nl4 := gn.sl
      intro Pr hPr
      have sPr := Sm.new (o := .dK []) hPr
      have hfaP := sPr _ _ hfa
      have nPf : Pr ≠ fa := (ne_of_none hfa hPr).symm
      refine ⟨fun σ H' => ∃ (pks : List (Key × V)) (y7 : Option V), Same Hc H' ∧ H' Pr = some (.dK pks) ∧ pks.map (·.1) = b.st.map (fun s => (Sum.inr s.1 : Key)) ∧ DqAll H' (pks.map (·.2)) (b.st.map fun s => keptL s.1) ∧
        σ = [some (.ref sa), some (.ref rl), some vb, some (.ref fa), some vn, some (.ref va), y6, y7, y8, y9, y10, some (.ref Pr), none, none], ?_, ?_⟩
      · refine ⟨fa, _, hfaP, trivial, fun od => ?_⟩
        have hlk : upd (upd Hc Pr (.dK [])) fa (.frz od (.dK fks)) fa = some (.frz od (.dK fks)) := upd_same
        refine ⟨_, rfl, fa, od, rfl, .inl ⟨_, hlk, ?_⟩⟩
        refine for_it (walk_keys (d := fa) (o := od) (kvs := fks)) (fun i σ H' => ∃ (pks : List (Key × V)) (y7 : Option V), (∀ x o, Hc x = some o → x ≠ fa → H' x = some o) ∧ H' fa = some (.frz od (.dK fks)) ∧ H' Pr = some (.dK pks) ∧ pks.map (·.1) = (b.st.take i).map (fun s => (Sum.inr s.1 : Key)) ∧ Paired (KpA H') pks (b.st.take i) ∧
          σ = [some (.ref sa), some (.ref rl), some vb, some (.ref fa), some vn, some (.ref va), y6, y7, y8, y9, y10, some (.ref Pr), none, none])
          ⟨[], _, fun x o e ne => by rw [upd_ne ne]; exact sPr _ _ e, hlk, by rw [upd_ne nPf]; exact upd_same, rfl, .nil, rfl⟩ (fun i σ H' _ ⟨_, _, _, z, _⟩ => z) ?_ ?_
        · rintro i x σ H2 H3 hi ⟨pks, y7, kp, hf, hP, kk, pr, rfl⟩ ⟨rfl, kx, v, hkv, rfl⟩
          have hi' : i < b.st.length := by omega
          have hs := List.getElem?_eq_getElem hi'
          have ek : kx = .inr b.st[i].1 := by
            have := congrArg (fun l => l[i]?) fkeys
            simp only [List.getElem?_map, hkv, hs, Option.map_some] at this
            exact Option.some.inj this
          subst ek
          have tk : b.st.take (i + 1) = b.st.take i ++ [b.st[i]] := by rw [List.take_add_one, hs]; rfl
          have vnw := new_key gb.sn hs kk
          have pl : pks.length = i := by
            have := congrArg List.length kk
            rw [List.length_map, List.length_map, List.length_take] at this
            omega
          refine ⟨_, rfl, by show 2 ≤ sizeLine; decide, fun q hq => ⟨_, rfl, _, rfl, Pr, _, rfl, DPut.k (k := .inr b.st[i].1) (Sm.new hq _ _ hP) (by omega), pks ++ [(.inr b.st[i].1, .ref q)], _, fun x o e ne => ?_, ?_, ?_, ?_, ?_, rfl⟩⟩
          · rw [upd_ne (ne_of_none e hPr)]
            exact Sm.new hq _ _ (kp _ _ e ne)
          · rw [upd_ne nPf.symm]
            exact Sm.new hq _ _ hf
          · rw [upd_same, putK_nw vnw]
          · rw [tk, List.map_append, List.map_append, kk]
            rfl
          · rw [tk]
            have nq : q ≠ Pr := (ne_of_none hP hq).symm
            refine paired_aq (paired_mq (fun a s ⟨p, e1, e2⟩ => ⟨p, e1, ?_⟩) pr) (.cons ⟨q, rfl, by rw [upd_ne nq]; exact upd_same⟩ .nil)
            rw [upd_ne (ne_of e2 hP (by simp))]
            exact Sm.new hq _ _ e2
        · rintro σ H2 ⟨pks, y7, kp, hf, hP, kk, pr, rfl⟩
          rw [fl, List.take_length] at kk pr
          refine ⟨hf, pks, y7, fun x o e => ?_, by rw [upd_ne nPf]; exact hP, kk, kp_all (paired_mq (fun a s ⟨p, e1, e2⟩ => ⟨p, e1, by rw [upd_ne (ne_of e2 hf (by simp))]; exact e2⟩) pr), rfl⟩
          by_cases q : x = fa
          · subst q
            rw [upd_same, ← hfa, e]
          · rw [upd_ne q]
            exact kp _ _ e q
      · rintro σ Hd ⟨pks, y7, scd, hP, pkk, pda, rfl⟩
        have db := db.same scd
        have dn := dn.same scd
        have dpres : Dq Hd (.ref Pr) (.dict (presD b)) := by
          rw [← zip_pres pkk]
          exact .dic hP (by rw [pkk]; exact nd_inr gb.sn) pda
        have sm := sm_both gb gn
        have smi := sm_items gb gn
        obtain ⟨TX, hTX⟩ : ∃ TX, TX = PyData.shown (.tuple [.dict (presD b), dPg n]) := ⟨_, rfl⟩
        obtain ⟨IX, hIX⟩ : ∃ IX, IX = PyData.shown (itemsD (keptD (presD b) n.st)) := ⟨_, rfl⟩
        refine ⟨_, rfl, _, rfl, by show 2 ≤ sizeLine; decide, fun t ht => ⟨t, .tuple [.dict (presD b), dPg n], rfl, .tup upd_same (.cons (dpres.same (Sm.new ht)) (.cons (dn.same (Sm.new ht)) .nil)), sm.sh, by have := sm.dp; omega, by have := sm.ln; omega, ?_⟩⟩
        rw [← hTX]
        have st1 := Sm.new (o := .tup [.ref Pr, vn]) ht
        generalize upd Hd t (.tup [.ref Pr, vn]) = Hk at st1 ⊢
        have dn := dn.same st1
        have dpres := dpres.same st1
        have sck := Same.trans scd st1
        have hvaK := sck _ _ hva
        have hfaK := sck _ _ hfa
        have vdatK := vdat.same sck
        intro Du hDu
        have sDu := Sm.new (o := .dK []) hDu
        have nDv : Du ≠ va := (ne_of_none hvaK hDu).symm
        refine ⟨fun σ H' => ∃ (dks : List (Key × V)) (y7 : Option V), Same Hk H' ∧ H' Du = some (.dK dks) ∧ dks.map (·.1) = n.st.map (fun s => (Sum.inr s.1 : Key)) ∧ DqAll H' (dks.map (·.2)) (n.st.map fun s => (lkp (presD b) (.inr s.1)).getD s.2) ∧
          σ = [some (.ref sa), some (.ref rl), some vb, some (.ref fa), some vn, some (.ref va), y6, y7, y8, some (.ref Du), y10, some (.ref Pr), some (.str TX), none], ?_, ?_⟩
        · refine ⟨va, _, sDu _ _ hvaK, trivial, fun od => ?_⟩
          have hlk : upd (upd Hk Du (.dK [])) va (.frz od (.dK vks)) va = some (.frz od (.dK vks)) := upd_same
          refine ⟨_, rfl, va, od, rfl, .inl ⟨_, hlk, ?_⟩⟩
          refine for_it (walk_keys (d := va) (o := od) (kvs := vks)) (fun i σ H' => ∃ (dks : List (Key × V)) (y7 : Option V), (∀ x o, Hk x = some o → x ≠ va → H' x = some o) ∧ H' va = some (.frz od (.dK vks)) ∧ H' Du = some (.dK dks) ∧ dks.map (·.1) = (n.st.take i).map (fun s => (Sum.inr s.1 : Key)) ∧ Paired (DuA (b.st.map (·.1)) H') dks (vks.take i) ∧
            σ = [some (.ref sa), some (.ref rl), some vb, some (.ref fa), some vn, some (.ref va), y6, y7, y8, some (.ref Du), y10, some (.ref Pr), some (.str TX), none])
            ⟨[], _, fun x o e ne => by rw [upd_ne ne]; exact sDu _ _ e, hlk, by rw [upd_ne nDv]; exact upd_same, rfl, .nil, rfl⟩ (fun i σ H' _ ⟨_, _, _, z, _⟩ => z) ?_ ?_
          · rintro i x σ H2 H3 hi ⟨dks, y7, kp, hf, hD, kk, pr, rfl⟩ ⟨rfl, kx, v, hkv, rfl⟩
            have hi' : i < n.st.length := by omega
            have hs := List.getElem?_eq_getElem hi'
            have ek : kx = .inr n.st[i].1 := by
              have := congrArg (fun l => l[i]?) vkeys
              simp only [List.getElem?_map, hkv, hs, Option.map_some] at this
              exact Option.some.inj this
            subst ek
            have tk : n.st.take (i + 1) = n.st.take i ++ [n.st[i]] := by rw [List.take_add_one, hs]; rfl
            have tk2 : vks.take (i + 1) = vks.take i ++ [(.inr n.st[i].1, v)] := by rw [List.take_add_one, hkv]; rfl
            have vnw := new_key gn.sn hs kk
            have pl : dks.length = i := by
              have := congrArg List.length kk
              rw [List.length_map, List.length_map, List.length_take] at this
              omega
            have dgf : DGet H3 fa (.str n.st[i].1) (valV fks (.inr n.st[i].1)) := by
              by_cases q : fa = va
              · have e1 : fks = vks := by
                  rw [q, hvaK] at hfaK
                  injection hfaK with z
                  injection z with z
                  exact z.symm
                rw [q, e1]
                exact dget_fz (k := .inr n.st[i].1) hf
              · exact DGet.k (k := .inr n.st[i].1) (kp _ _ hfaK q)
            refine ⟨_, rfl, _, rfl, fa, _, rfl, dgf, _, rfl, ?_⟩
            rw [keys_in fkeys]
            refine ite2 (fun c => ?_) (fun c => ?_)
            · have c' := of_decide_eq_true c
              refine ⟨_, rfl, by show 2 ≤ sizeLine; decide, fun q hq => ⟨_, rfl, _, rfl, Du, _, rfl, DPut.k (k := .inr n.st[i].1) (Sm.new hq _ _ hD) (by omega), dks ++ [(.inr n.st[i].1, .ref q)], _, fun x o e ne => ?_, ?_, ?_, ?_, ?_, rfl⟩⟩
              · rw [upd_ne (ne_of_none e hDu)]
                exact Sm.new hq _ _ (kp _ _ e ne)
              · rw [upd_ne nDv.symm]
                exact Sm.new hq _ _ hf
              · rw [upd_same, putK_nw vnw]
              · rw [tk, List.map_append, List.map_append, kk]
                rfl
              · rw [tk2]
                have nq : q ≠ Du := (ne_of_none hD hq).symm
                refine paired_aq (paired_mq (fun a s ⟨m, e0, z⟩ => ⟨m, e0, ?_⟩) pr) (.cons ⟨_, rfl, .inl ⟨c', q, rfl, by rw [upd_ne nq]; exact upd_same⟩⟩ .nil)
                rcases z with ⟨z1, p, e1, e2⟩ | z
                · exact .inl ⟨z1, p, e1, by rw [upd_ne (ne_of e2 hD (by simp))]; exact Sm.new hq _ _ e2⟩
                · exact .inr z
            · have c' : ¬ n.st[i].1 ∈ b.st.map (·.1) := fun z => c (decide_eq_true z)
              refine ⟨_, rfl, _, rfl, va, v, rfl, (by rw [← valV_nd vnd hkv]; exact dget_fz (k := .inr n.st[i].1) hf), _, rfl, _, rfl, Du, _, rfl, DPut.k (k := .inr n.st[i].1) hD (by omega), dks ++ [(.inr n.st[i].1, v)], _, fun x o e ne => ?_, ?_, ?_, ?_, ?_, rfl⟩
              · rw [upd_ne (ne_of_none e hDu)]
                exact kp _ _ e ne
              · rw [upd_ne nDv.symm]
                exact hf
              · rw [upd_same, putK_nw vnw]
              · rw [tk, List.map_append, List.map_append, kk]
                rfl
              · rw [tk2]
                refine paired_aq (paired_mq (fun a s ⟨m, e0, z⟩ => ⟨m, e0, ?_⟩) pr) (.cons ⟨_, rfl, .inr ⟨c', rfl⟩⟩ .nil)
                rcases z with ⟨z1, p, e1, e2⟩ | z
                · exact .inl ⟨z1, p, e1, by rw [upd_ne (ne_of e2 hD (by simp))]; exact e2⟩
                · exact .inr z
          · rintro σ H2 ⟨dks, y7, kp, hf, hD, kk, pr, rfl⟩
            rw [vl, List.take_length] at kk
            rw [List.take_length] at pr
            have sfin : Same Hk (upd H2 va (.dK vks)) := fun x o e => by
              by_cases q : x = va
              · subst q
                rw [upd_same, ← hvaK, e]
              · rw [upd_ne q]
                exact kp _ _ e q
            refine ⟨hf, dks, y7, sfin, by rw [upd_ne nDv]; exact hD, kk, due_all (paired_mq (fun a s ⟨m, e0, z⟩ => ⟨m, e0, ?_⟩) pr) vkeys (vdatK.same sfin), rfl⟩
            rcases z with ⟨z1, p, e1, e2⟩ | z
            · exact .inl ⟨z1, p, e1, by rw [upd_ne (ne_of e2 hf (by simp))]; exact e2⟩
            · exact .inr z
        · rintro σ He ⟨dks, y7, ske, hDu, dkk, dda, rfl⟩
          have dn := dn.same ske
          have dpres := dpres.same ske
          have g0 : ∀ q ∈ presD b, cpy q.2 = true ∧ PyData.depth q.2 ≤ 4 := fun q hq => by
            obtain ⟨s, hs, rfl⟩ := List.mem_map.mp hq
            exact ⟨rfl, by show PyData.depth (keptL s.1) ≤ 4; simp [keptL, PyData.depth, PyData.depthAll]⟩
          have zd := zip_due (b := b) dkk
          refine ⟨_, rfl, _, rfl, .ref Pr, vn, presD b, n, rfl, dpres, dn, gn, g0, fun vt Ht set dt => ?_⟩
          obtain ⟨Ta, tks, rfl, hT, tnd, tkk, tda, tz⟩ := dq_dict2 dt
          have hTt := (newer_some hT).2
          have tdaT := tda.same (newer_same He Ht)
          refine ⟨_, rfl, .ref Ta, .ty "dict", _, _, true, rfl, .ty _, .base (.dK hTt), kit_ty (by decide +kernel), true, rfl, ite2 (fun c => nomatch c) (fun _ => ?_)⟩
          have kds : (n.st.map fun s => (lkp (presD b) (.inr s.1)).getD s.2) = (keptD (presD b) n.st).map (·.2) := by unfold keptD; rw [List.map_map]; rfl
          have itd : ∀ {H2 : Hp} {p : Addr} {ts : List Addr} {ks : List (Key × V)}, H2 p = some (.lst (ts.map V.ref)) → Paired (fun (t : Addr) (q : Key × V) => H2 t = some (.tup [kV q.1, q.2])) ts ks → DqAll H2 (ks.map (·.2)) ((keptD (presD b) n.st).map (·.2)) → zipK ks ((keptD (presD b) n.st).map (·.2)) = keptD (presD b) n.st → Dq H2 (.ref p) (itemsD (keptD (presD b) n.st)) := by
            intro H2 p ts ks h1 h2 h3 h4
            have := items_dq h2 h3
            rw [h4] at this
            exact .lst h1 this
          refine ⟨_, rfl, Ta, tks, rfl, hTt, fun H2 p ts s2 hp hts hpts hp2 pr => ⟨p, itemsD (keptD (presD b) n.st), rfl, itd hp2 pr (tdaT.same s2) tz, smi.sh, by have := smi.dp; omega, by have := smi.ln; omega, ?_⟩⟩
          rw [← hIX]
          have hDu2 := s2 _ _ (set _ _ hDu)
          refine ⟨_, rfl, Du, dks, rfl, hDu2, fun H3 p3 ts3 s3 hp3 hts3 hpts3 hp33 pr3 => ⟨p3, itemsD (keptD (presD b) n.st), rfl, itd hp33 pr3 (by rw [← kds]; exact ((dda.same set).same s2).same s3) (by rw [← kds]; exact zd), smi.sh, by have := smi.dp; omega, by have := smi.ln; omega, ?_⟩⟩
          rw [← hIX]
          refine ⟨rfl, _, rfl, ite2 (fun c => absurd c (by simp)) (fun _ => ?_)⟩
          have se3 : Same He H3 := Same.trans (Same.trans set s2) s3
          refine ⟨_, rfl, _, rfl, by show 2 ≤ sizeLine; decide, fun t2 ht2 => ⟨t2, .tuple [.dict (presD b), dPg n], rfl, .tup upd_same (.cons ((dpres.same se3).same (Sm.new ht2)) (.cons ((dn.same se3).same (Sm.new ht2)) .nil)), sm.sh, by have := sm.dp; omega, by have := sm.ln; omega, ?_⟩⟩
          rw [← hTX]
          refine ⟨_, rfl, rfl, _, rfl, ite2 (fun c => absurd c (by simp)) (fun _ => ?_)⟩
          have s34 := Sm.new (o := .tup [.ref Pr, vn]) ht2
          generalize upd H3 t2 (.tup [.ref Pr, vn]) = H4 at s34 ⊢
          have st4 : Same Ht H4 := Same.trans (Same.trans s2 s3) s34
          have hT4 := st4 _ _ hTt
          refine ⟨fun σ H' => Same He H' ∧ ∃ y7 : Option V, σ = [some (.ref sa), some (.ref rl), some vb, some (.ref fa), some vn, some (.ref va), y6, y7, y8, some (.ref Du), some (.ref Ta), some (.ref Pr), some (.str TX), none], ?_, ?_⟩
          · refine ⟨_, rfl, Ta, tks, rfl, .inl hT4, fun Lk hLk => ⟨Lk, rfl, ⟨_, SqL.of upd_same⟩, ?_⟩⟩
            have s4L := Sm.new (o := .lst (tks.map fun kv => kV kv.1)) hLk
            have LkT : Ht Lk = none := Same.free st4 hLk
            refine for_it (walk_list (K := K) (a := Lk) (xs := tks.map fun kv => kV kv.1)) (fun i σ H' => ∃ y7 : Option V, Same He H' ∧ H' Ta = some (.dK tks) ∧ H' Lk = some (.lst (tks.map fun kv => kV kv.1)) ∧ (∀ q ∈ tks, LsA He H' Lk (1000 + i) q.2) ∧
              σ = [some (.ref sa), some (.ref rl), some vb, some (.ref fa), some vn, some (.ref va), y6, y7, y8, some (.ref Du), some (.ref Ta), some (.ref Pr), some (.str TX), none])
              ⟨_, Same.trans se3 (Same.trans s34 s4L), s4L _ _ hT4, upd_same, fun q hq => ?_, rfl⟩ (fun i σ H' _ ⟨_, _, _, z, _⟩ => SqL.of z) ?_ ?_
            · obtain ⟨i, hi, ei⟩ := List.getElem_of_mem hq
              have hq2 : (tks.map (·.2))[i]? = some q.2 := by rw [List.getElem?_map, List.getElem?_eq_getElem hi, ei]; rfl
              have lt : i < ((keptD (presD b) n.st).map (·.2)).length := by
                have := tda.len
                rw [← this, List.length_map]
                exact hi
              obtain ⟨v', hv', dv'⟩ := dqAll_at tda (List.getElem?_eq_getElem lt)
              have ev : v' = q.2 := by rw [hv'] at hq2; exact Option.some.inj hq2
              subst ev
              refine LsA.of dv' ?_ (Same.trans st4 s4L) LkT
              have hm := List.getElem_mem lt
              obtain ⟨x, hx, ex⟩ := List.mem_map.mp hm
              rw [← ex]
              obtain ⟨s, hs, rfl⟩ := List.mem_map.mp hx
              show cpy ((lkp (presD b) (.inr s.1)).getD s.2) = true
              rw [lkp_pres]
              by_cases m : s.1 ∈ b.st.map (·.1)
              · rw [if_pos m]
                rfl
              · rw [if_neg m]
                exact (gn.sd s hs).2.1
            · rintro i x σ H5 H6 hi ⟨y7, s5, hT5, hL5, all5, rfl⟩ ⟨rfl, hx⟩
              have hi' : i < tks.length := by rw [List.length_map] at hi; exact hi
              have ex : x = kV tks[i].1 := by
                rw [List.getElem?_map, List.getElem?_eq_getElem hi'] at hx
                exact (Option.some.inj hx).symm
              subst ex
              have dg : DGet H6 Ta (kV tks[i].1) (some tks[i].2) := by
                have v0 : valV tks tks[i].1 = some tks[i].2 := valV_nd (i := i) tnd (by rw [List.getElem?_eq_getElem hi'])
                rw [← v0]
                exact DGet.k hT5
              have il : i < 100 := by
                have := congrArg List.length tkk
                rw [List.length_map, List.length_map] at this
                unfold keptD at this
                rw [List.length_map] at this
                omega
              rcases all5 _ (List.getElem_mem hi') with ⟨l, zs2, e1, e2, e3, e4, e5⟩ | nl
              · refine ⟨_, rfl, _, rfl, Ta, _, rfl, dg, tks[i].2, .ty "list", _, _, true, rfl, .ty _, (by rw [e1]; exact .base (.lst e4)), kit_ty (by decide +kernel), true, rfl, iteT ?_⟩
                rw [e1] at dg
                refine ⟨_, rfl, _, rfl, Ta, _, rfl, dg, .inl ⟨rfl, _, SqL.of e4⟩, l, _, _, rfl, rfl, e4, by omega, _, fun b o eb => ?_, ?_, ?_, fun q hq => ?_, rfl⟩
                · rw [upd_ne (ne_of_none eb e2)]
                  exact s5 _ _ eb
                · rw [upd_ne (ne_of hT5 e4 (by simp))]
                  exact hT5
                · rw [upd_ne e3.symm]
                  exact hL5
                · exact (all5 q hq).put e4 e5
              · obtain ⟨t, ty, k1⟩ := nl.ty (K := K)
                refine ⟨_, rfl, _, rfl, Ta, _, rfl, dg, tks[i].2, .ty "list", _, _, false, rfl, .ty _, ty, kit_ty k1, false, rfl, iteF ?_⟩
                refine ⟨_, s5, hT5, hL5, fun q hq => ?_, rfl⟩
                rcases all5 q hq with ⟨l, zs2, e1, e2, e3, e4, e5⟩ | z
                · exact .inl ⟨l, zs2, e1, e2, e3, e4, by omega⟩
                · exact .inr z
            · rintro σ H5 ⟨y7, s5, _, _, _, rfl⟩
              exact ⟨s5, y7, rfl⟩
          · rintro σ H5 ⟨s5, y7, rfl⟩
            refine ⟨_, rfl, _, rfl, .ref Pr, vn, presD b, n, rfl, dpres.same s5, dn.same s5, gn, g0, fun vt2 H6 s6 dt2 => ?_⟩
            obtain ⟨Aa, aks, rfl, hA, and, akk, ada, az⟩ := dq_dict2 dt2
            have hA6 := (newer_some hA).2
            have ada6 := ada.same (newer_same H5 H6)
            refine ⟨_, rfl, Aa, aks, rfl, hA6, fun H7 p7 ts7 s7 hp7 hts7 hpts7 hp77 pr7 => ⟨p7, itemsD (keptD (presD b) n.st), rfl, itd hp77 pr7 (ada6.same s7) az, smi.sh, by have := smi.dp; omega, by have := smi.ln; omega, ?_⟩⟩
            rw [← hIX]
            refine ⟨_, rfl, Du, dks, rfl, s7 _ _ (s6 _ _ (s5 _ _ hDu)), fun H8 p8 ts8 s8 hp8 hts8 hpts8 hp88 pr8 => ⟨p8, itemsD (keptD (presD b) n.st), rfl, itd hp88 pr8 (by rw [← kds]; exact (((dda.same s5).same s6).same s7).same s8) (by rw [← kds]; exact zd), smi.sh, by have := smi.dp; omega, by have := smi.ln; omega, ?_⟩⟩
            rw [← hIX]
            refine ⟨rfl, ?_⟩
            show Q (.bl (decide (V.str IX = V.str IX))) _
            rw [decide_eq_true rfl]
            exact k _
end
end VL

set_option Elab.async false
set_option linter.all false
set_option maxRecDepth 100000
set_option maxHeartbeats 4000000
namespace VL
open PySem PySem.Spec PyProof.Rows L2
theorem all_mk {l : PySem.W.OpenLaw} {w : World} {K : PySem.W.Frag} {h : Heap} {mg : Str → Option Value} {fa f1 f2 f3 f4 f5 f6 f7 f8 f9 : Addr} (X : K.In h) (G : h.Ns mainGlobals mg) (hfa : mg "law" = some (.ref fa))
    {od1 an1 od2 an2 od3 an3 od4 an4 od5 an5 od6 an6 od7 an7 od8 an8 od9 an9 : Option Addr} {sl1 sl2 sl3 sl4 sl5 sl6 sl7 sl8 sl9 : Array (Option Value)} {oc1 kV1 dc1 pm1 cd1 ct1 oc2 kV2 dc2 pm2 cd2 ct2 oc3 kV3 dc3 pm3 cd3 ct3 oc4 kV4 dc4 pm4 cd4 ct4 oc5 kV5 dc5 pm5 cd5 ct5 oc6 kV6 dc6 pm6 cd6 ct6 oc7 kV7 dc7 pm7 cd7 ct7 oc8 kV8 dc8 pm8 cd8 ct8 oc9 kV9 dc9 pm9 cd9 ct9 : Value} 
    (z_bool : PySem.W.nsIn K mainGlobals "bool" = some none)
    (z_dict : PySem.W.nsIn K mainGlobals "dict" = some none)
    (z_int : PySem.W.nsIn K mainGlobals "int" = some none)
    (z_isinstance : PySem.W.nsIn K mainGlobals "isinstance" = some none)
    (z_len : PySem.W.nsIn K mainGlobals "len" = some none)
    (z_list : PySem.W.nsIn K mainGlobals "list" = some none)
    (z_range : PySem.W.nsIn K mainGlobals "range" = some none)
    (z_repr : PySem.W.nsIn K mainGlobals "repr" = some none)
    (z_str : PySem.W.nsIn K mainGlobals "str" = some none)
    (z_tuple : PySem.W.nsIn K mainGlobals "tuple" = some none)
    (a1 : PySem.W.nsIn K mainGlobals "copy_of" = some (some (.ref f1)))
    (l1 : K.lookup f1 = some ⟨oc1, od1, .func (PySem.W.fnOf "copy_of" "copy_of" (defArgs s_copy_of) (defBody s_copy_of) (defScope s_copy_of) .none kV1 dc1 pm1 an1 cd1 ct1), sl1⟩)
    (c1 : PySem.W.codeIn K cd1 "copy_of" = true)
    (k1 : PySem.W.keepIn K (.ref f1) = true)
    (a2 : PySem.W.nsIn K mainGlobals "component_named" = some (some (.ref f2)))
    (l2 : K.lookup f2 = some ⟨oc2, od2, .func (PySem.W.fnOf "component_named" "component_named" (defArgs s_component_named) (defBody s_component_named) (defScope s_component_named) .none kV2 dc2 pm2 an2 cd2 ct2), sl2⟩)
    (c2 : PySem.W.codeIn K cd2 "component_named" = true)
    (k2 : PySem.W.keepIn K (.ref f2) = true)
    (a3 : PySem.W.nsIn K mainGlobals "fits" = some (some (.ref f3)))
    (l3 : K.lookup f3 = some ⟨oc3, od3, .func (PySem.W.fnOf "fits" "fits" (defArgs s_fits) (defBody s_fits) (defScope s_fits) .none kV3 dc3 pm3 an3 cd3 ct3), sl3⟩)
    (c3 : PySem.W.codeIn K cd3 "fits" = true)
    (k3 : PySem.W.keepIn K (.ref f3) = true)
    (a4 : PySem.W.nsIn K mainGlobals "kept_stores" = some (some (.ref f4)))
    (l4 : K.lookup f4 = some ⟨oc4, od4, .func (PySem.W.fnOf "kept_stores" "kept_stores" (defArgs s_kept_stores) (defBody s_kept_stores) (defScope s_kept_stores) .none kV4 dc4 pm4 an4 cd4 ct4), sl4⟩)
    (c4 : PySem.W.codeIn K cd4 "kept_stores" = true)
    (k4 : PySem.W.keepIn K (.ref f4) = true)
    (a5 : PySem.W.nsIn K mainGlobals "_law_rows" = some (some (.ref f5)))
    (l5 : K.lookup f5 = some ⟨oc5, od5, .func (PySem.W.fnOf "_law_rows" "_law_rows" (defArgs s__law_rows) (defBody s__law_rows) (defScope s__law_rows) .none kV5 dc5 pm5 an5 cd5 ct5), sl5⟩)
    (c5 : PySem.W.codeIn K cd5 "_law_rows" = true)
    (k5 : PySem.W.keepIn K (.ref f5) = true)
    (a6 : PySem.W.nsIn K mainGlobals "_law_constant" = some (some (.ref f6)))
    (l6 : K.lookup f6 = some ⟨oc6, od6, .func (PySem.W.fnOf "_law_constant" "_law_constant" (defArgs s__law_constant) (defBody s__law_constant) (defScope s__law_constant) .none kV6 dc6 pm6 an6 cd6 ct6), sl6⟩)
    (c6 : PySem.W.codeIn K cd6 "_law_constant" = true)
    (k6 : PySem.W.keepIn K (.ref f6) = true)
    (a7 : PySem.W.nsIn K mainGlobals "_law_program" = some (some (.ref f7)))
    (l7 : K.lookup f7 = some ⟨oc7, od7, .func (PySem.W.fnOf "_law_program" "_law_program" (defArgs s__law_program) (defBody s__law_program) (defScope s__law_program) .none kV7 dc7 pm7 an7 cd7 ct7), sl7⟩)
    (c7 : PySem.W.codeIn K cd7 "_law_program" = true)
    (k7 : PySem.W.keepIn K (.ref f7) = true)
    (a8 : PySem.W.nsIn K mainGlobals "_law_cells" = some (some (.ref f8)))
    (l8 : K.lookup f8 = some ⟨oc8, od8, .func (PySem.W.fnOf "_law_cells" "_law_cells" (defArgs s__law_cells) (defBody s__law_cells) (defScope s__law_cells) .none kV8 dc8 pm8 an8 cd8 ct8), sl8⟩)
    (c8 : PySem.W.codeIn K cd8 "_law_cells" = true)
    (k8 : PySem.W.keepIn K (.ref f8) = true)
    (a9 : PySem.W.nsIn K mainGlobals "law" = some (some (.ref f9)))
    (l9 : K.lookup f9 = some ⟨oc9, od9, .func (PySem.W.fnOf "law" "law" (defArgs s_law) (defBody s_law) (defScope s_law) .none kV9 dc9 pm9 an9 cd9 ct9), sl9⟩)
    (c9 : PySem.W.codeIn K cd9 "law" = true)
    (k9 : PySem.W.keepIn K (.ref f9) = true)
    : ∃ fd : FuncData, (∀ (s : Shared) (v : Value), BindsTo s fd ⟨[v], []⟩ [("script", v)]) ∧ ∀ base : Heap, K.In base → base.Ns mainGlobals mg → FnG l.prog w K mg base 9 fa fd ["script"] (spLaw K) := by
  have e := hfa.symm.trans (PySem.W.mg_of X G a9)
  cases e
  have F1 := fun_mk (st := s_copy_of) l1 c1 k1
  have b1 := F1.binds (ps := ["value"]) fun _ _ _ _ _ _ us hl => match us, hl with | [_], _ => rfl
  have F2 := fun_mk (st := s_component_named) l2 c2 k2
  have b2 := F2.binds (ps := ["program", "name"]) fun _ _ _ _ _ _ us hl => match us, hl with | [_, _], _ => rfl
  have F3 := fun_mk (st := s_fits) l3 c3 k3
  have b3 := F3.binds (ps := ["before", "now", "name"]) fun _ _ _ _ _ _ us hl => match us, hl with | [_, _, _], _ => rfl
  have F4 := fun_mk (st := s_kept_stores) l4 c4 k4
  have b4 := F4.binds (ps := ["stores", "now"]) fun _ _ _ _ _ _ us hl => match us, hl with | [_, _], _ => rfl
  have F5 := fun_mk (st := s__law_rows) l5 c5 k5
  have b5 := F5.binds (ps := ["script", "count"]) fun _ _ _ _ _ _ us hl => match us, hl with | [_, _], _ => rfl
  have F6 := fun_mk (st := s__law_constant) l6 c6 k6
  have b6 := F6.binds (ps := ["row"]) fun _ _ _ _ _ _ us hl => match us, hl with | [_], _ => rfl
  have F7 := fun_mk (st := s__law_program) l7 c7 k7
  have b7 := F7.binds (ps := ["rows", "at"]) fun _ _ _ _ _ _ us hl => match us, hl with | [_, _], _ => rfl
  have F8 := fun_mk (st := s__law_cells) l8 c8 k8
  have b8 := F8.binds (ps := ["program", "name"]) fun _ _ _ _ _ _ us hl => match us, hl with | [_, _], _ => rfl
  have T : Txt K w mg ⟨()⟩ := {
    z_bool := PySem.W.mg_none_of X G z_bool,
    z_dict := PySem.W.mg_none_of X G z_dict,
    z_int := PySem.W.mg_none_of X G z_int,
    z_isinstance := PySem.W.mg_none_of X G z_isinstance,
    z_len := PySem.W.mg_none_of X G z_len,
    z_list := PySem.W.mg_none_of X G z_list,
    z_range := PySem.W.mg_none_of X G z_range,
    z_repr := PySem.W.mg_none_of X G z_repr,
    z_str := PySem.W.mg_none_of X G z_str,
    z_tuple := PySem.W.mg_none_of X G z_tuple,
    d_copy_of := ⟨_, _, F1, PySem.W.mg_of X G a1, b1⟩,
    d_component_named := ⟨_, _, F2, PySem.W.mg_of X G a2, b2⟩,
    d_fits := ⟨_, _, F3, PySem.W.mg_of X G a3, b3⟩,
    d_kept_stores := ⟨_, _, F4, PySem.W.mg_of X G a4, b4⟩,
    d__law_rows := ⟨_, _, F5, PySem.W.mg_of X G a5, b5⟩,
    d__law_constant := ⟨_, _, F6, PySem.W.mg_of X G a6, b6⟩,
    d__law_program := ⟨_, _, F7, PySem.W.mg_of X G a7, b7⟩,
    d__law_cells := ⟨_, _, F8, PySem.W.mg_of X G a8, b8⟩ }
  exact ⟨_, fun s v => .of_eq rfl, fun base _ _ => ok_law (fun_mk (st := s_law) l9 c9 k9) T⟩
theorem walk {l : PySem.W.OpenLaw} {q : Program} {loose : List Str} {XP : (Str → Option Value) → Heap → Prop} {YP : World → Heap → Prop} {d : DefRec} {K : Params → PySem.W.Frag} (hn : l.most = some 63) (hdf : d.params.defaults = [])
    (hY : ∀ (w : World) (h : Heap), YP w h → (K w.params).In h)
    (F : ∀ (w : World) (mg : Str → Option Value) (fa : Addr) (h : Heap), (K w.params).In h → h.Ns mainGlobals mg → mg d.name = some (.ref fa) →
      ∃ fd : FuncData, (∀ (s : Shared) (u : Value), BindsTo s fd ⟨[u], []⟩ [("script", u)]) ∧ ∀ base : Heap, (K w.params).In base → base.Ns mainGlobals mg → FnG l.prog w (K w.params) mg base 9 fa fd ["script"] (spLaw (K w.params))) :
    PySem.W.WalkO q loose XP YP l.row.toRowW d [] (fun f vs => PySem.call f vs) :=
  walk_ofG (n := 63) (k := 9) (x := "script") (sp := fun w => spLaw (K w.params)) hn (by decide) hdf ⟨rfl, by decide, by decide⟩ hY F (fun _ _ a ns hl _ hS => ⟨a, ns, rfl, hS, hl, fun _ => rfl⟩)
end VL

open PySem PySem.W PyProof.Rows in
set_option maxRecDepth 100000 in
set_option maxHeartbeats 0 in
theorem PySem.Challenge.cw_viewloom_k75_what_another_program_keeps_holds : PySem.Challenge.rw_viewloom_k75_what_another_program_keeps.Holds := by
  w_on; o_law; k_head; (case hw => w_witness2)
  k_fill
  refine VL.walk (l := PySem.Challenge.rw_viewloom_k75_what_another_program_keeps) rfl rfl (fun w h Y => PySem.W.kIn_of Y) ?F
  case F =>
    intro w mg fa h KX G hmg
    refine' VL.all_mk KX G hmg ?z_bool ?z_dict ?z_int ?z_isinstance ?z_len ?z_list ?z_range ?z_repr ?z_str ?z_tuple ?a1 ?l1 ?c1 ?k1 ?a2 ?l2 ?c2 ?k2 ?a3 ?l3 ?c3 ?k3 ?a4 ?l4 ?c4 ?k4 ?a5 ?l5 ?c5 ?k5 ?a6 ?l6 ?c6 ?k6 ?a7 ?l7 ?c7 ?k7 ?a8 ?l8 ?c8 ?k8 ?a9 ?l9 ?c9 ?k9
    (case z_bool => k_is)
    (case z_dict => k_is)
    (case z_int => k_is)
    (case z_isinstance => k_is)
    (case z_len => k_is)
    (case z_list => k_is)
    (case z_range => k_is)
    (case z_repr => k_is)
    (case z_str => k_is)
    (case z_tuple => k_is)
    (case a1 => k_is)
    (case l1 => k_is)
    (case c1 => k_is)
    (case k1 => k_is)
    (case a2 => k_is)
    (case l2 => k_is)
    (case c2 => k_is)
    (case k2 => k_is)
    (case a3 => k_is)
    (case l3 => k_is)
    (case c3 => k_is)
    (case k3 => k_is)
    (case a4 => k_is)
    (case l4 => k_is)
    (case c4 => k_is)
    (case k4 => k_is)
    (case a5 => k_is)
    (case l5 => k_is)
    (case c5 => k_is)
    (case k5 => k_is)
    (case a6 => k_is)
    (case l6 => k_is)
    (case c6 => k_is)
    (case k6 => k_is)
    (case a7 => k_is)
    (case l7 => k_is)
    (case c7 => k_is)
    (case k7 => k_is)
    (case a8 => k_is)
    (case l8 => k_is)
    (case c8 => k_is)
    (case k8 => k_is)
    (case a9 => k_is)
    (case l9 => k_is)
    (case c9 => k_is)
    (case k9 => k_is)
#print axioms PySem.Challenge.cw_viewloom_k75_what_another_program_keeps_holds
