import PyProof.Rows.All
import Wide.All
import OpenK.AllK
import Wide.FinOn
import HandS.ForMost
import HandS.More
import HandS.Codes
import HandS.Ends
import PyProof.ReprRoads
import PyProof.ReprReads
import PyProof.RowDictHeap
import HandS.DictComp
import HandS.Walk
import HandS.Defaults
import HandS.Property
import HandS.ClsMeth
import HandS.ExcIs
import HandS.RaiseMore
import HandS.ForExc
import HandS.IsInst
import HandS.DeepEq
import HandS.Deep
import HandS.StrMore
import PyProof.DictUpdate
import PyProof.DictDisplay
import HandS.OwnEq
import PyProof.InstEq
import HandS.GenOver
import HandS.GenList
import HandS.Comp
import KE.KDictPairs
import HandS.Rev
import HandS.Nested
import HandS.ExcInit
import KE.KSuper
import KE.KExcSuper
import HandS.ExcField
import HandS.FStr
import KE.KExcIs
import HandS.TupLe
import HandS.Wide
import KE.KOwnIter
import KE.KDictIter
import HandS.MakeKw
import KE.KEqNest
import HandS.Steps
import HandS.Style
import PySem.Challenge.RW_viewloom_k63_clicks
set_option Elab.async false
set_option linter.all false
set_option maxRecDepth 100000
set_option maxHeartbeats 4000000
namespace VL
open PySem PySem.Spec PyProof.Rows L2

/-! ### defs, methods, classes, as callers see them -/
structure Cal (P : Program) (w : World) (K : PySem.W.Frag) (mg : Str → Option Value) (base : Heap) (k : Nat) (x : Str) (sp : Sp) : Prop where
  ex : ∃ (f : Addr) (fd : FuncData) (ps : List Str), FnOk P w K mg base CX0 k f fd ps sp ∧ mg x = some (.ref f) ∧ PySem.W.keepIn K (.ref f) = true ∧ Binds K fd ps []
structure Met (P : Program) (w : World) (K : PySem.W.Frag) (mg : Str → Option Value) (base : Heap) (k : Nat) (C : Addr) (m : Str) (sp : Sp) : Prop where
  ex : ∃ (f : Addr) (fd : FuncData) (ps : List Str), Cls K C ∧ Meth K C m f ∧ FnOk P w K mg base CX0 k f fd ps sp ∧ Binds K fd ps []
structure Mak (P : Program) (w : World) (K : PySem.W.Frag) (mg : Str → Option Value) (base : Heap) (k : Nat) (x : Str) (C : Addr) (sp : Sp) : Prop where
  ex : ∃ (f : Addr) (fd : FuncData) (ps : List Str), Mk K C f ∧ FnOk P w K mg base CX0 k f fd ps sp ∧ mg x = some (.ref C) ∧ Binds K fd ps []
section
variable {X : Cx} {k j : Nat} {C : Addr} {x m : Str} {sp : Sp} {p pos apos : Pos} {e o : Expr} {es : List Expr} {ta : TE} {t : TA}
theorem pe_c (c : Cal X.prog X.w X.K X.mg X.base k x sp) (hr : Room j X.A) (hk : k ≤ j) (hg : Gl X x) (ha : PA X (e :: es) t)
    (hdb : (x == ("__debug__" : Str)) = false := by decide) (he : starEach (e :: es) X.env = (false, eval e X.env) :: starEach es X.env := by rfl) (hpl : (backTo pos (starEach es X.env)).any (·.1) = false := by rfl) :
    PE X (.Call (.Name x p) (e :: es) [] pos) (tCall sp [] E0 t) := by
  obtain ⟨f, fd, ps, F, hm, kp, b⟩ := c.ex
  exact pe_call F (hr.mono hk) hg hm kp b .nil pass0 ha hdb he hpl
theorem pe_mk (c : Mak X.prog X.w X.K X.mg X.base k x C sp) (hr : Room j X.A) (hk : k + 1 ≤ j) (hg : Gl X x) (ha : PA X (e :: es) t)
    (hdb : (x == ("__debug__" : Str)) = false := by decide) (he : starEach (e :: es) X.env = (false, eval e X.env) :: starEach es X.env := by rfl) (hpl : (backTo pos (starEach es X.env)).any (·.1) = false := by rfl) :
    PE X (.Call (.Name x p) (e :: es) [] pos) (tMake C sp [] E0 t) := by
  obtain ⟨f, fd, ps, M, F, hm, b⟩ := c.ex
  exact pe_make M F (hr.mono hk) hg hm b .nil pass0 ha hdb he hpl
theorem pe_mk0 (c : Mak X.prog X.w X.K X.mg X.base k x C sp) (hr : Room j X.A) (hk : k + 1 ≤ j) (hg : Gl X x) (hdb : (x == ("__debug__" : Str)) = false := by decide) :
    PE X (.Call (.Name x p) [] [] pos) (tMake C sp [] E0 tNil) := by
  obtain ⟨f, fd, ps, M, F, hm, b⟩ := c.ex
  exact pe_make0 M F (hr.mono hk) hg hm b .nil pass0 hdb
theorem pe_mt {pl : Sem Bool} (c : Met X.prog X.w X.K X.mg X.base k C m sp) (hr : Room j X.A) (hk : k ≤ j) (he : PE X o ta) (ha : PA X (e :: es) t)
    (hst : starEach (e :: es) X.env = (false, eval e X.env) :: starEach es X.env := by rfl) (hpl : (backTo pos (starEach es X.env)).any (·.1) = false := by rfl)
    (ht : eval (.Call (.Attribute o m apos) (e :: es) [] pos) X.env = (do
      let ov ← eval o X.env
      standAt apos.atName
      let (f, first) ← holding [ov] (getMethod ov m pl)
      callWith pos f first (backTo pos (starEach (e :: es) X.env)) (backToKw pos (keywordEach [] X.env))) := by rfl) :
    PE X (.Call (.Attribute o m apos) (e :: es) [] pos) (tMeth C m sp [] E0 ta t) := by
  obtain ⟨f, fd, ps, hc, hm, F, b⟩ := c.ex
  exact pe_meth (pl := pl) he hc hm F (hr.mono hk) b .nil pass0 ha hst hpl ht
theorem pe_mt0 {pl : Sem Bool} (c : Met X.prog X.w X.K X.mg X.base k C m sp) (hr : Room j X.A) (hk : k ≤ j) (he : PE X o ta)
    (ht : eval (.Call (.Attribute o m apos) [] [] pos) X.env = (do
      let ov ← eval o X.env
      standAt apos.atName
      let (f, first) ← holding [ov] (getMethod ov m pl)
      callWith pos f first (backTo pos (starEach [] X.env)) (backToKw pos (keywordEach [] X.env))) := by rfl) :
    PE X (.Call (.Attribute o m apos) [] [] pos) (tMeth C m sp [] E0 ta tNil) := by
  obtain ⟨f, fd, ps, hc, hm, F, b⟩ := c.ex
  exact pe_meth0 (pl := pl) he hc hm F (hr.mono hk) b .nil pass0 ht
end

/-! ### what the text has -/
def DefE (K : PySem.W.Frag) (mg : Str → Option Value) (x : Str) (st : Stmt) (ps : List Str) : Prop := ∃ (f : Addr) (fd : FuncData), Fun K x x st f fd ∧ mg x = some (.ref f) ∧ Binds K fd ps []
def MethE (K : PySem.W.Frag) (C : Addr) (x qual : Str) (st : Stmt) (ps : List Str) : Prop := ∃ (f : Addr) (fd : FuncData), Fun K x qual st f fd ∧ Meth K C x f ∧ Binds K fd ps []
def InitE (K : PySem.W.Frag) (mg : Str → Option Value) (cn : Str) (C : Addr) (qual : Str) (st : Stmt) (ps : List Str) : Prop := ∃ (f : Addr) (fd : FuncData), Fun K "__init__" qual st f fd ∧ Mk K C f ∧ mg cn = some (.ref C) ∧ Binds K fd ps []
/-- a global name of the module has the value v -/
abbrev GV (mg : Str → Option Value) (x : Str) (v : V) : Prop := ∃ u, mg x = some u ∧ RelV v u
section
variable {P : Program} {w : World} {K : PySem.W.Frag} {mg : Str → Option Value} {base : Heap}
theorem cal_of {x : Str} {st : Stmt} {ps N : List Str} {k : Nat} {sp : Sp} (D : DefE K mg x st ps) (S : FnScope N ps (defScope st)) (len : ∀ vs H Q E, sp vs H Q E → vs.length = ps.length)
    (hbody : ∀ (f : Addr) (cdv : Value) (A : Around) (outer : List Env) (s : Shared) (H : Hp) (vs : List V) (Q : VK) (E : XK), Room k (A.deeper (envOfC x (defScope st) s.heap.objs.size f cdv)) → sp vs H Q E →
      ∃ t, PSs (cxOf CX0 P w K mg base N x (defScope st) f cdv A outer s H E).nox (defBody st) t ∧ t { nx := fun _ H' => Q .non H', rt := Q } (start N vs) H) : Cal P w K mg base (k + 1) x sp := by
  obtain ⟨f, fd, F, hm, b⟩ := D
  exact ⟨f, fd, ps, F.ok S len (hbody f), hm, F.kp, b⟩
theorem met_of {C : Addr} {x qual : Str} {st : Stmt} {ps N : List Str} {k : Nat} {sp : Sp} (D : MethE K C x qual st ps) (c : Cls K C) (S : FnScope N ps (defScope st)) (len : ∀ vs H Q E, sp vs H Q E → vs.length = ps.length)
    (hbody : ∀ (f : Addr) (cdv : Value) (A : Around) (outer : List Env) (s : Shared) (H : Hp) (vs : List V) (Q : VK) (E : XK), Room k (A.deeper (envOfC qual (defScope st) s.heap.objs.size f cdv)) → sp vs H Q E →
      ∃ t, PSs (cxOf CX0 P w K mg base N qual (defScope st) f cdv A outer s H E).nox (defBody st) t ∧ t { nx := fun _ H' => Q .non H', rt := Q } (start N vs) H) : Met P w K mg base (k + 1) C x sp := by
  obtain ⟨f, fd, F, hm, b⟩ := D
  exact ⟨f, fd, ps, c, hm, F.ok S len (hbody f), b⟩
theorem mak_of {C : Addr} {cn qual : Str} {st : Stmt} {ps N : List Str} {k : Nat} {sp : Sp} (D : InitE K mg cn C qual st ps) (S : FnScope N ps (defScope st)) (len : ∀ vs H Q E, sp vs H Q E → vs.length = ps.length)
    (hbody : ∀ (f : Addr) (cdv : Value) (A : Around) (outer : List Env) (s : Shared) (H : Hp) (vs : List V) (Q : VK) (E : XK), Room k (A.deeper (envOfC qual (defScope st) s.heap.objs.size f cdv)) → sp vs H Q E →
      ∃ t, PSs (cxOf CX0 P w K mg base N qual (defScope st) f cdv A outer s H E).nox (defBody st) t ∧ t { nx := fun _ H' => Q .non H', rt := Q } (start N vs) H) : Mak P w K mg base (k + 1) cn C sp := by
  obtain ⟨f, fd, F, M, hm, b⟩ := D
  exact ⟨f, fd, ps, M, F.ok S len (hbody f), hm, b⟩
end
theorem ps_str_loc : True := trivial
end VL

set_option Elab.async false
set_option linter.all false
set_option maxRecDepth 100000
set_option maxHeartbeats 4000000
namespace VL
open PySem PySem.Spec PyProof.Rows L2

/-! ### a def that is called where nothing is being shown: the law's own; repr of nested data there -/
structure FnG (P : Program) (w : World) (K : PySem.W.Frag) (mg : Str → Option Value) (base : Heap) (k : Nat) (f : Addr) (fd : FuncData) (ps : List Str) (sp : Sp) : Prop where
  run : ∀ (A : Around) (outer : List Env) (s : Shared) (H : Hp) (args : Args) (us : List Value) (vs : List V) (Q : VK) (E : XK), A.guards = some [] → Room k A → Env0 P w K mg base A outer s H → BindsTo s fd args (ps.zip us) → Vals vs us → sp vs H Q E →
    codeAny (model P w) A (.call (.ref f) args) (CR CX0 outer P w H s Q E) s
theorem fnG_of {P : Program} {w : World} {K : PySem.W.Frag} {mg : Str → Option Value} {base : Heap} {x qual : Str} {st : Stmt} {f : Addr} {fd : FuncData} {N ps : List Str} {k : Nat} {sp : Sp} (F : Fun K x qual st f fd) (S : FnScope N ps (defScope st)) (len : ∀ vs H Q E, sp vs H Q E → vs.length = ps.length)
    (hb0 : ∀ (cdv : Value) (A : Around) (outer : List Env) (s : Shared) (H : Hp) (vs : List V) (Q : VK) (E : XK), A.guards = some [] → Room k (A.deeper (envOfC qual (defScope st) s.heap.objs.size f cdv)) → sp vs H Q E →
      ∃ t, PSs (cxOf CX0 P w K mg base N qual (defScope st) f cdv A outer s H E).nox (defBody st) t ∧ t { nx := fun _ H' => Q .non H', rt := Q } (start N vs) H) : FnG P w K mg base (k + 1) f fd ps sp := by
  obtain ⟨oc, od, kV, doc, pm, an, cdv, ct, osl, rfl, lk, hcd⟩ := F.ex
  refine ⟨fun A outer s H args us vs Q E gd hr en hb rv hsp => ?_⟩
  have hlen := len _ _ _ _ hsp
  have kin : K.In s.heap := en.mod.kin.keeps fun b o e => (en.bs b o e).1
  have nl : s.heap.NoLimit := en.mod.nolimit.keeps fun b o e => (en.bs b o e).1
  have kinds : ∀ y ∈ ps.zip us, (defScope st).names.lookup y.1 = some .local ∨ ((defScope st).names.lookup y.1 = some .cell ∧ ((cellsFrom (s.heap.objs.size + 1) (defScope st).names []).lookup y.1).isSome = true) := fun ⟨n, v⟩ hy => by
    rcases S.par n (List.of_mem_zip hy).1 with c | c
    · exact .inl c
    · exact .inr ⟨c, PySem.W.cellsFrom_some _ _ _ (.inl c)⟩
  refine codeAny_call_function hr.depth (kin _ _ lk) rfl S.co S.gen rfl (PySem.W.codeRec_of kin hcd) (hb _ _ _ _ ?_)
  refine wpAny_newFunctionEnv_cells S.kind kinds fun env he s1 ic => ?_
  subst he
  refine ⟨nl.keeps ic.toInCall.keep, codeAny_func ?_⟩
  obtain ⟨t, hd, hq⟩ := hb0 cdv A outer s H vs Q E gd (hr.deeper _) hsp
  have J0 : Inv (cxOf CX0 P w K mg base N qual (defScope st) f cdv A outer s H E) [] (start N vs) H s1 := inv_start S hr.hd en hlen rv ic
  refine wpAny_mono (hd.nox.run [] s1 (start N vs) H _ J0 hq) (fun fl s2 hs => ?_) fun e s2 hs => hs
  have done : ∀ {σ2 : L2.St} {H2 : Hp} {v : V} {u : Value}, Inv (cxOf CX0 P w K mg base N qual (defScope st) f cdv A outer s H E) [] σ2 H2 s2 → RelV v u → Q v H2 → CE outer P w H s Q u s2 :=
    fun {σ2 H2 v u} J rw q => ⟨v, H2, J.os, J.bare, J.base, J.hok, rw, q⟩
  cases fl with
  | ret u =>
    obtain ⟨v, σ2, H2, J, rw, q⟩ := hs
    exact done J rw q
  | next =>
    obtain ⟨σ2, H2, J, q⟩ := hs
    exact done (v := V.non) (u := Value.none) J rfl q
  | brk => exact hs.elim fun _ z => z.elim fun _ z => z.2.elim
  | cont => exact hs.elim fun _ z => z.elim fun _ z => z.2.elim
/-- the law's call, where nothing is being shown -/
theorem law_callG {P : Program} {w : World} {K : PySem.W.Frag} {mg mb : Str → Option Value} {k : Nat} {fa a : Addr} {fd : FuncData} {x : Str} {sp : Sp} {s₁ : Shared} {vs : List Value} {ns : List Int}
    (kin : K.In s₁.heap) (ng : s₁.heap.Ns mainGlobals mg) (nb : s₁.heap.Ns builtinsNs mb) (bb : ∀ x : Str, x ≠ "__name__" → mb x = bootBuiltins x) (nl : s₁.heap.NoLimit) (hgen : s₁.gens = #[])
    (ea : s₁.heap.get? a = some { cls := .type "list", data := .seq vs.toArray }) (hi : IntsAre vs ns) (hz : ns.length ≤ sizeLine) (hr : Room k callerA)
    (F : ∀ base : Heap, K.In base → base.Ns mainGlobals mg → FnG P w K mg base k fa fd [x] sp) (hbind : ∀ (s : Shared) (u : Value), BindsTo s fd ⟨[u], []⟩ [(x, u)])
    (hsp : ∀ H : Hp, Only H → SqL K H a (ns.map V.int) → sp [.ref a] H (fun v _ => v = .bl true) fun _ _ _ => False) :
    codeAny (model P w) callerA (.call (.ref fa) ⟨[.ref a], []⟩) (fun r s2 => r = .ok (.ret (.bool true)) ∧ OldK s₁.heap s2.heap ∧ s2.os = s₁.os ∧ AllBare s2.gens) s₁ := by
  have rel := vals_ints hi
  have lv := hi.length
  have go : ∀ H : Hp, Only H → SqL K H a (ns.map V.int) → HOk P w H s₁.heap → (∀ b, H b ≠ none → b = a) → (H a ≠ none → K.lookup a = none) →
      codeAny (model P w) callerA (.call (.ref fa) ⟨[.ref a], []⟩) (fun r s2 => r = .ok (.ret (.bool true)) ∧ OldK s₁.heap s2.heap ∧ s2.os = s₁.os ∧ AllBare s2.gens) s₁ := by
    intro H ho hq ok only out
    have low : ∀ {b : Addr} {o : Obj}, s₁.heap.get? b = some o → H b = none → (hidT s₁.heap H).get? b = some o := fun e n => hidT_get e n
    have nod : ∀ {b : Addr} {o : Obj} {es : Array DictEntry} {ep : Nat}, s₁.heap.get? b = some o → o.data = .dict es ep → H b = none := fun {b o es ep} e d => by
      cases c : H b with
      | none => rfl
      | some u =>
        obtain rfl : b = a := only b (by rw [c]; simp)
        rw [ea] at e
        cases e
        exact nomatch (show Data.seq vs.toArray _ = Data.dict es ep from d)
    have nsl : ∀ {b : Addr} {m : Str → Option Value}, s₁.heap.Ns b m → (hidT s₁.heap H).Ns b m := fun {b m} ⟨o, es, ep, e, d, r⟩ => ⟨o, es, ep, low e (nod e d), d, r⟩
    have kl : K.In (hidT s₁.heap H) := fun b o e => low (kin b o e) (by
      cases c : H b with
      | none => rfl
      | some u =>
        obtain rfl : b = a := only b (by rw [c]; simp)
        rw [out (by rw [c]; simp)] at e
        exact nomatch e)
    have md : Mod K mg (hidT s₁.heap H) := ⟨kl, nsl ng, ⟨mb, nsl nb, bb⟩, let ⟨mc, h1, h2⟩ := nl; ⟨mc, nsl h1, h2⟩⟩
    have en : Env0 P w K mg (hidT s₁.heap H) callerA [] s₁ H := ⟨rfl, md, fun b o e => of_hidT e, Nat.le_of_eq (hidT_size _ _), trivial, fun b hb => absurd (show b ∈ ([] : List Addr) from hb) (by simp), ok, .of_eq hgen⟩
    refine codeAny_mono ((F _ kl (nsl ng)).run callerA [] s₁ H ⟨[.ref a], []⟩ [.ref a] [.ref a] _ _ rfl hr en (hbind s₁ (.ref a)) (.cons rfl .nil) (hsp H ho hq)) fun r s2 h => ?_
    cases r with
    | error e => exact False.elim h
    | ok fl =>
      cases fl with
      | next => exact h.elim
      | brk => exact h.elim
      | cont => exact h.elim
      | ret u =>
        obtain ⟨v, H2, os, bare, un, ok2, r2, q⟩ := h
        obtain rfl : v = .bl true := q
        obtain rfl : u = Value.bool true := r2
        refine ⟨rfl, OldK.of_keep fun b o e => ?_, os, bare⟩
        cases c : H b with
        | none => exact un.keep b o e c (by intro z; exact absurd (show b ∈ ([] : List Addr) from z) (by simp)) (by simp)
        | some u =>
          rcases ho b with z | ⟨ob, xs, z⟩
          · exact nomatch c.symm.trans z
          · obtain ⟨e1, _⟩ := ok b _ z
            obtain ⟨e2, _⟩ := ok2 b _ (un.frzs b ob _ z)
            rw [e] at e1
            cases e1
            exact e2
  cases hk : K.lookup a with
  | some o =>
    have e := kin a o hk
    rw [ea] at e
    cases e
    exact go (fun _ => none) (fun _ => .inl rfl) (.inr ⟨_, vs.toArray, _, hk, rfl, rfl, rfl, by rw [List.size_toArray, lv]; exact hz, by simpa using rel⟩) (fun b u z => nomatch (show (none : Option HO) = some u from z)) (fun b z => absurd rfl z) fun z => absurd rfl z
  | none =>
    refine go (fun b => if b = a then some (.frz { cls := .type "list", data := .seq vs.toArray } (.lst (ns.map V.int))) else none) (fun b => ?_) (.inl (.inr ⟨{ cls := .type "list", data := .seq vs.toArray }, if_pos rfl⟩)) (fun b u z => ?_) (fun b z => ?_) fun _ => hk
    · by_cases hb : b = a
      · exact Or.inr ⟨_, _, if_pos hb⟩
      · exact Or.inl (if_neg hb)
    · by_cases hb : b = a
      · cases (if_pos hb).symm.trans z
        subst hb
        exact ⟨ea, by rw [List.length_map]; exact hz, vs, _, rel, ea⟩
      · exact nomatch (if_neg hb).symm.trans z
    · by_cases hb : b = a
      · exact hb
      · exact absurd (if_neg hb) z
theorem walk_ofG {l : PySem.W.OpenLaw} {n k : Nat} {q : Program} {loose : List Str} {XP : (Str → Option Value) → Heap → Prop} {YP : World → Heap → Prop} {d : DefRec} {K : Params → PySem.W.Frag} {sp : World → Sp} {x : Str}
    (hn : l.most = some n) (hn2 : n ≤ sizeLine) (hdf : d.params.defaults = []) (hr : Room k callerA) (hY : ∀ (w : World) (h : Heap), YP w h → (K w.params).In h)
    (F : ∀ (w : World) (mg : Str → Option Value) (fa : Addr) (h : Heap), (K w.params).In h → h.Ns mainGlobals mg → mg d.name = some (.ref fa) →
      ∃ fd : FuncData, (∀ (s : Shared) (u : Value), BindsTo s fd ⟨[u], []⟩ [(x, u)]) ∧ ∀ base : Heap, (K w.params).In base → base.Ns mainGlobals mg → FnG l.prog w (K w.params) mg base k fa fd [x] (sp w))
    (hsp : ∀ (w : World) (H : Hp) (a : Addr) (ns : List Int), ns.length ≤ n → Only H → SqL (K w.params) H a (ns.map V.int) → sp w [.ref a] H (fun v _ => v = .bl true) fun _ _ _ => False) :
    PySem.W.WalkO q loose XP YP l.row.toRowW d [] (fun f vs => PySem.call f vs) := by
  refine Att.attach_call hn hdf fun w s₀ s₁ mg mb fa o pm cd doc a vs ns G Y ho hd hcd hmg hobj hints hlen hgen => ?_
  have kin := hY w _ Y
  obtain ⟨fd, hb, hF⟩ := F w mg fa _ kin G.T.g hmg
  exact law_callG kin G.T.g G.T.b G.T.builtins G.T.nolimit hgen hobj hints (Nat.le_trans hlen hn2) hr hF hb fun H ho hq => hsp w H a ns hlen ho hq
end VL

set_option Elab.async false
set_option linter.all false
set_option maxRecDepth 100000
set_option maxHeartbeats 4000000
namespace VL
open PySem PySem.Spec PyProof.Rows L2 PyProof.V

/-! ### repr of a dict of nested data, where nothing is being shown -/
def enK : Key → PyData
  | .inl i => .int i
  | .inr x => .str x
def zipK : List (Key × V) → List PyData → List (PyData × PyData)
  | p :: ks, d :: ds => (enK p.1, d) :: zipK ks ds
  | _, _ => []
theorem zipK_vals : ∀ {ks : List (Key × V)} {ds : List PyData}, ks.length = ds.length → (zipK ks ds).map (·.2) = ds
  | [], [], _ => rfl
  | p :: ks, d :: ds, h => by
    show d :: (zipK ks ds).map (·.2) = d :: ds
    rw [zipK_vals (Nat.succ.inj h)]
theorem dpAll_len {K : PySem.W.Frag} {H : Hp} : ∀ {vs : List V} {ds : List PyData}, DpAll K H vs ds → vs.length = ds.length
  | _, _, .nil => rfl
  | _, _, .cons _ h => by simp [dpAll_len h]
section
variable {X : Cx} {pins : List (Addr × Obj)} {σ : L2.St} {H : Hp} {s : Shared}
theorem enK_reads {h : Heap} {P : Program} {w : World} (k : Key) (key : Value) (e : (mixKind P w).is k key = true) : Reads h key (enK k) [] := by
  rcases keyIs_shape (show keyIs k key = true from e) with ⟨i, t, rfl, rfl⟩ | ⟨x, t, rfl, rfl⟩
  · exact Reads.int i t
  · exact Reads.str x t
theorem pairs_read (I : Inv X pins σ H s) : ∀ {ks : List (Key × V)} {vs : List (Key × Value)} {ds : List PyData}, KV ks vs → DpAll X.K H (ks.map (·.2)) ds → ∃ bs, PairsRead s.heap enK vs (zipK ks ds) bs
  | [], _, _, r, h => by
    cases r
    exact ⟨[], by unfold zipK; exact .nil⟩
  | p :: ks, _, _, r, h => by
    cases r with
    | @cons _ q _ qs h1 h2 =>
      cases h with
      | @cons _ _ d ds g1 g2 =>
        obtain ⟨k, v⟩ := q
        obtain ⟨kp, vp⟩ := p
        obtain ⟨rfl, rv⟩ := h1
        obtain ⟨as, r1⟩ := Dp.reads I d _ _ g1 rv
        obtain ⟨bs, r2⟩ := pairs_read I h2 g2
        exact ⟨as ++ bs, .cons r1 r2⟩
def rRepD (K : PySem.W.Frag) : List V → Hp → VK → Prop := fun xs H Q => ∃ (a : Addr) (ks : List (Key × V)) (ds : List PyData), xs = [.ref a] ∧ H a = some (.dK ks) ∧ DpAll K H (ks.map (·.2)) ds ∧ PyData.showableKv (zipK ks ds) = true ∧ PyData.hasDictAll ds = false ∧
  PyData.depthKv (zipK ks ds) ≤ 40 ∧ (dictText (PyData.shownKv (zipK ks ds))).length ≤ sizeLine ∧ Q (.str (dictText (PyData.shownKv (zipK ks ds)))) H
theorem call_repD (gd : X.A.guards = some []) (hu : X.A.units + 64 < cLine) : CallR X (.builtin "repr") (rRepD X.K) := by
  intro pins s σ H xs us Q I r h
  obtain ⟨a, ks, ds, rfl, ha, hd, sh, nd, dep, len, q⟩ := h
  obtain ⟨u, rfl, ru⟩ := vals1 r
  cases (show u = Value.ref a from ru)
  obtain ⟨_, hsys, vs, rk, dic⟩ := (show ObjOk X.prog X.w H s.heap a (.dK ks) from I.hok a _ ha)
  obtain ⟨bs, pr⟩ := pairs_read I rk hd
  have rd := reads_dictOf (fun k key e => enK_reads k key e) dic pr
  obtain ⟨o, es, ep, ho, hx, hdat, _, hp, _⟩ := dic
  obtain ⟨rk1, rk2⟩ := readsAll_of_pairs (fun k key e => enK_reads k key e) hp pr
  obtain ⟨sh1, sh2⟩ := PyData.showableKv_split _ sh
  have vv : (zipK ks ds).map (·.2) = ds := zipK_vals (by have := dpAll_len hd; rw [List.length_map] at this; exact this)
  obtain ⟨b1, hb1, k1⟩ := ReprAllK.of_readsAll (prog := X.prog) (w := X.w) rk1 sh1 (fun _ z => nomatch z) (fun t ht => let ⟨p, hp, hl⟩ := PyData.shownKv_key_le _ t ht; Nat.le_trans hl (Nat.le_trans (dictText_mem_le hp) len))
  obtain ⟨b2, hb2, k2⟩ := ReprAllK.of_readsAll (prog := X.prog) (w := X.w) rk2 sh2 (fun z => by rw [vv, nd] at z; exact nomatch z) (fun t ht => let ⟨p, hp, hl⟩ := PyData.shownKv_val_le _ t ht; Nat.le_trans hl (Nat.le_trans (dictText_mem_le hp) len))
  have rm : ReadAtMost s.heap (PyData.depthKv (zipK ks ds)) (b1 ++ b2) := (hb1.mono (PyData.depthAll_keys_le _)).append (hb2.mono (PyData.depthAll_vals_le _))
  have na : a ∉ b1 ++ b2 := not_mem_of_deeper rd (by simp only [PyData.depth]; omega) rm
  have EK := ReprEntriesK.of_two es.toList _ _ (k1.more_le (fun b z => List.mem_append_left b2 z) (PyData.depthAll_keys_le (zipK ks ds))) (k2.more_le (fun b z => List.mem_append_right b1 z) (PyData.depthAll_vals_le (zipK ks ds)))
  rw [← PyData.shownKv_eq] at EK
  refine call_repr_slot (T := "dict") (idr := "dict.__repr__") (by omega) ⟨o, ho, hx.1⟩ F.slot_dict_repr (call_dict_reprK (h₀ := s.heap) ho hx.1 hdat hsys na EK gd (fun b _ => Clear.nil b) (by show X.A.units + 1 + (PyData.depthKv (zipK ks ds) + 1) < cLine; omega) (fun _ _ e => e) (fun h2 u tk hk => ?_) len)
  exact ⟨_, _, rfl, .str _, H, I.kept hk, ⟨u, rfl⟩, q⟩
end
theorem strApp (x y : Str) : (x ++ y).length = x.length + y.length := strLen_append x y
theorem textFrom_le : ∀ (ts : List Str) (k : Nat) (acc : Str), (textFrom k acc ts).length ≤ acc.length + piled ts
  | [], k, acc => by show acc.length ≤ _; omega
  | t :: ts, k, acc => by
    have ih := textFrom_le ts (k + 1) (acc ++ (if k > 0 then ", " else "" : String) ++ t)
    have e : (acc ++ (if k > 0 then ", " else "" : String) ++ t).length ≤ acc.length + 2 + t.length := by
      rw [strApp, strApp]
      split
      · exact Nat.le_of_eq rfl
      · show acc.length + 0 + t.length ≤ _
        omega
    show (textFrom (k + 1) (acc ++ (if k > 0 then ", " else "" : String) ++ t) ts).length ≤ _
    have : piled (t :: ts) = t.length + 2 + piled ts := by simp [piled]
    omega
theorem listText_le (ts : List Str) : (listText ts).length ≤ 2 + piled ts := by
  have := textFrom_le ts 0 "["
  have e1 : (("[" : String) : Str).length = 1 := rfl
  have e2 : (("]" : String) : Str).length = 1 := rfl
  unfold listText
  rw [strApp, e2]
  omega
theorem dictText_le (ts : List Str) : (dictText ts).length ≤ 2 + piled ts := by
  have e1 : (("{" : String) : Str).length = 1 := rfl
  have e2 : (("}" : String) : Str).length = 1 := rfl
  unfold dictText
  rw [strApp, strApp, e1, e2]
  by_cases h : ts = []
  · subst h
    show 1 + 0 + 1 ≤ _
    omega
  · have := join_length_add ts h
    omega
theorem piled_le {c : Nat} : ∀ {ts : List Str}, (∀ t ∈ ts, t.length ≤ c) → piled ts ≤ ts.length * (c + 2)
  | [], _ => by simp [piled]
  | t :: ts, h => by
    have ih := piled_le (ts := ts) fun x hx => h x (List.mem_cons_of_mem _ hx)
    have := h t List.mem_cons_self
    have e : piled (t :: ts) = t.length + 2 + piled ts := by simp [piled]
    have e2 : (t :: ts).length * (c + 2) = ts.length * (c + 2) + (c + 2) := by rw [List.length_cons, Nat.succ_mul]
    omega
end VL

set_option Elab.async false
set_option linter.all false
set_option maxRecDepth 100000
set_option maxHeartbeats 4000000
namespace VL
open PySem PySem.Spec PyProof.Rows L2 PyProof.V

/-! ### nested data with dicts: what stands there; repr of it, where nothing is being shown -/
mutual
inductive Dq (H : Hp) : V → PyData → Prop
  | non : Dq H .non .none
  | bl (b : Bool) : Dq H (.bl b) (.bool b)
  | int (i : Int) : Dq H (.int i) (.int i)
  | str (x : Str) : Dq H (.str x) (.str x)
  | lst {a : Addr} {xs : List V} {ds : List PyData} : H a = some (.lst xs) → DqAll H xs ds → Dq H (.ref a) (.list ds)
  | tup {a : Addr} {xs : List V} {ds : List PyData} : H a = some (.tup xs) → DqAll H xs ds → Dq H (.ref a) (.tuple ds)
  | dic {a : Addr} {ks : List (Key × V)} {ds : List PyData} : H a = some (.dK ks) → (ks.map (·.1)).Nodup → DqAll H (ks.map (·.2)) ds → Dq H (.ref a) (.dict (zipK ks ds))
inductive DqAll (H : Hp) : List V → List PyData → Prop
  | nil : DqAll H [] []
  | cons {v : V} {vs : List V} {d : PyData} {ds : List PyData} : Dq H v d → DqAll H vs ds → DqAll H (v :: vs) (d :: ds)
end
theorem DqAll.len {H : Hp} : ∀ {vs : List V} {ds : List PyData}, DqAll H vs ds → vs.length = ds.length
  | _, _, .nil => rfl
  | _, _, .cons _ h => by simp [DqAll.len h]
theorem DqAll.of_each {H : Hp} {P : V → PyData → Prop} : ∀ {vs : List V} {ds : List PyData}, DqAll H vs ds → (∀ v d, Dq H v d → P v d) → Paired P vs ds
  | _, _, .nil, _ => .nil
  | _, _, .cons a b, f => .cons (f _ _ a) (DqAll.of_each b f)
theorem DqAll.paired {H : Hp} : ∀ {vs : List V} {ds : List PyData}, DqAll H vs ds → Paired (Dq H) vs ds
  | _, _, .nil => .nil
  | _, _, .cons a b => .cons a (DqAll.paired b)
theorem DqAll.of_paired {H : Hp} : ∀ {vs : List V} {ds : List PyData}, Paired (Dq H) vs ds → DqAll H vs ds
  | _, _, .nil => .nil
  | _, _, .cons a b => .cons a (DqAll.of_paired b)
theorem dKv_le : ∀ (ks : List (Key × V)) (ds : List PyData), ks.length = ds.length → PyData.depthAll ds ≤ PyData.depthKv (zipK ks ds)
  | [], [], _ => Nat.le_refl _
  | p :: ks, d :: ds, h => by
    have ih := dKv_le ks ds (Nat.succ.inj h)
    show max (PyData.depth d) (PyData.depthAll ds) ≤ max (max (PyData.depth (enK p.1)) (PyData.depth d)) (PyData.depthKv (zipK ks ds))
    omega
theorem dq_mono_n {H H' : Hp} (s : Same H H') : ∀ (n : Nat) (d : PyData) (v : V), PyData.depth d ≤ n → Dq H v d → Dq H' v d := by
  intro n
  induction n with
  | zero =>
    intro d v hn h
    cases h with
    | non => exact .non
    | bl b => exact .bl b
    | int i => exact .int i
    | str x => exact .str x
    | lst _ _ => exact absurd hn (by simp [PyData.depth])
    | tup _ _ => exact absurd hn (by simp [PyData.depth])
    | dic _ _ _ => exact absurd hn (by simp [PyData.depth])
  | succ n ih =>
    have all : ∀ {vs : List V} {ds : List PyData}, DqAll H vs ds → PyData.depthAll ds ≤ n → DqAll H' vs ds := by
      intro vs
      induction vs with
      | nil => intro ds h _; cases h; exact .nil
      | cons v vs iv =>
        intro ds h hd
        cases h with
        | @cons _ _ d ds a b =>
          have hd' : max (PyData.depth d) (PyData.depthAll ds) ≤ n := hd
          exact .cons (ih d v (by omega) a) (iv b (by omega))
    intro d v hn h
    cases h with
    | non => exact .non
    | bl b => exact .bl b
    | int i => exact .int i
    | str x => exact .str x
    | lst h1 h2 => exact .lst (s _ _ h1) (all h2 (by simp only [PyData.depth] at hn; omega))
    | tup h1 h2 => exact .tup (s _ _ h1) (all h2 (by simp only [PyData.depth] at hn; omega))
    | @dic a ks ds h1 nd h2 =>
      have := dKv_le ks ds (by have := h2.len; rwa [List.length_map] at this)
      exact .dic (s _ _ h1) nd (all h2 (by simp only [PyData.depth] at hn; omega))
theorem Dq.same {H H' : Hp} {v : V} {d : PyData} (h : Dq H v d) (s : Same H H') : Dq H' v d := dq_mono_n s _ d v (Nat.le_refl _) h
theorem DqAll.same {H H' : Hp} (s : Same H H') : ∀ {vs : List V} {ds : List PyData}, DqAll H vs ds → DqAll H' vs ds
  | _, _, .nil => .nil
  | _, _, .cons a b => .cons (a.same s) (DqAll.same s b)
section
variable {X : Cx} {pins : List (Addr × Obj)} {σ : L2.St} {H : Hp} {s : Shared}
/-- what repr asks of a value that reads as d -/
def RpOk (X : Cx) (s : Shared) (u : Value) (d : PyData) : Prop := ∃ as bs, Reads s.heap u d as ∧ ReadAtMost s.heap (PyData.depth d) bs ∧ ReprK X.prog X.w bs s.heap (PyData.depth d) u (PyData.shown d)
def RpAll (X : Cx) (s : Shared) (us : List Value) (ds : List PyData) : Prop := ∃ as bs, ReadsAll s.heap us ds as ∧ ReadAtMost s.heap (PyData.depthAll ds) bs ∧ ReprAllK X.prog X.w bs s.heap (PyData.depthAll ds) us (PyData.shownAll ds)
theorem rp_all {n : Nat} (ih : ∀ (d : PyData) (v : V) (u : Value), PyData.depth d ≤ n → Dq H v d → RelV v u → PyData.showable d = true → (PyData.shown d).length ≤ sizeLine → RpOk X s u d) :
    ∀ {vs : List V} {us : List Value} {ds : List PyData}, DqAll H vs ds → PyData.depthAll ds ≤ n → Vals vs us → PyData.showableAll ds = true → (∀ t ∈ PyData.shownAll ds, t.length ≤ sizeLine) → RpAll X s us ds
  | [], us, ds, h, _, r, _, _ => by
    cases h
    cases r
    exact ⟨[], [], .nil, (fun _ h => nomatch h), .nil⟩
  | v :: vs, us, ds, h, hd, r, hs, hz => by
    cases h with
    | @cons _ _ d ds a b =>
      cases r with
      | @cons _ u _ us r1 r2 =>
        have hd' : max (PyData.depth d) (PyData.depthAll ds) ≤ n := hd
        have hs' : PyData.showable d = true ∧ PyData.showableAll ds = true := by simpa [PyData.showableAll] using hs
        obtain ⟨as1, bs1, x1, y1, z1⟩ := ih d v u (by omega) a r1 hs'.1 (hz _ (by simp only [PyData.shownAll]; exact List.mem_cons_self))
        obtain ⟨as2, bs2, x2, y2, z2⟩ := rp_all ih b (by omega) r2 hs'.2 (fun t ht => hz t (by simp only [PyData.shownAll]; exact List.mem_cons_of_mem _ ht))
        refine ⟨as1 ++ as2, bs1 ++ bs2, .cons x1 x2, fun b hm => ?_, ?_⟩
        · show ∃ d' as', Reads s.heap (.ref b) d' as' ∧ PyData.depth d' ≤ max (PyData.depth d) (PyData.depthAll ds)
          rcases List.mem_append.mp hm with hm | hm
          · obtain ⟨d', as', r', hd'⟩ := y1 b hm
            exact ⟨d', as', r', by omega⟩
          · obtain ⟨d', as', r', hd'⟩ := y2 b hm
            exact ⟨d', as', r', by omega⟩
        · simp only [PyData.depthAll, PyData.shownAll]
          exact .cons ((z1.more fun b hb => List.mem_append_left bs2 hb).level_le (Nat.le_max_left _ _)) (z2.more_le (fun b hb => List.mem_append_right bs1 hb) (Nat.le_max_right _ _))
theorem pairs_vals {P : Program} {w : World} : ∀ {es : List DictEntry} {kvs : List (Key × Value)}, Pairs (mixKind P w) es kvs → es.map (·.val) = kvs.map (·.2)
  | _, _, .nil => rfl
  | _, _, .cons _ hv hp => by rw [List.map_cons, List.map_cons, hv, pairs_vals hp]
theorem pairs_keys {h : Heap} {P : Program} {w : World} : ∀ {es : List DictEntry} {vs : List (Key × Value)} {ks : List (Key × V)} {ds : List PyData}, Pairs (mixKind P w) es vs → KV ks vs → ks.length = ds.length → ReadsAll h (es.map (·.key)) ((zipK ks ds).map (·.1)) []
  | _, _, [], [], .nil, _, _ => .nil
  | _, _, p :: ks, d :: ds, .cons (kv := q) hk hv hp, r, hl => by
    cases r with
    | cons r1 r2 =>
      have hk' := hk
      rw [← r1.1] at hk'
      exact ReadsAll.cons (enK_reads _ _ hk') (pairs_keys hp r2 (Nat.succ.inj hl))
  | _, _, p :: ks, d :: ds, .nil, r, hl => by cases r
  | _, _, [], [], .cons _ _ _, r, _ => by cases r
  | _, _, [], d :: ds, _, _, hl => nomatch hl
  | _, _, p :: ks, [], _, _, hl => nomatch hl
theorem kv_vals : ∀ {ks : List (Key × V)} {vs : List (Key × Value)}, KV ks vs → Vals (ks.map (·.2)) (vs.map (·.2))
  | _, _, .nil => .nil
  | _, _, .cons r rs => .cons r.2 (kv_vals rs)
theorem dq_rp (I : Inv X pins σ H s) : ∀ (n : Nat) (d : PyData) (v : V) (u : Value), PyData.depth d ≤ n → Dq H v d → RelV v u → PyData.showable d = true → (PyData.shown d).length ≤ sizeLine → RpOk X s u d := by
  intro n
  induction n with
  | zero =>
    intro d v u hn h r hs hz
    cases h with
    | non => cases r; exact ⟨_, [], .none, (fun _ h => nomatch h), by simp only [PyData.shown]; exact .of_is ReprIs.none _ _ _⟩
    | bl b => cases r; exact ⟨_, [], .bool b, (fun _ h => nomatch h), by simp only [PyData.shown]; exact .of_is (ReprIs.bool b) _ _ _⟩
    | int i =>
      obtain ⟨t, rfl⟩ := r
      exact ⟨_, [], .int i t, (fun _ h => nomatch h), by simp only [PyData.shown]; exact .of_is (ReprIs.int t (by simpa [PyData.showable] using hs)) _ _ _⟩
    | str x =>
      obtain ⟨t, rfl⟩ := r
      exact ⟨_, [], .str x t, (fun _ h => nomatch h), by simp only [PyData.shown]; exact .of_is (ReprIs.str x t (by simpa only [PyData.shown] using hz)) _ _ _⟩
    | lst _ _ => exact absurd hn (by simp [PyData.depth])
    | tup _ _ => exact absurd hn (by simp [PyData.depth])
    | dic _ _ _ => exact absurd hn (by simp [PyData.depth])
  | succ n ih =>
    intro d v u hn h r hs hz
    cases h with
    | non => exact ih _ _ _ (Nat.zero_le _) .non r hs hz
    | bl b => exact ih _ _ _ (Nat.zero_le _) (.bl b) r hs hz
    | int i => exact ih _ _ _ (Nat.zero_le _) (.int i) r hs hz
    | str x => exact ih _ _ _ (Nat.zero_le _) (.str x) r hs hz
    | @lst a xs ds h1 h2 =>
      cases (show u = Value.ref a from r)
      obtain ⟨_, its, m, rv, ho⟩ := (show ObjOk X.prog X.w H s.heap a (.lst xs) from I.hok a _ h1)
      have zz : (listText (PyData.shownAll ds)).length ≤ sizeLine := by simpa only [PyData.shown] using hz
      obtain ⟨as, bs, ra, rm, rk⟩ := rp_all ih h2 (by simp only [PyData.depth] at hn; omega) rv (by simpa [PyData.showable] using hs) (fun t ht => Nat.le_trans (listText_mem_le ht) zz)
      have rd : Reads s.heap (.ref a) (.list ds) (a :: as) := .list ho rfl rfl ra
      have na : a ∉ bs := not_mem_of_deeper rd (by simp only [PyData.depth]; omega) rm
      refine ⟨_, a :: bs, rd, ReadAtMost.cons rd (by simp only [PyData.depth]; omega) rm, ?_⟩
      simp only [PyData.depth, PyData.shown]
      cases its with
      | nil =>
        cases ra
        simp only [PyData.shownAll, listText_nil]
        exact ReprK.listEmpty ho rfl rfl
      | cons x l => exact ReprK.list ho rfl rfl na (by simpa using rk.length_eq) (fun i y e => rk.item i y (by simpa using e))
    | @tup a xs ds h1 h2 =>
      cases (show u = Value.ref a from r)
      obtain ⟨_, its, rv, o, ho, oc, m, od⟩ := (show ObjOk X.prog X.w H s.heap a (.tup xs) from I.hok a _ h1)
      have zz : (tupleText (PyData.shownAll ds)).length ≤ sizeLine := by simpa only [PyData.shown] using hz
      obtain ⟨as, bs, ra, rm, rk⟩ := rp_all ih h2 (by simp only [PyData.depth] at hn; omega) rv (by simpa [PyData.showable] using hs) (fun t ht => Nat.le_trans (tupleText_mem_le ht) zz)
      have rd : Reads s.heap (.ref a) (.tuple ds) as := .tuple ho oc od ra
      have na : a ∉ bs := not_mem_of_deeper rd (by simp only [PyData.depth]; omega) rm
      refine ⟨_, a :: bs, rd, ReadAtMost.cons rd (by simp only [PyData.depth]; omega) rm, ?_⟩
      simp only [PyData.depth, PyData.shown]
      exact ReprK.tuple ho oc od na rk
    | @dic a ks ds h1 nd h2 =>
      cases (show u = Value.ref a from r)
      obtain ⟨_, hsys, vs, rkv, dof⟩ := (show ObjOk X.prog X.w H s.heap a (.dK ks) from I.hok a _ h1)
      have kl : ks.length = ds.length := by have := h2.len; rwa [List.length_map] at this
      have zz : (dictText (PyData.shownKv (zipK ks ds))).length ≤ sizeLine := by simpa only [PyData.shown] using hz
      obtain ⟨o, es, ep, ho, hx, hdat, _, hp, _⟩ := dof
      have vv : (zipK ks ds).map (·.2) = ds := zipK_vals kl
      obtain ⟨sh1, sh2⟩ := PyData.showableKv_split _ (show PyData.showableKv (zipK ks ds) = true by simpa [PyData.showable] using hs)
      rw [vv] at sh2
      have rk1 : ReadsAll s.heap (es.toList.map (·.key)) ((zipK ks ds).map (·.1)) [] := pairs_keys hp rkv kl
      have dle := dKv_le ks ds kl
      obtain ⟨as2, b2, ra2, hb2, k2⟩ := rp_all ih h2 (by simp only [PyData.depth] at hn; omega) (kv_vals rkv) sh2 (fun t ht => by
        rw [← vv] at ht
        obtain ⟨p, hp, hl⟩ := PyData.shownKv_val_le _ t ht
        exact Nat.le_trans hl (Nat.le_trans (dictText_mem_le hp) zz))
      obtain ⟨b1, hb1, k1⟩ := ReprAllK.of_readsAll (prog := X.prog) (w := X.w) rk1 sh1 (fun _ z => nomatch z) (fun t ht => let ⟨p, hp, hl⟩ := PyData.shownKv_key_le _ t ht; Nat.le_trans hl (Nat.le_trans (dictText_mem_le hp) zz))
      have ev : es.toList.map (·.val) = vs.map (·.2) := pairs_vals hp
      rw [← ev] at ra2 k2
      have ra2' : ReadsAll s.heap (es.toList.map (·.val)) ((zipK ks ds).map (·.2)) as2 := by rw [vv]; exact ra2
      have rd : Reads s.heap (.ref a) (.dict (zipK ks ds)) (a :: [] ++ as2) := .dict ho hx.1 hdat rk1 ra2'
      have rm : ReadAtMost s.heap (PyData.depthKv (zipK ks ds)) (b1 ++ b2) := (hb1.mono (PyData.depthAll_keys_le _)).append (hb2.mono dle)
      have na : a ∉ b1 ++ b2 := not_mem_of_deeper rd (by simp only [PyData.depth]; omega) rm
      refine ⟨_, a :: (b1 ++ b2), rd, ReadAtMost.cons rd (by simp only [PyData.depth]; omega) rm, ?_⟩
      have EK := ReprEntriesK.of_two es.toList _ _ (k1.more_le (fun b z => List.mem_append_left b2 z) (PyData.depthAll_keys_le (zipK ks ds))) (k2.more_le (fun b z => List.mem_append_right b1 z) dle)
      rw [show PyData.shownAll ds = PyData.shownAll ((zipK ks ds).map (·.2)) by rw [vv], ← PyData.shownKv_eq] at EK
      simp only [PyData.depth, PyData.shown]
      exact ReprK.dict ho hx.1 hdat hsys na EK
theorem rp_list (I : Inv X pins σ H s) {vs : List V} {us : List Value} {ds : List PyData} (h : DqAll H vs ds) (r : Vals vs us) (hs : PyData.showableAll ds = true) (hz : ∀ t ∈ PyData.shownAll ds, t.length ≤ sizeLine) : RpAll X s us ds :=
  rp_all (fun d v u hn => dq_rp I _ d v u hn) h (Nat.le_refl _) r hs hz
def rRepQ : List V → Hp → VK → Prop := fun xs H Q => ∃ (a : Addr) (d : PyData), xs = [.ref a] ∧ Dq H (.ref a) d ∧ PyData.showable d = true ∧ PyData.depth d ≤ 40 ∧ (PyData.shown d).length ≤ sizeLine ∧ Q (.str (PyData.shown d)) H
theorem call_repQ (gd : X.A.guards = some []) (hu : X.A.units + 64 < cLine) : CallR X (.builtin "repr") rRepQ := by
  intro pins s σ H xs us Q I r h
  obtain ⟨a, d, rfl, hd, hs, dep, hz, q⟩ := h
  obtain ⟨u, rfl, ru⟩ := vals1 r
  cases (show u = Value.ref a from ru)
  have fin : ∀ (h' : Heap) (v : Tok) (tk : Nat), (∀ b o, s.heap.get? b = some o → h'.get? b = some o) → EP X pins σ Q (.str (PyData.shown d) v) { s with heap := h', toks := tk } := fun h' v tk hk => ⟨.str _, H, I.kept hk, ⟨v, rfl⟩, q⟩
  cases hd with
  | @lst _ xs ds h1 h2 =>
    obtain ⟨_, its, m, rv, ho⟩ := (show ObjOk X.prog X.w H s.heap a (.lst xs) from I.hok a _ h1)
    have zz : (listText (PyData.shownAll ds)).length ≤ sizeLine := by simpa only [PyData.shown] using hz
    obtain ⟨as, bs, ra, rm, rk⟩ := rp_list I h2 rv (by simpa [PyData.showable] using hs) (fun t ht => Nat.le_trans (listText_mem_le ht) zz)
    have rd : Reads s.heap (.ref a) (.list ds) (a :: as) := .list ho rfl rfl ra
    have na : a ∉ bs := not_mem_of_deeper rd (by simp only [PyData.depth]; omega) rm
    simp only [PyData.depth] at dep
    simp only [PyData.shown] at fin
    cases its with
    | nil =>
      cases ra
      simp only [PyData.shownAll, listText_nil] at fin
      exact call_repr_slot (T := "list") (by omega) ⟨_, ho, rfl⟩ F.slot_list_repr.toG (call_list_repr_empty ⟨_, ho, rfl⟩ ho rfl ⟨_, _, rfl, fin s.heap _ _ fun _ _ e => e⟩)
    | cons x l =>
      exact call_repr_slot (T := "list") (by omega) ⟨_, ho, rfl⟩ F.slot_list_repr.toG (call_list_reprK (h₀ := s.heap) ho rfl rfl na (by simpa using rk.length_eq) (fun i y e => rk.item i y (by simpa using e)) gd (fun b _ => Clear.nil b) (by show X.A.units + 1 + _ < cLine; omega) (fun _ _ e => e) (fun h' v tk hk => ⟨_, _, rfl, fin h' v tk hk⟩) zz)
  | @tup _ xs ds h1 h2 =>
    obtain ⟨_, its, rv, o, ho, oc, m, od⟩ := (show ObjOk X.prog X.w H s.heap a (.tup xs) from I.hok a _ h1)
    have zz : (tupleText (PyData.shownAll ds)).length ≤ sizeLine := by simpa only [PyData.shown] using hz
    obtain ⟨as, bs, ra, rm, rk⟩ := rp_list I h2 rv (by simpa [PyData.showable] using hs) (fun t ht => Nat.le_trans (tupleText_mem_le ht) zz)
    have rd : Reads s.heap (.ref a) (.tuple ds) as := .tuple ho oc od ra
    have na : a ∉ bs := not_mem_of_deeper rd (by simp only [PyData.depth]; omega) rm
    simp only [PyData.depth] at dep
    simp only [PyData.shown] at fin
    exact call_repr_slot (T := "tuple") (by omega) ⟨_, ho, oc⟩ F.slot_tuple_repr (call_tuple_reprK (h₀ := s.heap) ho oc od na rk gd (fun b _ => Clear.nil b) (by show X.A.units + 1 + _ < cLine; omega) (fun _ _ e => e) (fun h' v tk hk => ⟨_, _, rfl, fin h' v tk hk⟩) zz)
  | @dic _ ks ds h1 nd h2 =>
    obtain ⟨_, hsys, vs, rkv, dof⟩ := (show ObjOk X.prog X.w H s.heap a (.dK ks) from I.hok a _ h1)
    have kl : ks.length = ds.length := by have := h2.len; rwa [List.length_map] at this
    have zz : (dictText (PyData.shownKv (zipK ks ds))).length ≤ sizeLine := by simpa only [PyData.shown] using hz
    obtain ⟨o, es, ep, ho, hx, hdat, _, hp, _⟩ := dof
    have vv : (zipK ks ds).map (·.2) = ds := zipK_vals kl
    obtain ⟨sh1, sh2⟩ := PyData.showableKv_split _ (show PyData.showableKv (zipK ks ds) = true by simpa [PyData.showable] using hs)
    rw [vv] at sh2
    have rk1 : ReadsAll s.heap (es.toList.map (·.key)) ((zipK ks ds).map (·.1)) [] := pairs_keys hp rkv kl
    have dle := dKv_le ks ds kl
    obtain ⟨as2, b2, ra2, hb2, k2⟩ := rp_list I h2 (kv_vals rkv) sh2 (fun t ht => by
      rw [← vv] at ht
      obtain ⟨p, hp, hl⟩ := PyData.shownKv_val_le _ t ht
      exact Nat.le_trans hl (Nat.le_trans (dictText_mem_le hp) zz))
    obtain ⟨b1, hb1, k1⟩ := ReprAllK.of_readsAll (prog := X.prog) (w := X.w) rk1 sh1 (fun _ z => nomatch z) (fun t ht => let ⟨p, hp, hl⟩ := PyData.shownKv_key_le _ t ht; Nat.le_trans hl (Nat.le_trans (dictText_mem_le hp) zz))
    have ev : es.toList.map (·.val) = vs.map (·.2) := pairs_vals hp
    rw [← ev] at ra2 k2
    have ra2' : ReadsAll s.heap (es.toList.map (·.val)) ((zipK ks ds).map (·.2)) as2 := by rw [vv]; exact ra2
    have rd : Reads s.heap (.ref a) (.dict (zipK ks ds)) (a :: [] ++ as2) := .dict ho hx.1 hdat rk1 ra2'
    have rm : ReadAtMost s.heap (PyData.depthKv (zipK ks ds)) (b1 ++ b2) := (hb1.mono (PyData.depthAll_keys_le _)).append (hb2.mono dle)
    have na : a ∉ b1 ++ b2 := not_mem_of_deeper rd (by simp only [PyData.depth]; omega) rm
    have EK := ReprEntriesK.of_two es.toList _ _ (k1.more_le (fun b z => List.mem_append_left b2 z) (PyData.depthAll_keys_le (zipK ks ds))) (k2.more_le (fun b z => List.mem_append_right b1 z) dle)
    rw [show PyData.shownAll ds = PyData.shownAll ((zipK ks ds).map (·.2)) by rw [vv], ← PyData.shownKv_eq] at EK
    simp only [PyData.depth] at dep
    simp only [PyData.shown] at fin
    exact call_repr_slot (T := "dict") (idr := "dict.__repr__") (by omega) ⟨o, ho, hx.1⟩ F.slot_dict_repr (call_dict_reprK (h₀ := s.heap) ho hx.1 hdat hsys na EK gd (fun b _ => Clear.nil b) (by show X.A.units + 1 + _ < cLine; omega) (fun _ _ e => e) (fun h' v tk hk => ⟨_, _, rfl, fin h' v tk hk⟩) zz)
end
end VL

set_option Elab.async false
set_option linter.all false
set_option maxRecDepth 100000
set_option maxHeartbeats 4000000
namespace VL
open PySem PySem.Spec PyProof.Rows L2
/-! ### dict comprehensions over any walk; dicts read while locked -/
theorem dc_itQ {J : It} {n : Nat} {G : Hp → Prop} {Y : Nat → Hp → V → Hp → Prop} (w : Walk J n G Y) {g : TG} {tt : TT} {tk tv : TE} {vs : List Nat} {σ : L2.St} {H1 : Hp} {D : Addr} {Qd : Hp → Prop} (Pv : Nat → Hp → Prop) (h0 : Pv 0 (upd H1 D (.dK []))) (hG : ∀ i H, i ≤ n → Pv i H → G H)
    (hs : ∀ i x H H', i < n → Pv i H → Y i H x H' → g x (wipe σ vs) H' fun σ2 H2 => wipe σ2 vs = wipe σ vs ∧ tt σ2 H2 fun b H3 =>
      if b = true then tk σ2 H3 fun y H4 => tv σ2 H4 fun z H5 => ∃ kvs k, y = kV k ∧ H5 D = some (.dK kvs) ∧ kvs.length < sizeLine ∧ Pv (i + 1) (upd H5 D (.dK (putK kvs k z))) else Pv (i + 1) H3) (hd : ∀ H, Pv n H → Qd H) :
    ∃ W : Nat → Nat → Hp → Prop, (∃ m, W 0 m (upd H1 D (.dK []))) ∧ ∀ i m H, W i m H →
      (J.stop i H ∧ Qd H) ∨ (J.go i H ∧ ∃ Nx : Hp → Prop, (∀ H', Nx H' → ∃ m', m' < m ∧ W (i + 1) m' H') ∧ ∀ x H', J.yld i H x H' → g x (wipe σ vs) H' fun σ2 H2 => wipe σ2 vs = wipe σ vs ∧ tt σ2 H2 fun b H3 =>
        if b = true then tk σ2 H3 fun y H4 => tv σ2 H4 fun z H5 => ∃ kvs k, y = kV k ∧ H5 D = some (.dK kvs) ∧ kvs.length < sizeLine ∧ Nx (upd H5 D (.dK (putK kvs k z))) else Nx H3) := by
  refine ⟨fun i m H => m = n - i ∧ i ≤ n ∧ Pv i H, ⟨n, by simp, Nat.zero_le _, h0⟩, ?_⟩
  rintro i m H ⟨rfl, hi, p⟩
  have q := hG i H hi p
  by_cases hlt : i < n
  · refine .inr ⟨w.goes i H hlt q, Pv (i + 1), fun H' p' => ⟨n - (i + 1), by omega, rfl, hlt, p'⟩, fun x H' y => hs i x H H' hlt p (w.yields i H x H' hlt q y)⟩
  · have e : i = n := by omega
    subst e
    exact .inl ⟨w.stops H q, hd H p⟩
theorem dget_fz {H : Hp} {a : Addr} {o : Obj} {kvs : List (Key × V)} {k : Key} (e : H a = some (.frz o (.dK kvs))) : DGet H a (kV k) (valV kvs k) := .inl ⟨kvs, k, .inr ⟨o, e⟩, rfl, rfl⟩
theorem putK_nw {ks : List (Key × V)} {k : Key} {v : V} (h : valV ks k = none) : putK ks k v = ks ++ [(k, v)] := by
  unfold putK
  rw [valV_any, h]
  rfl
theorem valV_out {ks : List (Key × V)} {k : Key} (h : k ∉ ks.map (·.1)) : valV ks k = none := by
  induction ks with
  | nil => rfl
  | cons p ks ih =>
    rw [valV_neg (fun z => h (by rw [List.map_cons, ← z]; exact List.mem_cons_self))]
    exact ih fun z => h (List.mem_cons_of_mem _ z)
theorem valV_nd : ∀ {ks : List (Key × V)} {i : Nat} {k : Key} {v : V}, (ks.map (·.1)).Nodup → ks[i]? = some (k, v) → valV ks k = some v
  | [], _, _, _, _, h => by simp at h
  | p :: ks, 0, k, v, nd, h => by
    simp at h
    subst h
    exact valV_pos rfl
  | p :: ks, i + 1, k, v, nd, h => by
    simp at h
    rw [List.map_cons, List.nodup_cons] at nd
    have hm : k ∈ ks.map (·.1) := List.mem_map.mpr ⟨_, List.mem_of_getElem? h, rfl⟩
    rw [valV_neg (fun z => nd.1 (by rw [z]; exact hm))]
    exact valV_nd nd.2 h
theorem zipK_keys : ∀ {ks ls : List (Key × V)} {ds : List PyData}, ks.map (·.1) = ls.map (·.1) → zipK ks ds = zipK ls ds
  | [], [], _, _ => by unfold zipK; rfl
  | p :: ks, q :: ls, [], h => by unfold zipK; rfl
  | p :: ks, q :: ls, d :: ds, h => by
    rw [List.map_cons, List.map_cons] at h
    injection h with h1 h2
    show (enK p.1, d) :: zipK ks ds = (enK q.1, d) :: zipK ls ds
    rw [h1, zipK_keys h2]
  | [], q :: ls, _, h => nomatch h
  | p :: ks, [], _, h => nomatch h
theorem zipK_app : ∀ {ks ls : List (Key × V)} {ds es : List PyData}, ks.length = ds.length → zipK (ks ++ ls) (ds ++ es) = zipK ks ds ++ zipK ls es
  | [], ls, [], es, _ => rfl
  | p :: ks, ls, d :: ds, es, h => by
    show (enK p.1, d) :: zipK (ks ++ ls) (ds ++ es) = (enK p.1, d) :: zipK ks ds ++ zipK ls es
    rw [zipK_app (Nat.succ.inj h)]
    rfl
theorem enK_inj {a b : Key} (h : enK a = enK b) : a = b := by
  cases a with
  | inl i => cases b with
    | inl j => injection h with h; rw [h]
    | inr y => exact nomatch h
  | inr x => cases b with
    | inl j => exact nomatch h
    | inr y => injection h with h; rw [h]
/-! ### what stands there is one thing -/
theorem dq_det_n {H : Hp} : ∀ (n : Nat) (d d' : PyData) (v : V), PyData.depth d ≤ n → Dq H v d → Dq H v d' → d = d' := by
  intro n
  induction n with
  | zero =>
    intro d d' v hn h h'
    cases h with
    | non => cases h'; rfl
    | bl b => cases h'; rfl
    | int i => cases h'; rfl
    | str x => cases h'; rfl
    | lst _ _ => exact absurd hn (by simp [PyData.depth])
    | tup _ _ => exact absurd hn (by simp [PyData.depth])
    | dic _ _ _ => exact absurd hn (by simp [PyData.depth])
  | succ n ih =>
    have all : ∀ {vs : List V} {ds es : List PyData}, DqAll H vs ds → DqAll H vs es → PyData.depthAll ds ≤ n → ds = es := by
      intro vs
      induction vs with
      | nil => intro ds es h h' _; cases h; cases h'; rfl
      | cons v vs iv =>
        intro ds es h h' hd
        cases h with
        | @cons _ _ d ds a b =>
          cases h' with
          | @cons _ _ e es a' b' =>
            have hd' : max (PyData.depth d) (PyData.depthAll ds) ≤ n := hd
            rw [ih d e v (by omega) a a', iv b b' (by omega)]
    intro d d' v hn h h'
    cases h with
    | non => cases h'; rfl
    | bl b => cases h'; rfl
    | int i => cases h'; rfl
    | str x => cases h'; rfl
    | lst h1 h2 =>
      simp only [PyData.depth] at hn
      cases h' with
      | lst g1 g2 => rw [h1] at g1; cases g1; rw [all h2 g2 (by omega)]
      | tup g1 g2 => rw [h1] at g1; cases g1
      | dic g1 _ g2 => rw [h1] at g1; cases g1
    | tup h1 h2 =>
      simp only [PyData.depth] at hn
      cases h' with
      | lst g1 g2 => rw [h1] at g1; cases g1
      | tup g1 g2 => rw [h1] at g1; cases g1; rw [all h2 g2 (by omega)]
      | dic g1 _ g2 => rw [h1] at g1; cases g1
    | @dic a ks ds h1 nd h2 =>
      have := dKv_le ks ds (by have := h2.len; rwa [List.length_map] at this)
      simp only [PyData.depth] at hn
      cases h' with
      | lst g1 g2 => rw [h1] at g1; cases g1
      | tup g1 g2 => rw [h1] at g1; cases g1
      | dic g1 _ g2 => rw [h1] at g1; cases g1; rw [all h2 g2 (by omega)]
theorem Dq.det {H : Hp} {v : V} {d d' : PyData} (h : Dq H v d) (h' : Dq H v d') : d = d' := dq_det_n _ d d' v (Nat.le_refl _) h h'
/-- a store at what is deeper changes nothing -/
theorem dq_upd_n {H : Hp} {a : Addr} {da : PyData} {o : HO} (ha : Dq H (.ref a) da) : ∀ (n : Nat) (d : PyData) (v : V), PyData.depth d ≤ n → PyData.depth d < PyData.depth da → Dq H v d → Dq (upd H a o) v d := by
  intro n
  induction n with
  | zero =>
    intro d v hn _ h
    cases h with
    | non => exact .non
    | bl b => exact .bl b
    | int i => exact .int i
    | str x => exact .str x
    | lst _ _ => exact absurd hn (by simp [PyData.depth])
    | tup _ _ => exact absurd hn (by simp [PyData.depth])
    | dic _ _ _ => exact absurd hn (by simp [PyData.depth])
  | succ n ih =>
    have all : ∀ {vs : List V} {ds : List PyData}, DqAll H vs ds → PyData.depthAll ds ≤ n → PyData.depthAll ds < PyData.depth da → DqAll (upd H a o) vs ds := by
      intro vs
      induction vs with
      | nil => intro ds h _ _; cases h; exact .nil
      | cons v vs iv =>
        intro ds h hd hl
        cases h with
        | @cons _ _ d ds b c =>
          have hd' : max (PyData.depth d) (PyData.depthAll ds) ≤ n := hd
          have hl' : max (PyData.depth d) (PyData.depthAll ds) < PyData.depth da := hl
          exact .cons (ih d v (by omega) (by omega) b) (iv c (by omega) (by omega))
    intro d v hn hl h
    have ne : ∀ b : Addr, v = .ref b → b ≠ a := fun b e z => by
      subst e
      subst z
      rw [h.det ha] at hl
      exact Nat.lt_irrefl _ hl
    cases h with
    | non => exact .non
    | bl b => exact .bl b
    | int i => exact .int i
    | str x => exact .str x
    | lst h1 h2 =>
      simp only [PyData.depth] at hn hl
      exact .lst (by rw [upd_ne (ne _ rfl)]; exact h1) (all h2 (by omega) (by omega))
    | tup h1 h2 =>
      simp only [PyData.depth] at hn hl
      exact .tup (by rw [upd_ne (ne _ rfl)]; exact h1) (all h2 (by omega) (by omega))
    | @dic b ks ds h1 nd h2 =>
      have := dKv_le ks ds (by have := h2.len; rwa [List.length_map] at this)
      simp only [PyData.depth] at hn hl
      exact .dic (by rw [upd_ne (ne _ rfl)]; exact h1) nd (all h2 (by omega) (by omega))
theorem Dq.upd {H : Hp} {a : Addr} {da d : PyData} {v : V} {o : HO} (h : Dq H v d) (ha : Dq H (.ref a) da) (hl : PyData.depth d < PyData.depth da) : Dq (upd H a o) v d := dq_upd_n ha _ d v (Nat.le_refl _) hl h
theorem mem_depth {d : PyData} : ∀ {ds : List PyData}, d ∈ ds → PyData.depth d ≤ PyData.depthAll ds
  | e :: ds, h => by
    show _ ≤ max (PyData.depth e) (PyData.depthAll ds)
    rcases List.mem_cons.mp h with rfl | h
    · omega
    · have := mem_depth h
      omega
/-! ### reading a dict's data -/
def keyB : PyData → Key → Bool
  | .int i, .inl j => decide (i = j)
  | .str x, .inr y => decide (x = y)
  | _, _ => false
theorem keyB_en (a b : Key) : keyB (enK a) b = decide (a = b) := by
  cases a with
  | inl i => cases b with
    | inl j => show decide (i = j) = decide (Sum.inl i = Sum.inl j); by_cases e : i = j <;> simp [e]
    | inr y => show false = decide (Sum.inl i = Sum.inr y); simp
  | inr x => cases b with
    | inl j => show false = decide (Sum.inr x = Sum.inl j); simp
    | inr y => show decide (x = y) = decide (Sum.inr x = Sum.inr y); by_cases e : x = y <;> simp [e]
def lkp : List (PyData × PyData) → Key → Option PyData
  | [], _ => none
  | p :: r, k => if keyB p.1 k = true then some p.2 else lkp r k
theorem lkp_at {H : Hp} {k : Key} : ∀ {ks : List (Key × V)} {ds : List PyData}, DqAll H (ks.map (·.2)) ds → (lkp (zipK ks ds) k = none ∧ valV ks k = none) ∨ ∃ d v, lkp (zipK ks ds) k = some d ∧ valV ks k = some v ∧ Dq H v d
  | [], ds, h => by
    cases h
    exact .inl ⟨rfl, rfl⟩
  | p :: ks, _, .cons (d := d) (ds := ds) a b => by
    have e : lkp (zipK (p :: ks) (d :: ds)) k = if keyB (enK p.1) k = true then some d else lkp (zipK ks ds) k := rfl
    rw [e, keyB_en]
    by_cases q : p.1 = k
    · rw [if_pos (decide_eq_true q), valV_pos q]
      exact .inr ⟨d, p.2, rfl, rfl, a⟩
    · rw [if_neg (by simp [q]), valV_neg q]
      exact lkp_at b
theorem dq_dict {H : Hp} {v : V} {kvs : List (PyData × PyData)} (h : Dq H v (.dict kvs)) : ∃ a ks, v = .ref a ∧ H a = some (.dK ks) ∧ (ks.map (·.1)).Nodup ∧ ks.length = kvs.length ∧
    ∀ k, (lkp kvs k = none ∧ valV ks k = none) ∨ ∃ d v, lkp kvs k = some d ∧ valV ks k = some v ∧ Dq H v d := by
  cases h with
  | @dic a ks ds h1 nd h2 =>
    refine ⟨a, ks, rfl, h1, nd, ?_, fun k => lkp_at h2⟩
    have e : ks.length = ds.length := by have := h2.len; rwa [List.length_map] at this
    have : ((zipK ks ds).map (·.2)).length = ds.length := by rw [zipK_vals e]
    rw [List.length_map] at this
    omega
theorem dq_list {H : Hp} {v : V} {ds : List PyData} (h : Dq H v (.list ds)) : ∃ a xs, v = .ref a ∧ H a = some (.lst xs) ∧ DqAll H xs ds := by
  cases h with
  | @lst a xs _ h1 h2 => exact ⟨a, xs, rfl, h1, h2⟩
theorem dq_tup {H : Hp} {v : V} {ds : List PyData} (h : Dq H v (.tuple ds)) : ∃ a xs, v = .ref a ∧ H a = some (.tup xs) ∧ DqAll H xs ds := by
  cases h with
  | @tup a xs _ h1 h2 => exact ⟨a, xs, rfl, h1, h2⟩
theorem dqAll_at {H : Hp} : ∀ {vs : List V} {ds : List PyData}, DqAll H vs ds → ∀ {i : Nat} {d : PyData}, ds[i]? = some d → ∃ v, vs[i]? = some v ∧ Dq H v d
  | _, _, .nil, i, d, h => by simp at h
  | _, _, .cons a b, 0, d, h => by
    simp at h
    subst h
    exact ⟨_, rfl, a⟩
  | _, _, .cons a b, i + 1, d, h => by
    simp at h
    obtain ⟨v, h1, h2⟩ := dqAll_at b h
    exact ⟨v, by simpa using h1, h2⟩
theorem dqAll_ap {H : Hp} : ∀ {vs ws : List V} {ds es : List PyData}, DqAll H vs ds → DqAll H ws es → DqAll H (vs ++ ws) (ds ++ es)
  | _, _, _, _, .nil, q => q
  | _, _, _, _, .cons a b, q => .cons a (dqAll_ap b q)
/-! ### small data -/
structure Small (c k : Nat) (d : PyData) : Prop where
  sh : PyData.showable d = true
  dp : PyData.depth d ≤ k
  ln : (PyData.shown d).length ≤ c
theorem Small.mono {c k c' k' : Nat} {d : PyData} (h : Small c k d) (h1 : c ≤ c') (h2 : k ≤ k') : Small c' k' d := ⟨h.sh, Nat.le_trans h.dp h2, Nat.le_trans h.ln h1⟩
theorem tupText_le (ts : List Str) : (tupleText ts).length ≤ 3 + piled ts := by
  have e1 : ((("(" : String) : Str)).length = 1 := rfl
  have e3 : (((if ts.length == 1 then ",)" else ")" : String) : Str)).length ≤ 2 := by split <;> decide
  unfold tupleText
  rw [strApp, strApp, e1]
  by_cases h : ts = []
  · subst h
    have : (Str.join ", " ([] : List Str)).length = 0 := rfl
    omega
  · have := join_length_add ts h
    omega
theorem shAll_mem : ∀ {ds : List PyData}, (∀ d ∈ ds, PyData.showable d = true) → PyData.showableAll ds = true
  | [], _ => rfl
  | d :: ds, h => by
    show (PyData.showable d && PyData.showableAll ds) = true
    rw [h d List.mem_cons_self, shAll_mem fun x hx => h x (List.mem_cons_of_mem _ hx)]
    rfl
theorem dpAll_mem {k : Nat} : ∀ {ds : List PyData}, (∀ d ∈ ds, PyData.depth d ≤ k) → PyData.depthAll ds ≤ k
  | [], _ => Nat.zero_le _
  | d :: ds, h => by
    show max (PyData.depth d) (PyData.depthAll ds) ≤ k
    have := h d List.mem_cons_self
    have := dpAll_mem fun x hx => h x (List.mem_cons_of_mem _ hx)
    omega
theorem shownAll_len : ∀ ds : List PyData, (PyData.shownAll ds).length = ds.length
  | [] => rfl
  | d :: ds => by
    show (PyData.shownAll ds).length + 1 = _
    rw [shownAll_len ds]
    rfl
theorem shownAll_mem : ∀ {ds : List PyData} {t : Str}, t ∈ PyData.shownAll ds → ∃ d ∈ ds, t = PyData.shown d
  | d :: ds, t, h => by
    rcases List.mem_cons.mp (show t ∈ PyData.shown d :: PyData.shownAll ds from h) with rfl | h
    · exact ⟨d, List.mem_cons_self, rfl⟩
    · obtain ⟨e, h1, h2⟩ := shownAll_mem h
      exact ⟨e, List.mem_cons_of_mem _ h1, h2⟩
theorem piledAll {c k : Nat} {ds : List PyData} (h : ∀ d ∈ ds, Small c k d) : piled (PyData.shownAll ds) ≤ ds.length * (c + 2) := by
  have := piled_le (c := c) (ts := PyData.shownAll ds) fun t ht => by
    obtain ⟨d, hd, rfl⟩ := shownAll_mem ht
    exact (h d hd).ln
  rwa [shownAll_len] at this
theorem small_list {c k n : Nat} {ds : List PyData} (h : ∀ d ∈ ds, Small c k d) (hl : ds.length ≤ n) : Small (2 + n * (c + 2)) (k + 1) (.list ds) := by
  refine ⟨?_, ?_, ?_⟩
  · show PyData.showableAll ds = true
    exact shAll_mem fun d hd => (h d hd).sh
  · show PyData.depthAll ds + 1 ≤ k + 1
    have := dpAll_mem fun d hd => (h d hd).dp
    omega
  · show (listText (PyData.shownAll ds)).length ≤ _
    have h1 := listText_le (PyData.shownAll ds)
    have h2 := piledAll h
    have h3 := Nat.mul_le_mul_right (c + 2) hl
    omega
theorem small_tup {c k n : Nat} {ds : List PyData} (h : ∀ d ∈ ds, Small c k d) (hl : ds.length ≤ n) : Small (3 + n * (c + 2)) (k + 1) (.tuple ds) := by
  refine ⟨?_, ?_, ?_⟩
  · show PyData.showableAll ds = true
    exact shAll_mem fun d hd => (h d hd).sh
  · show PyData.depthAll ds + 1 ≤ k + 1
    have := dpAll_mem fun d hd => (h d hd).dp
    omega
  · show (tupleText (PyData.shownAll ds)).length ≤ _
    have h1 := tupText_le (PyData.shownAll ds)
    have h2 := piledAll h
    have h3 := Nat.mul_le_mul_right (c + 2) hl
    omega
theorem small_dict {c k n : Nat} {kvs : List (PyData × PyData)} (h : ∀ p ∈ kvs, Small c k p.1 ∧ Small c k p.2) (hl : kvs.length ≤ n) : Small (2 + n * (2 * c + 4)) (k + 1) (.dict kvs) := by
  have sh : ∀ L : List (PyData × PyData), (∀ p ∈ L, Small c k p.1 ∧ Small c k p.2) → PyData.showableKv L = true ∧ PyData.depthKv L ≤ k ∧ piled (PyData.shownKv L) ≤ L.length * (2 * c + 4) := by
    intro L
    induction L with
    | nil => exact fun _ => ⟨rfl, Nat.zero_le _, by simp [PyData.shownKv, piled]⟩
    | cons p L ih =>
      intro hp
      obtain ⟨i1, i2, i3⟩ := ih fun x hx => hp x (List.mem_cons_of_mem _ hx)
      obtain ⟨a, b⟩ := hp p List.mem_cons_self
      refine ⟨?_, ?_, ?_⟩
      · show (PyData.showable p.1 && PyData.showable p.2 && PyData.showableKv L) = true
        rw [a.sh, b.sh, i1]
        rfl
      · show max (max (PyData.depth p.1) (PyData.depth p.2)) (PyData.depthKv L) ≤ k
        have := a.dp
        have := b.dp
        omega
      · have e : PyData.shownKv (p :: L) = (PyData.shown p.1 ++ (": " : Str) ++ PyData.shown p.2) :: PyData.shownKv L := rfl
        have e2 : piled (PyData.shownKv (p :: L)) = (PyData.shown p.1 ++ (": " : Str) ++ PyData.shown p.2).length + 2 + piled (PyData.shownKv L) := by rw [e]; simp [piled]
        have e3 : ((": " : String) : Str).length = 2 := rfl
        have := a.ln
        have := b.ln
        have e4 : (p :: L).length * (2 * c + 4) = L.length * (2 * c + 4) + (2 * c + 4) := by rw [List.length_cons, Nat.succ_mul]
        rw [e2, strApp, strApp]
        omega
  obtain ⟨i1, i2, i3⟩ := sh kvs h
  refine ⟨i1, ?_, ?_⟩
  · show PyData.depthKv kvs + 1 ≤ k + 1
    omega
  · show (dictText (PyData.shownKv kvs)).length ≤ _
    have h1 := dictText_le (PyData.shownKv kvs)
    have h3 := Nat.mul_le_mul_right (2 * c + 4) hl
    omega
end VL

set_option Elab.async false
set_option linter.all false
set_option maxRecDepth 100000
set_option maxHeartbeats 4000000
namespace VL
open PySem PySem.Spec PyProof.Rows L2
/-! ### copies of values: what may be copied, what is new -/
mutual
def cpy : PyData → Bool
  | .list ds => decide (ds.length ≤ 1000) && cpyAll ds
  | .dict kvs => decide (kvs.length ≤ 1000) && cpyKv kvs
  | .tuple _ => false
  | .none | .bool _ | .int _ | .str _ => true
def cpyAll : List PyData → Bool
  | [] => true
  | d :: ds => cpy d && cpyAll ds
def cpyKv : List (PyData × PyData) → Bool
  | [] => true
  | (_, d) :: r => cpy d && cpyKv r
end
theorem cpyAll_mem : ∀ {ds : List PyData}, cpyAll ds = true → ∀ d ∈ ds, cpy d = true
  | e :: ds, h, d, hd => by
    have h' : cpy e = true ∧ cpyAll ds = true := by simpa [cpyAll] using h
    rcases List.mem_cons.mp hd with rfl | hd
    · exact h'.1
    · exact cpyAll_mem h'.2 d hd
theorem cpyKv_zip : ∀ {ks : List (Key × V)} {ds : List PyData}, ks.length = ds.length → cpyKv (zipK ks ds) = true → cpyAll ds = true
  | [], [], _, _ => rfl
  | p :: ks, d :: ds, hl, h => by
    have h' : cpy d = true ∧ cpyKv (zipK ks ds) = true := by
      have e : cpyKv (zipK (p :: ks) (d :: ds)) = (cpy d && cpyKv (zipK ks ds)) := rfl
      rw [e] at h
      simpa using h
    show (cpy d && cpyAll ds) = true
    rw [h'.1, cpyKv_zip (Nat.succ.inj hl) h'.2]
    rfl
/-- what has come since H -/
def newer (H H' : Hp) : Hp := fun b => match H b with
  | none => H' b
  | some _ => none
theorem newer_some {H H' : Hp} {b : Addr} {o : HO} (h : newer H H' b = some o) : H b = none ∧ H' b = some o := by
  unfold newer at h
  cases e : H b with
  | none => rw [e] at h; exact ⟨rfl, h⟩
  | some u => rw [e] at h; exact nomatch h
theorem newer_mk {H H' : Hp} {b : Addr} {o : HO} (h1 : H b = none) (h2 : H' b = some o) : newer H H' b = some o := by
  unfold newer
  rw [h1]
  exact h2
theorem newer_same (H H' : Hp) : Same (newer H H') H' := fun b o h => (newer_some h).2
def spCopy (n : Nat) : Sp := fun vs H Q _ => ∃ (v : V) (d : PyData), vs = [v] ∧ Dq H v d ∧ cpy d = true ∧ PyData.depth d ≤ n ∧ ∀ v' H', Same H H' → Dq (newer H H') v' d → Q v' H'
end VL

set_option Elab.async false
set_option linter.all false
set_option maxRecDepth 100000
set_option maxHeartbeats 4000000
namespace VL
open PySem PySem.Spec PyProof.Rows L2

/-! ### what the text has: methods with keyword-only parameters, properties, written tuples, own exceptions without a text of their own -/
def WrT (K : PySem.W.Frag) (a : Addr) (xs : List V) : Prop := ∃ (o : Obj) (its : Array Value) (n : Nat), K.lookup a = some o ∧ o.cls = .type "tuple" ∧ o.data = .seq its n ∧ its.size ≤ sizeLine ∧ Vals xs its.toList ∧ o.dict = none
abbrev catG {α : Type} (us ws : List α) : List α := us ++ ws
def MethKE (K : PySem.W.Frag) (C : Addr) (x qual : Str) (st : Stmt) (ps : List Str) (n : Nat) (ks : List Str) : Prop :=
  ∃ (f : Addr) (fd : FuncData), Fun K x qual st f fd ∧ Meth K C x f ∧ KBn K fd ps n ks catG catG
def PropE (K : PySem.W.Frag) (C : Addr) (x qual : Str) (st : Stmt) : Prop := ∃ (p g : Addr) (fd : FuncData), PropOf K C x p g ∧ Fun K x qual st g fd ∧ Binds K fd ["self"] []
structure ExT (K : PySem.W.Frag) (mg : Str → Option Value) (x : Str) (D : Addr) : Prop where
  g : mg x = some (.ref D)
  xx : PySem.W.excIn K D [.type "ValueError", .type "Exception", .type "BaseException", .type "object"] "ValueError.__new__" = true
  kp : PySem.W.keepIn K (.ref D) = true
  bP : PySem.W.subIn K (.ref D) (.type "BaseException") = some true
  tP : PySem.W.typeIn K (.ref D) = some (.type "type")
  em : PySem.W.exmOne K (.ref D) (.ref D) = some true
  ec : ExcC K D
theorem fun_kbn {K : PySem.W.Frag} {x qual : Str} {st : Stmt} {f : Addr} {fd : FuncData} {ps : List Str} (F : Fun K x qual st f fd) (n : Nat) (ks : List Str)
    (h : ∀ (kV doc pm : Value) (an : Option Addr) (cdv ct : Value) (us ws : List Value), us.length = n → ws.length = ks.length → bindArgs (PySem.W.fnOf x qual (defArgs st) (defBody st) (defScope st) .none kV doc pm an cdv ct) ⟨us, ks.zip ws⟩ = pure (ps.zip (us ++ ws))) :
    KBn K fd ps n ks catG catG := by
  obtain ⟨oc, od, kV, doc, pm, an, cdv, ct, osl, rfl, lk, hcd⟩ := F.ex
  exact ⟨fun s us ws X l1 l2 => .of_eq (h kV doc pm an cdv ct us ws l1 l2), fun r1 r2 => r1.append r2⟩
/-! ### as callers see them -/
structure MetK (P : Program) (w : World) (K : PySem.W.Frag) (mg : Str → Option Value) (base : Heap) (k : Nat) (C : Addr) (m : Str) (sp : Sp) (n : Nat) (ks : List Str) (gV : List V → List V → List V) : Prop where
  ex : ∃ (f : Addr) (fd : FuncData) (ps : List Str) (g : List Value → List Value → List Value), Cls K C ∧ Meth K C m f ∧ FnOk P w K mg base CX0 k f fd ps sp ∧ KBn K fd ps n ks g gV
structure Pro (P : Program) (w : World) (K : PySem.W.Frag) (mg : Str → Option Value) (base : Heap) (k : Nat) (C : Addr) (x : Str) (sp : Sp) : Prop where
  ex : ∃ (p g : Addr) (fd : FuncData), Cls K C ∧ PropOf K C x p g ∧ FnOk P w K mg base CX0 k g fd ["self"] sp ∧ Binds K fd ["self"] []
/-- o.m(.., k = v, ..): n is one more than the values written -/
def tMethK (C : Addr) (m : Str) (sp : Sp) (n kn : Nat) (gV : List V → List V → List V) (ta : TE) (t tk : TA) : TE := fun σ H Q => ta σ H fun x H1 => ∃ a dx fs, x = .ref a ∧ H1 a = some (.ins C dx fs) ∧ fs.lookup m = none ∧ t σ H1 fun vs H2 => tk σ H2 fun zs H3 => vs.length + 1 = n ∧ zs.length = kn ∧ sp (gV (.ref a :: vs) zs) H3 Q E0
section
variable {X : Cx} {k j n : Nat} {C : Addr} {m x : Str} {ks : List Str} {sp : Sp} {pos apos : Pos} {e o : Expr} {es : List Expr} {kws : List Keyword} {ta : TE} {t tk : TA} {gV : List V → List V → List V}
theorem pe_mtK {pl : Sem Bool} (c : MetK X.prog X.w X.K X.mg X.base k C m sp n ks gV) (hr : Room j X.A) (hk : k ≤ j) (he : PE X o ta) (ha : PA X (e :: es) t) (hkw : PK X kws tk)
    (hall : (backToKw pos (keywordEach kws X.env)).all (·.1.isSome) = true := by rfl) (hks : (backToKw pos (keywordEach kws X.env)).filterMap (·.1) = ks := by rfl)
    (hst : starEach (e :: es) X.env = (false, eval e X.env) :: starEach es X.env := by rfl)
    (hpl : ((backTo pos (starEach (e :: es) X.env)).any (·.1) || (backToKw pos (keywordEach kws X.env)).any (·.1.isNone)) = false := by rfl)
    (ht : eval (.Call (.Attribute o m apos) (e :: es) kws pos) X.env = (do
      let ov ← eval o X.env
      standAt apos.atName
      let (f, first) ← holding [ov] (getMethod ov m pl)
      callWith pos f first (backTo pos (starEach (e :: es) X.env)) (backToKw pos (keywordEach kws X.env))) := by rfl) :
    PE X (.Call (.Attribute o m apos) (e :: es) kws pos) (tMethK C m sp n ks.length gV ta t tk) := by
  obtain ⟨f, fd, ps, g, hc, hm, F, b⟩ := c.ex
  refine ⟨fun pins s σ H Q I h => ?_⟩
  refine PySem.W.methodCall_KW (pl := pl) (thn (he.run pins s σ H _ I h) fun u s1 ⟨x, H1, I1, rx, a, dx, fs, ex, ea, l, q⟩ => ?_) ht
  subst ex
  obtain rfl : u = Value.ref a := rx
  refine getmeth_ok I1 ea hc hm l ?_
  refine PySem.W.callWith_KW (first := [.ref a]) (h₀ := X.base) I.ok.mod.kin hm.kp hall (thn (ha.run pos pins s1 σ H1 _ I1 q) fun us s2 ⟨vs, H2, I2, r, q2⟩ => ?_) hpl hst
  refine thn (hkw.run pos pins s2 σ H2 _ I2 q2) fun ws s3 ⟨zs, H3, I3, rz, l1, l2, q3⟩ => ⟨I3.kIn, ?_⟩
  rw [hks]
  exact run_fnN (us := .ref a :: us) (vs := .ref a :: vs) F (hr.mono hk) b pass0 I3 (.cons rfl r) rz l1 l2 q3
theorem pe_mtK0 {pl : Sem Bool} (c : MetK X.prog X.w X.K X.mg X.base k C m sp n ks gV) (hr : Room j X.A) (hk : k ≤ j) (he : PE X o ta) (hkw : PK X kws tk)
    (hall : (backToKw pos (keywordEach kws X.env)).all (·.1.isSome) = true := by rfl) (hks : (backToKw pos (keywordEach kws X.env)).filterMap (·.1) = ks := by rfl)
    (hpl : ((backTo pos (starEach [] X.env)).any (·.1) || (backToKw pos (keywordEach kws X.env)).any (·.1.isNone)) = false := by rfl)
    (ht : eval (.Call (.Attribute o m apos) [] kws pos) X.env = (do
      let ov ← eval o X.env
      standAt apos.atName
      let (f, first) ← holding [ov] (getMethod ov m pl)
      callWith pos f first (backTo pos (starEach [] X.env)) (backToKw pos (keywordEach kws X.env))) := by rfl) :
    PE X (.Call (.Attribute o m apos) [] kws pos) (tMethK C m sp n ks.length gV ta tNil tk) := by
  obtain ⟨f, fd, ps, g, hc, hm, F, b⟩ := c.ex
  refine ⟨fun pins s σ H Q I h => ?_⟩
  refine PySem.W.methodCall_KW (pl := pl) (thn (he.run pins s σ H _ I h) fun u s1 ⟨x, H1, I1, rx, a, dx, fs, ex, ea, l, q⟩ => ?_) ht
  subst ex
  obtain rfl : u = Value.ref a := rx
  refine getmeth_ok I1 ea hc hm l ?_
  refine PySem.W.callWith_KW0 (first := [.ref a]) (h₀ := X.base) I.ok.mod.kin hm.kp hall ?_ hpl
  refine thn (hkw.run pos pins s1 σ H1 _ I1 q) fun ws s3 ⟨zs, H3, I3, rz, l1, l2, q3⟩ => ⟨I3.kIn, ?_⟩
  rw [hks]
  exact run_fnN (us := [.ref a]) (vs := [.ref a]) F (hr.mono hk) b pass0 I3 (.cons rfl .nil) rz l1 l2 q3
theorem pe_pr (c : Pro X.prog X.w X.K X.mg X.base k C x sp) (hr : Room j X.A) (hk : k + 1 ≤ j) (he : PE X e ta) (hab : attributeBase e x X.env (eval e X.env) = eval e X.env := by rfl) : PE X (.Attribute e x pos) (tProp C sp [] E0 ta) := by
  obtain ⟨p, g, fd, hc, hp, F, b⟩ := c.ex
  exact pe_prop he hc hp F (hr.mono hk) b .nil pass0 hab
end
section
variable {P : Program} {w : World} {K : PySem.W.Frag} {mg : Str → Option Value} {base : Heap}
theorem metK_of {C : Addr} {x qual : Str} {st : Stmt} {ps ks N : List Str} {k n : Nat} {sp : Sp} (D : MethKE K C x qual st ps n ks) (c : Cls K C) (S : FnScope N ps (defScope st)) (len : ∀ vs H Q E, sp vs H Q E → vs.length = ps.length)
    (hbody : ∀ (f : Addr) (cdv : Value) (A : Around) (outer : List Env) (s : Shared) (H : Hp) (vs : List V) (Q : VK) (E : XK), Room k (A.deeper (envOfC qual (defScope st) s.heap.objs.size f cdv)) → sp vs H Q E →
      ∃ t, PSs (cxOf CX0 P w K mg base N qual (defScope st) f cdv A outer s H E).nox (defBody st) t ∧ t { nx := fun _ H' => Q .non H', rt := Q } (start N vs) H) : MetK P w K mg base (k + 1) C x sp n ks catG := by
  obtain ⟨f, fd, F, hm, b⟩ := D
  exact ⟨f, fd, ps, _, c, hm, F.ok S len (hbody f), b⟩
theorem pro_of {C : Addr} {x qual : Str} {st : Stmt} {N : List Str} {k : Nat} {sp : Sp} (D : PropE K C x qual st) (c : Cls K C) (S : FnScope N ["self"] (defScope st)) (len : ∀ vs H Q E, sp vs H Q E → vs.length = 1)
    (hbody : ∀ (f : Addr) (cdv : Value) (A : Around) (outer : List Env) (s : Shared) (H : Hp) (vs : List V) (Q : VK) (E : XK), Room k (A.deeper (envOfC qual (defScope st) s.heap.objs.size f cdv)) → sp vs H Q E →
      ∃ t, PSs (cxOf CX0 P w K mg base N qual (defScope st) f cdv A outer s H E).nox (defBody st) t ∧ t { nx := fun _ H' => Q .non H', rt := Q } (start N vs) H) : Pro P w K mg base (k + 1) C x sp := by
  obtain ⟨p, g, fd, hp, F, b⟩ := D
  exact ⟨p, g, fd, c, hp, F.ok S len (hbody g), b⟩
end
end VL

set_option Elab.async false
set_option linter.all false
set_option maxRecDepth 100000
set_option maxHeartbeats 4000000
namespace VL
open PySem PySem.Spec PyProof.Rows L2
/-! ### rules whose readings speak of K, with K told: within comprehensions and except suites -/
theorem u65 {A : Around} {k : Nat} (r : Room k A) : A.units + 65 < cLine := by have := r.un; omega
section
variable {X : Cx} {K : PySem.W.Frag} {e o : Expr} {f : Str} {pos : Pos} {ta : TE}
theorem pe_fldS (hK : X.K = K) (he : PE X e ta) (hb : attributeBase e f X.env (eval e X.env) = eval e X.env) : PE X (.Attribute e f pos) (tFld K ta f) := by subst hK; exact pe_fld he hb
theorem pe_conS (hK : X.K = K) (he : PE X e ta) (hb : attributeBase e f X.env (eval e X.env) = eval e X.env) : PE X (.Attribute e f pos) (tCon K ta f) := by subst hK; exact pe_con he hb
theorem pe_cvalS (hK : X.K = K) (he : PE X e ta) (hb : attributeBase e f X.env (eval e X.env) = eval e X.env := by rfl) : PE X (.Attribute e f pos) (ClX.tCVal K ta f) := by subst hK; exact ClX.pe_cval he hb
theorem ix_listS (hK : X.K = K) : IxR X (rIxL K) := by subst hK; exact ix_list
theorem ix_tupS (hK : X.K = K) : IxR X (rIxT K) := by subst hK; exact ix_tup
theorem sl_listS (hK : X.K = K) : SlR X (rSlL K) := by subst hK; exact sl_list
theorem sl_tupS (hK : X.K = K) : SlR X (rSlT K) := by subst hK; exact sl_tup
theorem op_in_seqS (hK : X.K = K) : OpR X (compareOp .In) (rIn K false) := by subst hK; exact op_in_seq
theorem op_notIn_seqS (hK : X.K = K) : OpR X (compareOp .NotIn) (rIn K true) := by subst hK; exact op_notIn_seq
theorem call_len_seqS (hK : X.K = K) : CallR X (.builtin "len") (fun xs H Q => ∃ p ys, xs = [.ref p] ∧ (SqL K H p ys ∨ SqT K H p ys) ∧ Q (.int ys.length) H) := by subst hK; exact call_len_seq
theorem call_list_ofS (hK : X.K = K) : CallR X (.type "list") (fun xs H Q => ∃ p ys, xs = [.ref p] ∧ (SqL K H p ys ∨ SqT K H p ys) ∧ ∀ l, H l = none → Q (.ref l) (upd H l (.lst ys))) := by subst hK; exact call_list_of
theorem call_isiS (hK : X.K = K) : CallR X (.builtin "isinstance") (rIsi K) := by subst hK; exact call_isi
theorem op_eqDS (hK : X.K = K) (hu : X.A.units + 64 < cLine) : OpR X (compareOp .Eq) (rEqD K) := by subst hK; exact op_eqD hu
theorem op_neDS (hK : X.K = K) (hu : X.A.units + 64 < cLine) : OpR X (compareOp .NotEq) (rNeD K) := by subst hK; exact op_neD hu
theorem cr_maxS (hK : X.K = K) (hc : X.calm = true) : CallR X (.builtin "max") (rMax K) := by subst hK; exact cr_max hc
theorem cr_minS (hK : X.K = K) (hc : X.calm = true) : CallR X (.builtin "min") (rMin K) := by subst hK; exact cr_min hc
theorem op_inDS (hK : X.K = K) (hu : X.A.units + 65 < cLine) : OpR X (compareOp .In) (rInD K) := by subst hK; exact op_inD hu
theorem pt_truthS (hK : X.K = K) (ha : PE X e ta) (he : ∀ whole, isTrue e X.env whole = (do let v ← whole; standAt e.pos; holding [v] (truthy v))) :
    PT X e (fun σ H Q => ta σ H fun x H' => ∃ k, TruV K x H' k ∧ Q k H') := by subst hK; exact pt_truth ha he
theorem pi_listS {tg : Expr} (hK : X.K = K) (hl : PE X e ta) : PI X tg e (iList K ta) := by subst hK; exact pi_list hl
theorem pi_tupS {tg : Expr} (hK : X.K = K) (hl : PE X e ta) : PI X tg e (iTup K ta) := by subst hK; exact pi_tup hl
theorem pg_tupS {es : List Expr} {k : Nat} {t : TGs} {n : Nat} (hK : X.K = K) (hc : X.calm = true) (h : PGs X es t)
    (hn : (assignEach es X.env).length = n := by rfl) (hst : (assignEach es X.env).findIdx? (·.1) = none := by rfl) : PG X (.Tuple es k pos) (gTup K n t) := by subst hK; exact pg_tup hc h hn hst
end
end VL

set_option Elab.async false
set_option linter.all false
set_option maxRecDepth 100000
set_option maxHeartbeats 4000000
namespace VL
open PySem PySem.Spec PyProof.Rows L2

/-! ### texts as lists of signs -/
abbrev TX (l : List Nat) : Str := ⟨l.toArray⟩
theorem TX_tl (l : List Nat) : (TX l).cps.toList = l := by simp
theorem TX_len (l : List Nat) : (TX l).length = l.length := by simp [Str.length]
theorem TX_cat (a b : List Nat) : TX a ++ TX b = TX (a ++ b) := SX.S_cat a b
theorem TX_inj {a b : List Nat} (h : TX a = TX b) : a = b := SX.S_inj h
theorem vstr_TX {a b : List Nat} : decide (V.str (TX a) = V.str (TX b)) = decide (a = b) := by
  by_cases e : a = b
  · subst e; simp
  · have : ¬ V.str (TX a) = V.str (TX b) := fun q => e (TX_inj (V.str.inj q))
    rw [decide_eq_false this, decide_eq_false e]
theorem one_eq {c d : Nat} : decide (V.str (TX [c]) = V.str (TX [d])) = decide (c = d) := by
  rw [vstr_TX]
  by_cases e : c = d
  · subst e; simp
  · simp [e]
/-- the sign at a place -/
theorem at_mid {pre r : List Nat} {c : Nat} {i : Int} (hi : i = (pre.length : Int)) : atI (TX (pre ++ c :: r)).cps.toList i = some c := by
  subst hi
  rw [TX_tl]
  unfold atI ixN
  rw [if_pos (by omega), if_pos (by simp; omega)]
  show (pre ++ c :: r)[(pre.length : Int).toNat]? = _
  rw [Int.toNat_natCast]
  simp
theorem getD_TX (l : List Nat) (v : Nat) : (TX l).cps.getD v 0 = l.getD v 0 := by
  simp only [Array.getD, List.getD_eq_getElem?_getD]
  by_cases h : v < l.length
  · rw [dif_pos (by simpa using h)]
    simp [h]
  · rw [dif_neg (by simpa using h), List.getElem?_eq_none (by omega)]
    rfl
theorem lt_one {c d : Nat} : ([c] < [d]) ↔ c < d := by
  constructor
  · intro h
    cases h with
    | rel h => exact h
    | cons h => cases h
  · intro h
    exact .rel h
/-- s.startswith(y, i) -/
theorem starts_at {pre R y : List Nat} {i : Int} (hi : i = (pre.length : Int)) : Txt.startswith3 (TX (pre ++ R)) (TX y) i = (R.take y.length == y) := by
  subst hi
  have e : fromIndex (TX (pre ++ R)).length (pre.length : Int) = pre.length := by
    unfold fromIndex
    rw [if_neg (by omega)]
    omega
  unfold Txt.startswith3
  rw [e, StrLaws.subAt_eq]
  have h1 : (TX (pre ++ R)).cps.toList.drop pre.length = R := by simp
  rw [h1, TX_len, TX_len]
  show (decide (pre.length + y.length ≤ (pre ++ R).length) && (R.take y.length == (TX y).cps.toList)) = _
  rw [TX_tl, List.length_append]
  by_cases h : y.length ≤ R.length
  · rw [decide_eq_true (by omega)]
    rfl
  · rw [decide_eq_false (by omega)]
    have : (R.take y.length == y) = false := by
      refine beq_eq_false_iff_ne.mpr fun q => h ?_
      have := congrArg List.length q
      rw [List.length_take] at this
      omega
    rw [this]
    rfl
/-- s.find("\n", i) -/
theorem find_nl {pre c r : List Nat} {d : Nat} {i : Int} (hi : i = (pre.length : Int)) (hc : d ∉ c) : Txt.find3 (TX (pre ++ (c ++ d :: r))) (TX [d]) i = ((pre.length + c.length : Nat) : Int) := by
  subst hi
  have e : fromIndex (TX (pre ++ (c ++ d :: r))).length (pre.length : Int) = pre.length := by
    unfold fromIndex
    rw [if_neg (by omega)]
    omega
  have hg : ∀ v, v < (pre ++ (c ++ d :: r)).length → (TX (pre ++ (c ++ d :: r))).cps.getD v 0 = (pre ++ (c ++ d :: r)).getD v 0 := fun v _ => getD_TX _ v
  have hat : (pre ++ (c ++ d :: r)).getD (pre.length + c.length) 0 = d := by simp [List.getD_eq_getElem?_getD]
  have hlt : pre.length + c.length < (pre ++ (c ++ d :: r)).length := by rw [List.length_append, List.length_append, List.length_cons]; omega
  rcases StrLaws.find3_spec (TX (pre ++ (c ++ d :: r))) d (pre.length : Int) with ⟨_, h2⟩ | ⟨k, h1, h2, h3, h4, h5⟩
  · rw [e, TX_len] at h2
    exact absurd (by rw [hg _ hlt]; exact hat) (h2 (pre.length + c.length) (by omega) hlt)
  · rw [e] at h2 h5
    rw [TX_len] at h3
    rw [h1]
    have hk : k = pre.length + c.length := by
      rcases Nat.lt_trichotomy k (pre.length + c.length) with q | q | q
      · exfalso
        rw [hg k h3] at h4
        have e3 : (pre ++ (c ++ d :: r)).getD k 0 = c.getD (k - pre.length) 0 := by
          rw [List.getD_eq_getElem?_getD, List.getD_eq_getElem?_getD, List.getElem?_append_right h2, List.getElem?_append_left (by omega)]
        rw [e3] at h4
        apply hc
        have hlt2 : k - pre.length < c.length := by omega
        rw [List.getD_eq_getElem?_getD, List.getElem?_eq_getElem hlt2] at h4
        have h4 : c[k - pre.length] = d := h4
        rw [← h4]
        exact List.getElem_mem hlt2
      · exact q
      · exfalso
        exact h5 (pre.length + c.length) (by omega) q (by rw [hg _ hlt]; exact hat)
    rw [hk]
/-- s[i:j] -/
theorem cut_mid {pre m r : List Nat} {i j : Int} (hi : i = (pre.length : Int)) (hj : j = ((pre.length + m.length : Nat) : Int)) : cutS (TX (pre ++ (m ++ r))) (some i) (some j) = TX m := by
  subst hi hj
  unfold cutS
  rw [TX_len, HT.sIx_nat, HT.sIx_nat, TX_tl]
  have e1 : min pre.length (pre ++ (m ++ r)).length = pre.length := by simp
  have e2 : min (pre.length + m.length) (pre ++ (m ++ r)).length = pre.length + m.length := by simp
  rw [e1, e2]
  refine congrArg TX ?_
  rw [List.drop_left, Nat.add_sub_cancel_left, List.take_left]

/-! ### rows -/
def rws : List Nat → List Nat → List (List Nat)
  | acc, [] => [acc]
  | acc, c :: r => if c = 10 then acc :: rws [] r else rws (acc ++ [c]) r
theorem spl_rws : ∀ (l acc : List Nat), TL.spl [10] 0 acc l = rws acc l
  | [], acc => by rw [TL.spl_nil]; rfl
  | c :: r, acc => by
    unfold rws
    by_cases h : c = 10
    · subst h
      rw [if_pos rfl, TL.spl_hit (by rfl)]
      exact congrArg (acc :: ·) (spl_rws r [])
    · rw [if_neg h, TL.spl_miss (by
        show TL.pre [10] (c :: r) = false
        unfold TL.pre
        simp [h])]
      exact spl_rws r _
theorem rws_ne : ∀ (l acc : List Nat), rws acc l ≠ []
  | [], acc => by unfold rws; simp
  | c :: r, acc => by
    unfold rws
    split
    · simp
    · exact rws_ne r _
def lnOf (l : List Nat) : Nat := (rws [] l).length
def clOf (l : List Nat) : Nat := ((rws [] l).getLast (rws_ne _ _)).length
theorem rws_plain : ∀ (l acc m : List Nat), 10 ∉ m → ∃ fr la, rws acc l = fr ++ [la] ∧ rws acc (l ++ m) = fr ++ [la ++ m]
  | [], acc, m, h => by
    refine ⟨[], acc, rfl, ?_⟩
    show rws acc m = [acc ++ m]
    induction m generalizing acc with
    | nil => rw [List.append_nil]; rfl
    | cons c m ih =>
      have hc : c ≠ 10 := fun e => h (by rw [e]; exact List.mem_cons_self)
      unfold rws
      rw [if_neg hc, ih _ fun e => h (List.mem_cons_of_mem _ e), List.append_assoc]
      rfl
  | c :: r, acc, m, h => by
    rw [List.cons_append]
    unfold rws
    by_cases hc : c = 10
    · rw [if_pos hc, if_pos hc]
      obtain ⟨fr, la, e1, e2⟩ := rws_plain r [] m h
      exact ⟨acc :: fr, la, by rw [e1]; rfl, by rw [e2]; rfl⟩
    · rw [if_neg hc, if_neg hc]
      exact rws_plain r _ m h
theorem rws_nl : ∀ (l acc : List Nat), rws acc (l ++ [10]) = rws acc l ++ [[]]
  | [], acc => by
    show rws acc [10] = [acc] ++ [[]]
    unfold rws
    rw [if_pos rfl]
    rfl
  | c :: r, acc => by
    rw [List.cons_append]
    unfold rws
    split
    · rw [rws_nl r []]; rfl
    · exact rws_nl r _
theorem getLast_of {α : Type} {l fr : List α} {la : α} (h : l ≠ []) (e : l = fr ++ [la]) : l.getLast h = la := by
  subst e
  simp
theorem ln_plain (l m : List Nat) (h : 10 ∉ m) : lnOf (l ++ m) = lnOf l := by
  obtain ⟨fr, la, e1, e2⟩ := rws_plain l [] m h
  unfold lnOf
  rw [e1, e2]
  simp
theorem cl_plain (l m : List Nat) (h : 10 ∉ m) : clOf (l ++ m) = clOf l + m.length := by
  obtain ⟨fr, la, e1, e2⟩ := rws_plain l [] m h
  unfold clOf
  rw [getLast_of _ e1, getLast_of _ e2, List.length_append]
theorem ln_nl (l : List Nat) : lnOf (l ++ [10]) = lnOf l + 1 := by
  unfold lnOf
  rw [rws_nl]
  simp
theorem cl_nl (l : List Nat) : clOf (l ++ [10]) = 0 := by
  unfold clOf
  rw [getLast_of _ (rws_nl l [])]
  rfl
theorem cl_le : ∀ l : List Nat, clOf l ≤ l.length := by
  intro l
  have : ∀ (l acc : List Nat), ((rws acc l).getLast (rws_ne _ _)).length ≤ acc.length + l.length := by
    intro l
    induction l with
    | nil => intro acc; simp [rws]
    | cons c r ih =>
      intro acc
      by_cases hc : c = 10
      · have e : rws acc (c :: r) = acc :: rws [] r := by
          show (if c = 10 then _ else _) = _
          rw [if_pos hc]
        have e2 : (rws acc (c :: r)).getLast (rws_ne _ _) = (rws [] r).getLast (rws_ne _ _) := by
          simp only [e]
          exact List.getLast_cons (rws_ne _ _)
        rw [e2]
        have := ih []
        simp at this ⊢
        omega
      · have e : rws acc (c :: r) = rws (acc ++ [c]) r := by
          show (if c = 10 then _ else _) = _
          rw [if_neg hc]
        have e2 : (rws acc (c :: r)).getLast (rws_ne _ _) = (rws (acc ++ [c]) r).getLast (rws_ne _ _) := by simp only [e]
        rw [e2]
        have := ih (acc ++ [c])
        simp at this ⊢
        omega
  have := this l []
  simpa [clOf] using this
/-- row = source.split("\n"): how many, and the last one's length -/
theorem split_rows (l : List Nat) : Txt.split (TX l) (TX [10]) = (rws [] l).map TX := by
  have := SX.split_S (a := l) (b := [10]) (by simp) (by decide)
  rw [spl_rws] at this
  exact this
theorem rows_last (l : List Nat) : ∃ la : List Nat, atI ((rws [] l).map fun r => V.str (TX r)) (-1) = some (.str (TX la)) ∧ la.length = clOf l := by
  refine ⟨(rws [] l).getLast (rws_ne _ _), ?_, rfl⟩
  have hp : 0 < (rws [] l).length := List.length_pos_iff.mpr (rws_ne _ _)
  unfold atI ixN
  rw [if_neg (by decide), if_pos (by rw [List.length_map]; omega)]
  show ((rws [] l).map fun r => V.str (TX r))[_]? = _
  have e : (-1 + (((rws [] l).map fun r => V.str (TX r)).length : Int)).toNat = (rws [] l).length - 1 := by rw [List.length_map]; omega
  rw [e, List.getElem?_map, List.getElem?_eq_getElem (by omega), List.getLast_eq_getElem]
  rfl

/-! ### signs -/
def isLet (c : Nat) : Bool := (decide (97 ≤ c) && decide (c ≤ 122)) || (decide (65 ≤ c) && decide (c ≤ 90))
def isDig (c : Nat) : Bool := decide (48 ≤ c) && decide (c ≤ 57)
def isWs (c : Nat) : Bool := isLet c || isDig c || decide (c = 95)
end VL

set_option Elab.async false
set_option linter.all false
set_option maxRecDepth 100000
set_option maxHeartbeats 4000000
namespace PySem
section
variable {prog : Program} {w : World} {K : Type} [DecidableEq K] {knd : KeyKind prog w K} {A : Around} {E : Value → Shared → Prop} {s : Shared}
theorem wpAny_dictPut_pairs {d : Addr} {kvs : List (K × Value)} {k : K} {key v : Value} {Q : Unit → Shared → Prop} (hkey : knd.is k key = true) (hm : s.heap.DictOf knd d kvs)
    (hQ : ∀ h', h'.DictOf knd d (stored kvs k v) → Heap.SameBut d s.heap h' → Q () { s with heap := h' })
    (hsz : kvs.length ≤ sizeLine := by size_fits) :
    wpAny (model prog w) A (dictPut d (knd.hash k) key v) Q E s := by
  obtain ⟨o, es, ep, ho, hc, hd, hk, hp, hn⟩ := hm
  have hes : es.size ≤ sizeLine := by have e1 := hp.length; have e2 : es.toList.length = es.size := by simp
                                      omega
  unfold dictPut
  refine wpAny_bind (wpAny_dictFind_of hkey ho hd hk ?_)
  have hidx : (es.findIdx? fun e => knd.is k e.key) = kvs.findIdx? fun kv => decide (kv.1 = k) := by
    rw [← hp.findIdx k]; obtain ⟨l⟩ := es; simp
  cases hi : es.findIdx? fun e => knd.is k e.key with
  | some i =>
    refine wpAny_updateDict ho hd (hQ _ ⟨_, _, ep, Heap.get?_update_self _ ho (Obj.isFreed_of_dict (Obj.data_mapDict hd _)),
      hc.mapDict _, Obj.data_mapDict hd _, hk.modify _ _, ?_, ?_⟩ (Heap.SameBut.update ..))
    · rw [stored, if_pos (any_of_findIdx_some (hidx ▸ hi))]
      have hl : (es.toList.findIdx? fun e => knd.is k e.key) = some i := by rw [← hi]; obtain ⟨l⟩ := es; simp
      have := hp.modify hn hl v
      obtain ⟨l⟩ := es
      simpa using this
    · rw [stored, if_pos (any_of_findIdx_some (hidx ▸ hi)), keys_map_store]; exact hn
  | none =>
    have hnot : k ∉ kvs.map (·.1) := not_mem_of_findIdx_none (hidx ▸ hi)
    have hany : ¬ (kvs.any fun kv => decide (kv.1 = k)) = true := by
      rw [List.any_eq_true]; rintro ⟨kv, hkv, he⟩
      exact hnot (List.mem_map.mpr ⟨kv, hkv, of_decide_eq_true he⟩)
    refine wpAny_updateDictKeys (hz := hes) ho hd (hQ _ ⟨_, _, ep + 1, Heap.get?_update_self _ ho (Obj.isFreed_of_dict (Obj.data_mapDictKeys hd _)),
      hc.mapDictKeys _, Obj.data_mapDictKeys hd _, hk.push hkey _, ?_, ?_⟩ (Heap.SameBut.update ..))
    · rw [stored, if_neg hany]
      have := hp.append hkey (knd.hash k) v
      obtain ⟨l⟩ := es
      simpa using this
    · rw [stored, if_neg hany, List.map_append, List.nodup_append]
      refine ⟨hn, by simp, ?_⟩
      intro a ha b hb
      simp only [List.map_cons, List.map_nil, List.mem_singleton] at hb
      subst hb
      exact fun e => hnot (e ▸ ha)

/-- {**a, ..}: the entries of a dict put into another one -/
theorem wpAny_mergeMapping {d o : Addr} {kvs more : List (K × Value)} {Q : Unit → Shared → Prop} (hnr : ∀ k a, knd.is k (.ref a) = false) (hdo : d ≠ o) (hoS : (o == sysModules) = false)
    (hd : s.heap.DictOf knd d kvs) (ho : s.heap.DictOf knd o more)
    (hQ : ∀ h', h'.DictOf knd d (merged kvs more) → h'.DictOf knd o more → Heap.SameBut d s.heap h' → Q () { s with heap := h' })
    (hsz : kvs.length + more.length ≤ sizeLine := by size_fits) :
    wpAny (model prog w) A (mergeMapping d (.ref o) false) Q E s := by
  obtain ⟨od, esd, epd, hod, hcd, hdd, hkd, hpd, hnd⟩ := id hd
  obtain ⟨oo, eso, epo, hoo, hco, hdo', hko, hpo, hno⟩ := id ho
  have hlen : more.length = eso.size := by rw [← hpo.length]; simp
  unfold mergeMapping
  refine wpAny_bind (wpAny_isInstance ho.typeIs isSubtype_dict_dict ?_)
  dsimp only
  rw [if_pos rfl]
  refine wpAny_bind (wpAny_specialOf ho.typeIs F.slot_dict_iter.lookup ?_)
  refine wpAny_bind (wpAny_pure ?_)
  have e0 : (some (Value.builtin "dict.__iter__") == some (Value.builtin "dict.__iter__")) = true := by simp
  rw [e0]
  dsimp only
  rw [if_neg (by rw [hoS]; exact Bool.false_ne_true)]
  have loop : wpAny (model prog w) A (do
      let l0 ← dictEntries o
      let epoch ← dictEpoch o
      forIn (List.range l0.size) PUnit.unit fun i (_ : PUnit) => (do
          let l' ← dictEntries o
          match l'[i]? with
            | some e => do
              holding [e.key, e.val] (if false = true then do
                      let r ← dictFind d e.key e.hash
                      if r.isSome = true then do
                          rule "dict.merge.duplicate-key"
                          let x ← newExc (Value.type "KeyError") [e.key]
                          raiseNew x
                          dictPut d e.hash e.key e.val
                        else dictPut d e.hash e.key e.val
                    else dictPut d e.hash e.key e.val)
              let ep' ← dictEpoch o
              if (ep' != epoch) = true then do
                  (unsupported "dict.changed-during-merge" : Sem PUnit)
                  pure (ForInStep.yield PUnit.unit)
                else pure (ForInStep.yield PUnit.unit)
            | _ => do
              (unsupported "dict.changed-during-merge" : Sem PUnit)
              pure (ForInStep.yield PUnit.unit) : Sem (ForInStep PUnit))
      pure ()) Q E s := by
    refine wpAny_bind (wpAny_dictEntries hoo hdo' ?_)
    refine wpAny_bind (wpAny_dictEpoch hoo hdo' ?_)
    refine wpAny_bind ?_
    refine wpAny_forIn_list _
      (fun rest _ s' => ∃ h' i, s' = { s with heap := h' } ∧ rest = List.range' i (eso.size - i) ∧ i ≤ eso.size ∧ h'.DictOf knd d (merged kvs (more.take i)) ∧ h'.get? o = some oo ∧ Heap.SameBut d s.heap h')
      _ ?_ ?_ _ _ ⟨s.heap, 0, rfl, by simp [List.range_eq_range'], Nat.zero_le _, by simpa [merged] using hd, hoo, Heap.SameBut.refl _ _⟩
    · rintro x rest b s' ⟨h', i, rfl, hr, hi, hd', hoo', hs'⟩
      have hlt : i < eso.size := by
        rcases Nat.lt_or_ge i eso.size with h | h
        · exact h
        · rw [Nat.sub_eq_zero_of_le h] at hr; simp at hr
      obtain ⟨rfl, hrest⟩ : x = i ∧ rest = List.range' (i + 1) (eso.size - (i + 1)) := by
        have e : eso.size - i = (eso.size - (i + 1)) + 1 := by omega
        rw [e, List.range'_succ] at hr
        injection hr with h1 h2
        exact ⟨h1, h2⟩
      refine wpAny_bind (wpAny_dictEntries hoo' hdo' ?_)
      rw [Array.getElem?_eq_getElem hlt]
      obtain ⟨kv, hkv⟩ : ∃ kv, more[x]? = some kv := ⟨more[x]'(by rw [hlen]; exact hlt), List.getElem?_eq_getElem _⟩
      obtain ⟨k, v⟩ := kv
      obtain ⟨hkey, hval⟩ := hpo.get? (e := eso[x]) (by simp [hlt]) hkv
      obtain ⟨k', hkey', hhash⟩ := hko eso[x] (Array.getElem_mem hlt)
      obtain rfl : k' = k := knd.inj _ _ _ hkey' hkey
      have hmx : (merged kvs (more.take x)).length ≤ sizeLine := by
        have e1 := merged_length_le kvs (more.take x)
        have e2 : (more.take x).length ≤ more.length := by rw [List.length_take]; omega
        omega
      refine wpAny_bind (wpAny_holding ?_)
      rw [if_neg (by decide), hhash, hval]
      refine wpAny_dictPut_pairs (hsz := hmx) hkey hd' fun h'' hd'' hs'' => ?_
      have hoo'' : h''.get? o = some oo := (hs''.2 o (Ne.symm hdo)).trans hoo'
      refine wpAny_bind (wpAny_dictEpoch hoo'' hdo' ?_)
      rw [if_neg (by simp)]
      exact wpAny_pure ⟨h'', x + 1, rfl, hrest, hlt, by rw [merged_take_succ kvs more x (k', v) hkv]; exact hd'', hoo'', hs'.trans hs''⟩
    · rintro b s' ⟨h', i, rfl, hr, hi, hd', hoo', hs'⟩
      have hin : i = eso.size := by
        rcases Nat.lt_or_ge i eso.size with h | h
        · have e : eso.size - i = (eso.size - (i + 1)) + 1 := by omega
          rw [e, List.range'_succ] at hr; exact nomatch hr
        · exact Nat.le_antisymm hi h
      refine wpAny_pure (hQ h' ?_ ⟨oo, eso, epo, hoo', hco, hdo', hko, hpo, hno⟩ hs')
      rw [hin, ← hlen, List.take_length] at hd'; exact hd'
  refine wpAny_bind (wpAny_dictEntries hod hdd ?_)
  split
  · refine wpAny_bind (wpAny_dictEntries hoo hdo' ?_)
    refine wpAny_bind ?_
    rw [← Array.forIn_toList]
    refine wpAny_forIn_list _ (fun rest _ s' => s' = s ∧ ∀ e ∈ rest, e ∈ eso) _ ?_ ?_ _ _ ⟨rfl, fun e he => by simpa using he⟩
    · rintro x rest b s' ⟨rfl, hr⟩
      obtain ⟨k, hk, _⟩ := hko x (hr x List.mem_cons_self)
      have hx : ∀ a, x.key ≠ .ref a := fun a e => by rw [e, hnr] at hk; exact nomatch hk
      cases hkey : x.key with
      | ref a => exact absurd hkey (hx a)
      | _ => exact wpAny_pure ⟨rfl, fun e he => hr e (List.mem_cons_of_mem _ he)⟩
    · rintro b s' ⟨rfl, _⟩
      exact loop
  · exact loop
end
end PySem
namespace VL
open PySem PySem.Spec PyProof.Rows L2
/-- {**e, k: v} -/
def tStar (te tk tv : TE) : TE := fun σ H Q => ∀ p, H p = none → te σ (upd H p (.dK [])) fun x H1 => ∃ (a : Addr) (ks : List (Key × V)), x = .ref a ∧ a ≠ p ∧ H1 a = some (.dK ks) ∧ H1 p = some (.dK []) ∧ ks.length ≤ 1000 ∧
  ∀ q, (upd H1 p (.dK (mergeK [] ks))) q = none → tk σ (upd (upd H1 p (.dK (mergeK [] ks))) q (.dK [])) fun y H2 => tv σ H2 fun z H3 => ∃ (k : Key) (ks1 : List (Key × V)), y = kV k ∧ H3 q = some (.dK []) ∧ H3 p = some (.dK ks1) ∧ ks1.length ≤ 1000 ∧
    Q (.ref p) (upd (upd H3 q (.dK [(k, z)])) p (.dK (putK ks1 k z)))
theorem mix_ref (P : Program) (w : World) : ∀ (k : Key) (a : Addr), (mixKind P w).is k (.ref a) = false := fun k a => by
  cases e : (mixKind P w).is k (.ref a) with
  | false => rfl
  | true => rcases keyIs_shape e with ⟨i, t, _, h⟩ | ⟨x, t, _, h⟩ <;> exact nomatch h
theorem pe_star {X : Cx} {pos : Pos} {e k v : Expr} {te tk tv : TE} (he : PE X e te) (hk : PE X k tk) (hv : PE X v tv) : PE X (.Dict [none, some k] [e, v] pos) (tStar te tk tv) := by
  refine ⟨fun pins s σ H Q I h => ?_⟩
  have hn := I.hok.fresh (Nat.le_refl s.heap.objs.size)
  have I1 := I.laid (a := s.heap.objs.size) (o := .dK []) (h' := s.heap.push { cls := .type "dict", data := .dict #[] }) (t' := s.toks) (fun _ _ q => Heap.get?_push_of_some _ q) (Nat.le_refl _) (dk_empty s.heap I.big)
  rw [arm_eval_Dict]
  refine wpAny_bind (wpAny_standAt ?_)
  show wpAny _ _ (dictDisplay [(none, do let x ← eval e X.env; standAt pos; pure x), (some (eval k X.env), do let x ← eval v X.env; standAt pos; pure x)]) _ _ _
  unfold dictDisplay
  dsimp only
  rw [List.forIn_cons]
  dsimp only
  refine wpAny_bind (wpAny_bind (wpAny_bind ?_))
  rw [if_pos (show ([] : List (Sem Value × Sem Value)).isEmpty = true from rfl)]
  refine wpAny_pure ?_
  dsimp only
  refine wpAny_bind (wpAny_alloc ?_)
  refine wpAny_bind (wpAny_holding (wpAny_bind (thn (he.run pins _ σ _ _ I1 (h _ hn)) fun u s1 ⟨x, H1, I2, rx, a, ks, ex, hap, ha, hp, hl, q1⟩ => ?_)))
  subst ex
  obtain rfl : u = Value.ref a := rx
  refine wpAny_bind (wpAny_standAt (wpAny_pure ?_))
  obtain ⟨_, hsP, vp, rp, dp⟩ := dk_of I2.hok hp
  obtain ⟨_, hsA, va, ra, da⟩ := dk_of I2.hok ha
  cases rp
  have la : va.length ≤ 1000 := by rw [← ra.length]; exact hl
  refine wpAny_bind (wpAny_onRaise (wpAny_tryCatch (wpAny_onRaise (wpAny_holding (wpAny_mergeMapping (mix_ref X.prog X.w) (Ne.symm hap) hsA dp da (fun h' dd' oo' hs => ?_) (by rw [sizeLine_eq, List.length_nil]; omega))))))
  refine wpAny_pure ?_
  have hm1 : (mergeK [] ks).length ≤ sizeLine := by
    have := length_mergeK ks []
    rw [List.length_nil] at this
    rw [sizeLine_eq]; omega
  have I3 : Inv X pins σ (upd H1 s.heap.objs.size (.dK (mergeK [] ks))) { s1 with heap := h' } := by
    have hex : ∃ q, h'.get? s.heap.objs.size = some q := let ⟨q, _, _, hq, _⟩ := dd'; ⟨q, hq⟩
    exact d_write (t' := s1.toks) I2 (by rw [hp]; exact True.intro) hs hex (dk_new hm1 hsP (KV.merge ra .nil) dd')
  dsimp only
  rw [List.forIn_cons]
  dsimp only
  rw [if_neg (by simp)]
  refine wpAny_bind (wpAny_bind (wpAny_pure ?_))
  refine wpAny_pure ?_
  dsimp only
  rw [List.forIn_nil]
  refine wpAny_pure ?_
  dsimp only
  rw [if_neg (by simp)]
  have hn2 := I3.hok.fresh (Nat.le_refl h'.objs.size)
  have I4 := I3.laid (a := h'.objs.size) (o := .dK []) (h' := h'.push { cls := .type "dict", data := .dict #[] }) (t' := s1.toks) (fun _ _ q => Heap.get?_push_of_some _ q) (Nat.le_refl _) (dk_empty h' I3.big)
  refine wpAny_bind (wpAny_bind (wpAny_holding (wpAny_subDict (knd := mixKind X.prog X.w) (by simp) ?_)))
  refine wpAny_mono ((pps_cons (pos := pos) hk hv pps_nil).run pins _ σ _ (fun ps H3 => match ps with
    | [(y, z)] => ∃ (kk : Key) (ks1 : List (Key × V)), y = kV kk ∧ H3 h'.objs.size = some (.dK []) ∧ H3 s.heap.objs.size = some (.dK ks1) ∧ ks1.length ≤ 1000 ∧
        Q (.ref s.heap.objs.size) (upd (upd H3 h'.objs.size (.dK [(kk, z)])) s.heap.objs.size (.dK (putK ks1 kk z)))
    | _ => False) I4 (q1 _ hn2)) (fun ws s3 ⟨ps, H3, I5, rel, q3⟩ => ?_) fun _ _ e => e
  match ps, rel, q3 with
  | [(y, z)], rel, ⟨kk, ks1, ey, hq3, hp3, hl3, q3⟩ =>
    subst ey
    obtain ⟨rs, c, rk⟩ := carries_of (P := X.prog) (w := X.w) (kvs := [(kk, z)]) rel
    obtain ⟨_, hsQ, vq, rq, dq⟩ := dk_of I5.hok hq3
    cases rq
    refine ⟨rs, c, dq, fun h2 dd2 hs2 => ?_⟩
    have hex2 : ∃ q, h2.get? h'.objs.size = some q := let ⟨q, _, _, hq, _⟩ := dd2; ⟨q, hq⟩
    have I6 := d_write (t' := s3.toks + ws.length) I5 (by rw [hq3]; exact True.intro) hs2 hex2 (dk_new (kvs := mergeK [] [(kk, z)]) (by show 1 ≤ sizeLine; decide) hsQ (KV.merge rk .nil) dd2)
    have eM : mergeK [] [(kk, z)] = [(kk, z)] := rfl
    rw [eM] at I6
    have hne : s.heap.objs.size ≠ h'.objs.size := fun e => by
      rw [← e, upd_same] at hn2
      exact nomatch hn2
    have hp4 : upd H3 h'.objs.size (.dK [(kk, z)]) s.heap.objs.size = some (.dK ks1) := by rw [upd_ne hne]; exact hp3
    have hq4 : upd H3 h'.objs.size (.dK [(kk, z)]) h'.objs.size = some (.dK [(kk, z)]) := upd_same
    obtain ⟨_, _, v1, r1, d1⟩ := dk_of I6.hok hp4
    obtain ⟨_, _, v2, r2, d2⟩ := dk_of I6.hok hq4
    have l1 : v1.length ≤ 1000 := by rw [← r1.length]; exact hl3
    have l2 : v2.length = 1 := by rw [← r2.length]; rfl
    refine wpAny_bind (wpAny_onRaise (wpAny_holding (wpAny_mergeMapping (mix_ref X.prog X.w) hne hsQ d1 d2 (fun h3 dd3 oo3 hs3 => ?_) (by rw [sizeLine_eq]; omega))))
    refine wpAny_pure ?_
    have hex3 : ∃ q, h3.get? s.heap.objs.size = some q := let ⟨q, _, _, hq, _⟩ := dd3; ⟨q, hq⟩
    have hm3 : (mergeK ks1 [(kk, z)]).length ≤ sizeLine := by
      have := length_mergeK [(kk, z)] ks1
      have e1 : [(kk, z)].length = 1 := rfl
      rw [sizeLine_eq]; omega
    have I7 := d_write (t' := s3.toks + ws.length) I6 (by rw [hp4]; exact True.intro) hs3 hex3 (dk_new hm3 hsP (KV.merge r2 r1) dd3)
    exact wpAny_pure ⟨.ref s.heap.objs.size, _, I7, rfl, q3⟩
  | [], _, q3 => exact q3.elim
  | _ :: _ :: _, _, q3 => exact q3.elim
/-- a local name that holds one of the text's defs, called -/
def tCallT (P : Program) (w : World) (K : PySem.W.Frag) (mg : Str → Option Value) (base : Heap) (j i : Nat) (t : TA) : TE := fun σ H Q => ∃ (x : Str) (k : Nat) (sp : Sp) (f : Addr), k ≤ j ∧ Cal P w K mg base k x sp ∧ mg x = some (.ref f) ∧
  σ[i]? = some (some (.ref f)) ∧ t σ H fun vs H1 => sp vs H1 Q E0
section
variable {X : Cx} {j i : Nat} {x : Str} {p pos : Pos} {e : Expr} {es : List Expr} {t : TA}
theorem pe_callT (hr : Room j X.A) (hN : X.N[i]? = some x) (hv : Vis X.env.scope x) (ha : PA X (e :: es) t)
    (hd : (x == ("__debug__" : Str)) = false := by decide) (hcd : (x == ("__classdict__" : Str)) = false := by decide)
    (he : starEach (e :: es) X.env = (false, eval e X.env) :: starEach es X.env := by rfl) (hpl : (backTo pos (starEach es X.env)).any (·.1) = false := by rfl) :
    PE X (.Call (.Name x p) (e :: es) [] pos) (tCallT X.prog X.w X.K X.mg X.base j i t) := by
  refine ⟨fun pins s σ H Q I h => ?_⟩
  obtain ⟨y, k, sp, f, hk, c, hm, hs, ht⟩ := h
  obtain ⟨f2, fd, ps, F, hm2, kp, b⟩ := c.ex
  obtain rfl : f = f2 := by
    rw [hm] at hm2
    injection hm2 with e1
    injection e1
  refine wpAny_Call_Name_kw (thn ((pe_var (pos := p) hN hv hd hcd).run pins s σ H (fun v H1 => v = .ref f ∧ H1 = H) I ⟨.ref f, hs, rfl, rfl⟩) fun u s1 ⟨v, H1, I1, r1, q1⟩ => ?_)
  obtain ⟨rfl, rfl⟩ := q1
  cases r1
  refine PySem.W.callWith_K (h₀ := X.base) I.ok.mod.kin kp (thn (ha.run pos pins s1 σ _ _ I1 ht) fun us s2 ⟨vs, H2, I2, r, q⟩ => ⟨I2.kIn, ?_⟩) he hpl
  exact run_fn F (hr.mono hk) b .nil pass0 I2 r (by rw [List.append_nil]; exact q)
end
/-- an entry of a dict of the module that holds a def -/
def EntT (K : PySem.W.Frag) (w : World) (mg : Str → Option Value) (a : Addr) (key x : Str) : Prop := ∃ f, mg x = some (.ref f) ∧ KDct K w a key (.ref f)
end VL

set_option Elab.async false
set_option linter.all false
set_option maxRecDepth 100000
set_option maxHeartbeats 4000000
namespace VL
open PySem PySem.Spec PyProof.Rows L2
/-! ### a part of a heap, and a few objects beside it that change -/
structure Sb (G H : Hp) (M : List (Addr × HO)) : Prop where
  s : Same G H
  m : ∀ p ∈ M, G p.1 = none ∧ H p.1 = some p.2
  nd : (M.map (·.1)).Nodup
def joinH (G N : Hp) : Hp := fun b => match G b with
  | some o => some o
  | none => N b
theorem joinH_l {G N : Hp} : Same G (joinH G N) := fun b o e => by
  unfold joinH
  rw [e]
theorem joinH_r {G H H' : Hp} (s : Same G H) : Same (newer H H') (joinH G (newer H H')) := fun b o e => by
  obtain ⟨z, _⟩ := newer_some e
  unfold joinH
  cases g : G b with
  | none => exact e
  | some u => rw [s _ _ g] at z; exact nomatch z
theorem Sb.alloc {G H : Hp} {M : List (Addr × HO)} {t : Addr} {o : HO} (S : Sb G H M) (h : H t = none) : Sb (upd G t o) (upd H t o) M := by
  refine ⟨fun b u e => ?_, fun p hp => ?_, S.nd⟩
  · by_cases z : b = t
    · subst z
      rw [upd_same] at e ⊢
      exact e
    · rw [upd_ne z] at e ⊢
      exact S.s _ _ e
  · obtain ⟨h1, h2⟩ := S.m p hp
    have n : p.1 ≠ t := ne_of_none h2 h
    rw [upd_ne n, upd_ne n]
    exact ⟨h1, h2⟩
theorem Sb.gnone {G H : Hp} {M : List (Addr × HO)} {t : Addr} (S : Sb G H M) (h : H t = none) : G t = none := Same.free S.s h
theorem Sb.grow {G H : Hp} {M : List (Addr × HO)} {t : Addr} {o : HO} (S : Sb G H M) (h : H t = none) : Same G (upd G t o) := fun b u e => by rw [upd_ne (ne_of_none e (S.gnone h))]; exact e
theorem Sb.call {G H H' : Hp} {M : List (Addr × HO)} (S : Sb G H M) (s : Same H H') : Sb (joinH G (newer H H')) H' M := by
  refine ⟨fun b u e => ?_, fun p hp => ?_, S.nd⟩
  · unfold joinH at e
    cases g : G b with
    | some o => rw [g] at e; rw [← e]; exact s _ _ (S.s _ _ g)
    | none => rw [g] at e; exact (newer_some e).2
  · obtain ⟨h1, h2⟩ := S.m p hp
    refine ⟨?_, s _ _ h2⟩
    unfold joinH
    rw [h1]
    show newer H H' p.1 = none
    unfold newer
    rw [h2]
theorem Sb.add {G H : Hp} {M : List (Addr × HO)} {t : Addr} {o : HO} (S : Sb G H M) (h : H t = none) : Sb G (upd H t o) ((t, o) :: M) := by
  refine ⟨fun b u e => by rw [upd_ne (ne_of_none (S.s _ _ e) h)]; exact S.s _ _ e, fun p hp => ?_, ?_⟩
  · rcases List.mem_cons.mp hp with rfl | hp
    · exact ⟨S.gnone h, upd_same⟩
    · obtain ⟨h1, h2⟩ := S.m p hp
      exact ⟨h1, by rw [upd_ne (ne_of_none h2 h)]; exact h2⟩
  · rw [List.map_cons, List.nodup_cons]
    refine ⟨fun hm => ?_, S.nd⟩
    obtain ⟨p, hp, e⟩ := List.mem_map.mp hm
    have := (S.m p hp).2
    rw [e] at this
    rw [show H (t, o).1 = none from h] at this
    exact nomatch this
theorem Sb.put {G H : Hp} {M : List (Addr × HO)} {t : Addr} {o : HO} {u : HO} (S : Sb G H ((t, o) :: M)) : Sb G (upd H t u) ((t, u) :: M) := by
  have nd := S.nd
  rw [List.map_cons, List.nodup_cons] at nd
  have gt := (S.m (t, o) List.mem_cons_self).1
  refine ⟨fun b v e => by rw [upd_ne (ne_of_none e gt)]; exact S.s _ _ e, fun p hp => ?_, ?_⟩
  · rcases List.mem_cons.mp hp with rfl | hp
    · exact ⟨gt, upd_same⟩
    · obtain ⟨h1, h2⟩ := S.m p (List.mem_cons_of_mem _ hp)
      have n : p.1 ≠ t := fun z => nd.1 (List.mem_map.mpr ⟨p, hp, z⟩)
      exact ⟨h1, by rw [upd_ne n]; exact h2⟩
  · rw [List.map_cons, List.nodup_cons]
    exact nd
theorem Sb.swap {G H : Hp} {M : List (Addr × HO)} {p q : Addr × HO} (S : Sb G H (p :: q :: M)) : Sb G H (q :: p :: M) := by
  have nd := S.nd
  refine ⟨S.s, fun r hr => S.m r ?_, ?_⟩
  · rcases List.mem_cons.mp hr with rfl | hr
    · exact List.mem_cons_of_mem _ List.mem_cons_self
    · rcases List.mem_cons.mp hr with rfl | hr
      · exact List.mem_cons_self
      · exact List.mem_cons_of_mem _ (List.mem_cons_of_mem _ hr)
  · simp only [List.map_cons, List.nodup_cons, List.mem_cons] at nd ⊢
    refine ⟨fun z => ?_, fun z => nd.1 (.inr z), nd.2.2⟩
    rcases z with z | z
    · exact nd.1 (.inl z.symm)
    · exact nd.2.1 z
theorem Sb.drop {G H : Hp} {M : List (Addr × HO)} {t : Addr} {o : HO} (S : Sb G H ((t, o) :: M)) : Sb (upd G t o) H M ∧ Same G (upd G t o) := by
  have nd := S.nd
  rw [List.map_cons, List.nodup_cons] at nd
  obtain ⟨gt, ht⟩ := S.m (t, o) List.mem_cons_self
  refine ⟨⟨fun b u e => ?_, fun p hp => ?_, nd.2⟩, fun b u e => by rw [upd_ne (ne_of_none e gt)]; exact e⟩
  · by_cases z : b = t
    · subst z
      rw [upd_same] at e
      rw [← e]
      exact ht
    · rw [upd_ne z] at e
      exact S.s _ _ e
  · obtain ⟨h1, h2⟩ := S.m p (List.mem_cons_of_mem _ hp)
    have n : p.1 ≠ t := fun z => nd.1 (List.mem_map.mpr ⟨p, hp, z⟩)
    exact ⟨by rw [upd_ne n]; exact h1, h2⟩
theorem Sb.hd {G H : Hp} {M : List (Addr × HO)} {p : Addr × HO} (S : Sb G H (p :: M)) : H p.1 = some p.2 := (S.m p List.mem_cons_self).2
theorem Sb.hd2 {G H : Hp} {M : List (Addr × HO)} {p q : Addr × HO} (S : Sb G H (q :: p :: M)) : H p.1 = some p.2 := (S.m p (List.mem_cons_of_mem _ List.mem_cons_self)).2
theorem Sb.nil {H : Hp} : Sb H H [] := ⟨Same.refl _, (fun _ h => nomatch h), List.nodup_nil⟩
end VL

set_option Elab.async false
set_option linter.all false
set_option maxRecDepth 100000
set_option maxHeartbeats 4000000
namespace VL
open PySem PySem.Spec PyProof.Rows L2
theorem Sb.put2 {G H : Hp} {M : List (Addr × HO)} {p : Addr × HO} {t : Addr} {o u : HO} (S : Sb G H (p :: (t, o) :: M)) : Sb G (upd H t u) (p :: (t, u) :: M) := S.swap.put.swap
theorem Sb.more {G H H' : Hp} {M : List (Addr × HO)} (S : Sb G H M) (s : Same H H') : ∃ G', Sb G' H' M ∧ Same G G' := ⟨_, S.call s, joinH_l⟩
theorem flat_one {α : Type} (l : List α) : (l.map fun c => [c]).flatten = l := by
  induction l with
  | nil => rfl
  | cons c cs ih => simp [ih]
theorem valV_in2 {k : Key} : ∀ {ks : List (Key × V)}, k ∈ ks.map (·.1) → (valV ks k).isSome = true
  | p :: ks, h => by
    by_cases e : p.1 = k
    · rw [valV_pos e]
      rfl
    · rw [valV_neg e]
      refine valV_in2 ?_
      rcases List.mem_cons.mp (show k ∈ p.1 :: ks.map (·.1) from h) with z | z
      · exact absurd z.symm e
      · exact z
end VL

set_option Elab.async false
set_option linter.all false
set_option maxRecDepth 100000
set_option maxHeartbeats 4000000
namespace PySem.W
open PySem PyProof.Rows
section
variable {prog : Program} {w : World} {A A₀ : Around} {E : Value → Shared → Prop} {s : Shared} {K : Frag} {x C L f : Addr} {h₀ : Heap} {m : Str → Option Value} {ox : Obj} {od : Option Obj} {name : Str} {b tb : Value}
theorem ifBound_B {M : Model} {id : String} {T : String} {nm : Str} {args : List Value} {Q : Option Value → Shared → Prop} (X : K.In s.heap) (I : InstAt s.heap x ox C od) (hs : findIn K (.ref C) name = some (some (.builtin id))) (S : Slot T nm id)
    (h : wpAny M A (call (.builtin id) (.ref x :: args)) (fun v => Q (some v)) E s) : wpAny M A (callSpecialIfBound? (.ref x) name args) Q E s := by
  simp only [callSpecialIfBound?, bindSpecialIfBound?]
  refine wpAny_holding (wpAny_bind (wpAny_bind (wpAny_bind (I.type.here ((looks_findIn X hs).here ?_)))))
  simp only [S.bind]
  refine wpAny_bind (wpAny_askSetting (wpAny_ite ?_))
  have fin : wpAny M A (call (.builtin id) ([.ref x] ++ args) >>= fun v => pure (some v)) Q E s := wpAny_bind (wpAny_mono h (fun v s' h' => wpAny_pure h') fun _ _ h' => h')
  split
  · exact wpAny_bind (wpAny_pure (wpAny_pure (by exact fin)))
  · exact wpAny_tryCatch (wpAny_bind (wpAny_pure (wpAny_pure (by exact fin))))
theorem objNe_K {Q : Fin → Shared → Prop} (X : K.In s.heap) (I : InstAt s.heap x ox C od) (hs : findIn K (.ref C) "__eq__" = some (some (.ref f))) (hf : isFn K (.ref f) = true) (hu : A.units < cLine)
    (hcall : wpAny (model prog w) A (call (.ref f) [.ref x, b]) (fun v s' => ∃ r, v = .bool r ∧ Q (.done (.ret (.bool (!r)))) s') E s) :
    wpAny (model prog w) A (Builtin.«object.__ne__» ⟨[.ref x, b], []⟩) Q E s := by
  obtain ⟨hp, g, d, t, os⟩ := s
  unfold Builtin.«object.__ne__»
  repeat (first
    | with_reducible refine wpAny_cRoomFor hu ?_
    | (refine wpAny_bind (m := callSpecialIfBound? (.ref x) (Str.ofString "__eq__") [b])
        (ifBound_K X I hs hf (wpAny_mono hcall (fun r s' hr => by
          obtain ⟨z, rfl, hq⟩ := hr
          repeat (first | exact hq | exact wpAny_pure hq | exact wpAny_truthy_bool hq | (refine wpAny_bind (m := truthy (.bool _)) (wpAny_truthy_bool ?_)) | wp_step)) fun _ _ e => e)))
    | wp_step)
/-- x != b by the own == of x's class -/
theorem ne_K {Q : Value → Shared → Prop} (hu : A.units + 1 < cLine) (F : Fr h₀ L s.heap m) (X₀ : K.In h₀) (I : InstAt s.heap x ox C od) (hb : Looks (model prog w) s.heap (typeOf b) tb) (hn : notFirst K C tb = true)
    (hN : findIn K (.ref C) "__ne__" = some (some (.builtin "object.__ne__"))) (hob : mroIn K C (.type "object") = some true) (hs : findIn K (.ref C) "__eq__" = some (some (.ref f))) (hf : isFn K (.ref f) = true)
    (h : wpAny (model prog w) A.in1 (call (.ref f) [.ref x, b]) (fun v s' => ∃ r, v = .bool r ∧ Q (.bool (!r)) s') E s) : wpAny (model prog w) A (richCompare .NotEq (.ref x) b) Q E s := by
  have X := X₀.keeps F.keep
  have S : Slot "zip" "__ne__" "object.__ne__" := PySem.F.slot_zip_ne
  have sub : Looks (model prog w) s.heap (isInstance (.ref x) (.type "object")) true := I.type.andThen (looks_mroIn X hob)
  have one : wpAny (model prog w) A (tryCompare (.ref x) "__ne__" b) (fun r s' => ∃ v, r = some v ∧ Q v s') E s := by
    unfold tryCompare
    refine wpAny_bind (ifBound_B X I hN S (wpAny_call (codeAny_call_builtin S.plain PySem.F.cmpEntry_ne
      (@check_slot (model prog w) _ _ s "object.__ne__" "object" "__ne__" (.ref x) [b] [] _ PySem.F.cmpKind_ne PySem.F.cmpSplit_ne sub (PySem.F.cmpArgs_ne _ _)
        (objNe_K (A := A.in1) X I hs hf hu (wpAny_mono h (fun v s' hv => ?_) fun _ _ e => e))))))
    obtain ⟨r, rfl, hq⟩ := hv
    exact ⟨r, rfl, wpAny_pure ⟨_, rfl, hq⟩⟩
  unfold richCompare
  simp only [oneThing_ref]
  refine wpAny_holding (wpAny_bind (wpAny_cRoomFor (Nat.lt_of_succ_lt hu) ?_))
  rw [show (cmpInfo .NotEq).2.1 = "__ne__" from rfl]
  refine wpAny_bind (I.type.here (wpAny_bind (hb.here ?_)))
  split
  · rename_i q
    have e : subIn K tb (.ref C) = some false := by
      rcases Bool.or_eq_true_iff.mp hn with e | e
      · rw [beq_iff_eq.mp e] at q; simp at q
      · exact beq_iff_eq.mp e
    refine wpAny_bind ((looks_subIn X e).here ?_)
    simp only [Bool.false_eq_true, if_false]
    refine wpAny_bind (wpAny_mono one (fun r s' z => ?_) fun _ _ e => e)
    obtain ⟨v, rfl, hq⟩ := z
    exact wpAny_pure hq
  · refine wpAny_bind (wpAny_pure ?_)
    simp only [Bool.false_eq_true, if_false]
    refine wpAny_bind (wpAny_mono one (fun r s' z => ?_) fun _ _ e => e)
    obtain ⟨v, rfl, hq⟩ := z
    exact wpAny_pure hq
end
end PySem.W
namespace L2
open PySem PySem.Spec PyProof.Rows
def rNeG (D : Eqv) : R2 := fun x y H Q => D x y H ∧ ∀ H', Ext H H' → Q (.bl false) H'
section
variable {X : Cx} {n : Nat}
theorem op_neIns {CX : CXT} {C f : Addr} {fd : FuncData} {ps : List Str} {R : Addr → Addr → Hp → Prop} {E : XK} (F : FnOk X.prog X.w X.K X.mg X.base CX n f fd ps (spEq R))
    (hN : PySem.W.findIn X.K (.ref C) "__ne__" = some (some (.builtin "object.__ne__"))) (hob : PySem.W.mroIn X.K C (.type "object") = some true)
    (hs : PySem.W.findIn X.K (.ref C) "__eq__" = some (some (.ref f))) (hf : PySem.W.isFn X.K (.ref f) = true) (hb : Binds X.K fd ps []) (hx : Passes CX X E) (hr : Room (n + 1) X.A) : OpR X (compareOp .NotEq) (rNeG (DIns C R)) := by
  intro pins s σ H x y v u Q I rx ry hq
  obtain ⟨⟨a, b, dx, dy, fs, gs, rfl, rfl, ha, hb', hR⟩, q⟩ := hq
  cases rx
  cases ry
  show wpAny (model X.prog X.w) X.A (richCompare .NotEq (.ref a) (.ref b)) (EP X pins σ Q) X.xe s
  obtain ⟨mA, J, _⟩ := ins_get I.hok ha
  obtain ⟨mB, J', _⟩ := ins_get I.hok hb'
  obtain ⟨od, J, _⟩ := J.look
  obtain ⟨od', J', _⟩ := J'.look
  obtain ⟨m, hF⟩ := I.fr
  refine PySem.W.ne_K (tb := .ref C) (by have := hr.units; omega) hF I.ok.mod.kin J J'.type (by simp [PySem.W.notFirst]) hN hob hs hf ?_
  have hsp : spEq R [.ref a, .ref b] H (fun v H' => v = .bl true ∧ Ext H H') E := ⟨a, b, rfl, hR, fun H' e => ⟨rfl, e⟩⟩
  have e0 : Env0 X.prog X.w X.K X.mg X.base X.A.in1 X.stack s H := by
    have e := I.env0
    exact ⟨e.frames, e.mod, e.bs, e.bsz, e.funs, e.frf, e.hok, e.bare⟩
  have hl := F.len _ _ _ _ hsp
  have r2 : Vals [V.ref a, V.ref b] [Value.ref a, Value.ref b] := .cons rfl (.cons rfl .nil)
  refine wpAny_call (codeAny_mono (F.run X.A.in1 X.stack s H ⟨[.ref a, .ref b], []⟩ [.ref a, .ref b] [.ref a, .ref b] _ E hr.in1 e0 (by
    have := hb s [.ref a, .ref b] I.kIn (by simpa using hl)
    simpa using this) r2 hsp) fun r s' hq => ?_)
  cases r with
  | error e => exact hx pins σ H s e s' I hq
  | ok fl =>
    cases fl with
    | ret w =>
      obtain ⟨z, H', I', rz, ez, ex⟩ := I.after hq
      subst ez
      cases rz
      exact ⟨true, rfl, .bl false, H', I', rfl, q H' ex⟩
    | next => exact False.elim hq
    | brk => exact False.elim hq
    | cont => exact False.elim hq
end
end L2

set_option Elab.async false
set_option linter.all false
set_option maxRecDepth 100000
set_option maxHeartbeats 4000000
/-! sleeping generators stay as they are: a run over a state in which they cannot be woken goes the same where they can -/
namespace VG
open PySem
open Sem (wp)
def Frame.strip : Frame → Frame
  | .gen _ _ l c p => .ret (fun _ => .unsupported "") none false l c p []
  | f => f
theorem strip_where (f : Frame) : (Frame.strip f).where_ = f.where_ := by cases f <;> rfl
/-- no generator's frame among them -/
def NoGen (fs : List Frame) : Prop := ∀ f ∈ fs, ∀ g k l c p, f ≠ .gen g k l c p
theorem NoGen.nil : NoGen [] := fun _ h => nomatch h
theorem NoGen.tail {f : Frame} {fs : List Frame} (h : NoGen (f :: fs)) : NoGen fs := fun x hx => h x (List.mem_cons_of_mem _ hx)
theorem NoGen.app {l r : List Frame} (a : NoGen l) (b : NoGen r) : NoGen (l ++ r) := fun x hx => (List.mem_append.mp hx).elim (a x) (b x)
theorem NoGen.one {k h g l c p kp} : NoGen [.ret k h g l c p kp] := fun x hx => by
  rw [List.mem_singleton.mp hx]
  intro _ _ _ _ _ e
  cases e
theorem NoGen.strip (fs : List Frame) : NoGen (fs.map Frame.strip) := fun x hx => by
  obtain ⟨y, _, rfl⟩ := List.mem_map.mp hx
  intro _ _ _ _ _ e
  cases y <;> cases e
theorem NoGen.split : ∀ {fs : List Frame}, NoGen fs → splitAtGen fs = none
  | [], _ => rfl
  | .gen g k l c p :: fs, h => absurd rfl (h _ List.mem_cons_self g k l c p)
  | .ret _ _ _ _ _ _ _ :: fs, h => by
    show (splitAtGen fs).map _ = none
    rw [NoGen.split h.tail]
    rfl
/-- asleep for ever -/
def dead : GenState → GenState
  | .suspended _ l c p fs cl => .suspended (fun _ => .unsupported "") l c p (fs.map Frame.strip) cl
  | x => x
theorem dead_seen (x : GenState) : (dead x).seen = x.seen := by
  cases x with
  | suspended k l c p fs cl =>
    show (GenStatus.suspended, some ((c, p) :: (fs.map Frame.strip).map Frame.where_)) = (GenStatus.suspended, some ((c, p) :: fs.map Frame.where_))
    rw [List.map_map]
    have : Frame.where_ ∘ Frame.strip = Frame.where_ := funext strip_where
    rw [this]
  | _ => rfl
def Susp : GenState → Prop
  | .suspended .. => True
  | _ => False
def EndNG : End → Prop
  | .susp _ _ _ _ _ _ fs => NoGen fs
  | _ => True
def StNG : GenState → Prop
  | .suspended _ _ _ _ fs _ => NoGen fs
  | _ => True
theorem EndNG.st {e : End} (h : EndNG e) : StNG e.genState := by cases e <;> exact h
/-- A: where those of I are dead; G: where they sleep -/
structure Sw (I : Nat → Option GenState) (A G : Array GenState) : Prop where
  size : A.size = G.size
  at_ : ∀ i x, I i = some x → Susp x ∧ A[i]? = some (dead x) ∧ G[i]? = some x
  eq : ∀ i, I i = none → A[i]? = G[i]?
  ng : ∀ (i : Nat) (x : GenState), A[i]? = some x → StNG x
theorem Sw.set {I : Nat → Option GenState} {A G : Array GenState} {g : Nat} {x : GenState} (h : Sw I A G) (hg : I g = none) (hx : StNG x) : Sw I (A.setIfInBounds g x) (G.setIfInBounds g x) where
  size := by rw [Array.size_setIfInBounds, Array.size_setIfInBounds, h.size]
  at_ := fun i y hy => by
    have ne : g ≠ i := fun z => by rw [z, hy] at hg; cases hg
    rw [Array.getElem?_setIfInBounds_ne ne, Array.getElem?_setIfInBounds_ne ne]
    exact h.at_ i y hy
  eq := fun i hi => by
    by_cases z : g = i
    · subst z
      rw [Array.getElem?_setIfInBounds_self, Array.getElem?_setIfInBounds_self, h.size]
    · rw [Array.getElem?_setIfInBounds_ne z, Array.getElem?_setIfInBounds_ne z]
      exact h.eq i hi
  ng := fun i y hy => by
    by_cases z : g = i
    · subst z
      rw [Array.getElem?_setIfInBounds_self] at hy
      split at hy
      · cases hy; exact hx
      · cases hy
    · rw [Array.getElem?_setIfInBounds_ne z] at hy
      exact h.ng i y hy
theorem Sw.push {I : Nat → Option GenState} {A G : Array GenState} {x : GenState} (h : Sw I A G) (hx : StNG x) : Sw I (A.push x) (G.push x) where
  size := by rw [Array.size_push, Array.size_push, h.size]
  at_ := fun i y hy => by
    obtain ⟨a, b, c⟩ := h.at_ i y hy
    have h1 := (Array.getElem?_eq_some_iff.mp b).1
    have h2 := (Array.getElem?_eq_some_iff.mp c).1
    refine ⟨a, ?_, ?_⟩
    · rw [Array.getElem?_push_lt h1, ← Array.getElem?_eq_getElem h1]; exact b
    · rw [Array.getElem?_push_lt h2, ← Array.getElem?_eq_getElem h2]; exact c
  eq := fun i hi => by
    rw [Array.getElem?_push, Array.getElem?_push, h.size]
    split
    · rfl
    · exact h.eq i hi
  ng := fun i y hy => by
    rw [Array.getElem?_push] at hy
    split at hy
    · cases hy; exact hx
    · exact h.ng i y hy
theorem Sw.alive {I : Nat → Option GenState} {A G : Array GenState} {g : Nat} {x : GenState} (h : Sw I A G) (e : A[g]? = some x) (hx : ¬ Susp x) : I g = none ∧ G[g]? = some x := by
  cases z : I g with
  | none => exact ⟨rfl, by rw [← h.eq g z]; exact e⟩
  | some y =>
    obtain ⟨a, b, _⟩ := h.at_ g y z
    rw [b] at e
    cases e
    exact absurd (by cases y <;> first | exact a | exact True.intro) hx
section
variable {M : Model}
theorem no_unsup0 {Γ : Ctx} {p : Pos} {w : String} {s s' : Shared} {e : End} (h : Runs M Γ p (.unsupported w) [] s e s') : False := nomatch h
theorem no_unsup {Γ : Ctx} {p : Pos} {w : String} {fs : List Frame} {s s' : Shared} {e : End} (h : Runs M Γ p (.unsupported w) fs s e s') : False := by
  cases h with
  | segRet a _ => exact no_unsup0 a
  | segGen a _ => exact no_unsup0 a
  | segSuspOut _ a => exact no_unsup0 a
  | segSuspGen _ a _ _ => exact no_unsup0 a
end
end VG

set_option Elab.async false
set_option linter.all false
set_option maxRecDepth 100000
set_option maxHeartbeats 4000000
namespace VG
open PySem
open Sem (wp)
section
variable {M : Model} {I : Nat → Option GenState}
abbrev wg (s : Shared) (G : Array GenState) : Shared := { s with gens := G }
theorem runs_sw {Γ : Ctx} {p : Pos} {t : Sem PySem.Fin} {fs : List Frame} {s s' : Shared} {e : End} (h : Runs M Γ p t fs s e s') : NoGen fs → ∀ G, Sw I s.gens G →
    ∃ G', Sw I s'.gens G' ∧ EndNG e ∧ Runs M Γ p t fs (wg s G) e (wg s' G') := by
  induction h with
  | done => exact fun _ G w => ⟨G, w, True.intro, .done⟩
  | raise => exact fun _ G w => ⟨G, w, True.intro, .raise⟩
  | again hq r ih => intro _ G w; obtain ⟨G', a, b, c⟩ := ih .nil G w; exact ⟨G', a, b, .again hq c⟩
  | rule r ih => intro _ G w; obtain ⟨G', a, b, c⟩ := ih .nil G w; exact ⟨G', a, b, .rule c⟩
  | «at» r ih => intro _ G w; obtain ⟨G', a, b, c⟩ := ih .nil G w; exact ⟨G', a, b, .at c⟩
  | load ho r ih => intro _ G w; obtain ⟨G', a, b, c⟩ := ih .nil G w; exact ⟨G', a, b, .load ho c⟩
  | update ho r ih => intro _ G w; obtain ⟨G', a, b, c⟩ := ih .nil G w; exact ⟨G', a, b, .update ho c⟩
  | loadIfAlive r ih => intro _ G w; obtain ⟨G', a, b, c⟩ := ih .nil G w; exact ⟨G', a, b, .loadIfAlive c⟩
  | point r ih => intro _ G w; obtain ⟨G', a, b, c⟩ := ih .nil G w; exact ⟨G', a, b, .point c⟩
  | alloc r ih => intro _ G w; obtain ⟨G', a, b, c⟩ := ih .nil G w; exact ⟨G', a, b, .alloc c⟩
  | fresh r ih => intro _ G w; obtain ⟨G', a, b, c⟩ := ih .nil G w; exact ⟨G', a, b, .fresh c⟩
  | ask r ih => intro _ G w; obtain ⟨G', a, b, c⟩ := ih .nil G w; exact ⟨G', a, b, .ask c⟩
  | choose hn r ih => intro _ G w; obtain ⟨G', a, b, c⟩ := ih .nil G w; exact ⟨G', a, b, .choose hn c⟩
  | os r ih => intro _ G w; obtain ⟨G', a, b, c⟩ := ih .nil G w; exact ⟨G', a, b, .os c⟩
  | handled r ih => intro _ G w; obtain ⟨G', a, b, c⟩ := ih .nil G w; exact ⟨G', a, b, .handled c⟩
  | stack r ih => intro _ G w; obtain ⟨G', a, b, c⟩ := ih .nil G w; exact ⟨G', a, b, .stack c⟩
  | thread r ih => intro _ G w; obtain ⟨G', a, b, c⟩ := ih .nil G w; exact ⟨G', a, b, .thread c⟩
  | @genState g st Γ p k s e s' hs r ih =>
    intro _ G w
    obtain ⟨G', a, b, c⟩ := ih .nil G w
    refine ⟨G', a, b, ?_⟩
    cases z : I g with
    | none => exact .genState (st := st) (by show G[g]? = _; rw [← w.eq g z]; exact hs) c
    | some y =>
      obtain ⟨_, h2, h3⟩ := w.at_ g y z
      rw [h2] at hs
      cases hs
      rw [dead_seen] at c
      exact .genState (st := y) h3 c
  | @newGen Γ p k s e s' cc r ih =>
    intro _ G w
    obtain ⟨G', a, b, c⟩ := ih .nil _ (w.push (x := .fresh cc) True.intro)
    refine ⟨G', a, b, .newGen ?_⟩
    show Runs M Γ p (k G.size) [] _ _ _
    rw [← w.size]
    exact c
  | call r1 r2 ih1 ih2 =>
    intro _ G w
    obtain ⟨G1, a1, b1, c1⟩ := ih1 .nil G w
    obtain ⟨G2, a2, b2, c2⟩ := ih2 .nil G1 a1
    exact ⟨G2, a2, b2, .call c1 c2⟩
  | callSusp r1 ih1 =>
    intro _ G w
    obtain ⟨G1, a1, b1, c1⟩ := ih1 .nil G w
    exact ⟨G1, a1, NoGen.app b1 .one, .callSusp c1⟩
  | yield => exact fun _ G w => ⟨G, w, NoGen.nil, .yield⟩
  | resumeFresh hg r1 hq r2 ih1 ih2 =>
    intro _ G w
    obtain ⟨z, hg'⟩ := w.alive hg (fun z => z)
    obtain ⟨G1, a1, b1, c1⟩ := ih1 .nil _ (w.set z True.intro)
    obtain ⟨G2, a2, b2, c2⟩ := ih2 .nil _ (a1.set z b1.st)
    exact ⟨G2, a2, b2, .resumeFresh hg' c1 hq c2⟩
  | @resumeSuspended Γ p g r l k s k0 l0 c0 p0 fs cl e1 s1 e s' hg r1 hq r2 ih1 ih2 =>
    intro _ G w
    cases z : I g with
    | none =>
      have hg' : G[g]? = some (.suspended k0 l0 c0 p0 fs cl) := by rw [← w.eq g z]; exact hg
      obtain ⟨G1, a1, b1, c1⟩ := ih1 (w.ng g _ hg) _ (w.set z True.intro)
      obtain ⟨G2, a2, b2, c2⟩ := ih2 .nil _ (a1.set z b1.st)
      exact ⟨G2, a2, b2, .resumeSuspended hg' c1 hq c2⟩
    | some y =>
      obtain ⟨h1, h2, _⟩ := w.at_ g y z
      rw [h2] at hg
      cases y with
      | suspended k l c p fs cl =>
        cases hg
        exact (no_unsup r1).elim
      | _ => exact h1.elim
  | resumeJustStarted hg hv r ih =>
    intro _ G w
    obtain ⟨z, hg'⟩ := w.alive hg (fun z => z)
    obtain ⟨G', a, b, c⟩ := ih .nil G w
    exact ⟨G', a, b, .resumeJustStarted hg' hv c⟩
  | resumeThrowFresh hg r ih =>
    intro _ G w
    obtain ⟨z, hg'⟩ := w.alive hg (fun z => z)
    obtain ⟨G', a, b, c⟩ := ih .nil _ (w.set z True.intro)
    exact ⟨G', a, b, .resumeThrowFresh hg' c⟩
  | resumeRunning hg r ih =>
    intro _ G w
    obtain ⟨z, hg'⟩ := w.alive hg (fun z => z)
    obtain ⟨G', a, b, c⟩ := ih .nil G w
    exact ⟨G', a, b, .resumeRunning hg' c⟩
  | resumeFinished hg r ih =>
    intro _ G w
    obtain ⟨z, hg'⟩ := w.alive hg (fun z => z)
    obtain ⟨G', a, b, c⟩ := ih .nil G w
    exact ⟨G', a, b, .resumeFinished hg' c⟩
  | segRet r1 r2 ih1 ih2 =>
    intro hn G w
    obtain ⟨G1, a1, b1, c1⟩ := ih1 .nil G w
    obtain ⟨G2, a2, b2, c2⟩ := ih2 hn.tail G1 a1
    exact ⟨G2, a2, b2, .segRet c1 c2⟩
  | segGen r1 r2 ih1 ih2 => exact fun hn => absurd rfl (hn _ List.mem_cons_self _ _ _ _ _)
  | segSuspOut hs r ih =>
    intro hn G w
    obtain ⟨G', a, b, c⟩ := ih .nil G w
    exact ⟨G', a, NoGen.app b hn, .segSuspOut hs c⟩
  | segSuspGen hs r1 hq r2 ih1 ih2 =>
    intro hn
    rw [hn.split] at hs
    cases hs
theorem wakes_sw {Γ : Ctx} {p : Pos} {g : Nat} {r : Resume} {s s' : Shared} {res : GenResult} (h : Wakes M Γ p g r s res s') {G : Array GenState} (w : Sw I s.gens G) : ∃ G', Sw I s'.gens G' ∧ Wakes M Γ p g r (wg s G) res (wg s' G') := by
  unfold Wakes at h
  split at h
  · exact h.elim
  · rename_i c hg
    obtain ⟨z, hg'⟩ := w.alive hg (fun z => z)
    split at h
    · obtain ⟨e1, s1, r1, hq, hr, rfl⟩ := h
      obtain ⟨G1, a1, b1, c1⟩ := runs_sw r1 .nil _ (w.set z True.intro)
      refine ⟨_, a1.set z b1.st, ?_⟩
      unfold Wakes
      rw [show (wg _ G).gens[g]? = _ from hg']
      exact ⟨e1, _, c1, hq, hr, rfl⟩
    · rename_i v hv
      obtain ⟨hr, rfl⟩ := h
      refine ⟨G, w, ?_⟩
      unfold Wakes
      rw [show (wg _ G).gens[g]? = _ from hg']
      cases v with
      | none => exact (hv rfl).elim
      | _ => exact ⟨hr, rfl⟩
    · obtain ⟨hr, rfl⟩ := h
      refine ⟨_, w.set z True.intro, ?_⟩
      unfold Wakes
      rw [show (wg _ G).gens[g]? = _ from hg']
      exact ⟨hr, rfl⟩
  · rename_i k0 l0 c0 p0 fs cl hg
    obtain ⟨e1, s1, r1, hq, hr, rfl⟩ := h
    cases z : I g with
    | none =>
      have hg' : G[g]? = some (.suspended k0 l0 c0 p0 fs cl) := by rw [← w.eq g z]; exact hg
      obtain ⟨G1, a1, b1, c1⟩ := runs_sw r1 (w.ng g _ hg) _ (w.set z True.intro)
      refine ⟨_, a1.set z b1.st, ?_⟩
      unfold Wakes
      rw [show (wg _ G).gens[g]? = _ from hg']
      exact ⟨e1, _, c1, hq, hr, rfl⟩
    | some y =>
      obtain ⟨h1, h2, _⟩ := w.at_ g y z
      rw [h2] at hg
      cases y with
      | suspended k l c p fs cl =>
        cases hg
        exact (no_unsup r1).elim
      | _ => exact h1.elim
  · rename_i hg
    obtain ⟨z, hg'⟩ := w.alive hg (fun z => z)
    obtain ⟨hr, rfl⟩ := h
    refine ⟨G, w, ?_⟩
    unfold Wakes
    rw [show (wg _ G).gens[g]? = _ from hg']
    exact ⟨hr, rfl⟩
  · rename_i hg
    obtain ⟨z, hg'⟩ := w.alive hg (fun z => z)
    obtain ⟨hr, rfl⟩ := h
    refine ⟨G, w, ?_⟩
    unfold Wakes
    rw [show (wg _ G).gens[g]? = _ from hg']
    exact ⟨hr, rfl⟩
end
end VG

set_option Elab.async false
set_option linter.all false
set_option maxRecDepth 100000
set_option maxHeartbeats 4000000
namespace VG
open PySem
open Sem (wp)
section
variable {M : Model} {I : Nat → Option GenState}
/-- what was told of the state where they are dead -/
def QS (I : Nat → Option GenState) {α : Type} (Q : α → Pos → Shared → Prop) : α → Pos → Shared → Prop := fun a p s' => ∃ A, Sw I A s'.gens ∧ Q a p (wg s' A)
theorem wp_sw {α : Type} {Γ : Ctx} (t : Sem α) : ∀ (Q : α → Pos → Shared → Prop) (E : Value → Pos → Shared → Prop) (p : Pos) (s : Shared) (G : Array GenState), Sw I s.gens G → wp M Γ t Q E p s →
    wp M Γ t (QS I Q) (QS I E) p (wg s G) := by
  induction t with
  | pure a => intro Q E p s G w h; exact ⟨s.gens, w, h⟩
  | raise e => intro Q E p s G w h; exact ⟨s.gens, w, h⟩
  | unsupported _ => intro Q E p s G _ h; exact h
  | finish _ => intro Q E p s G _ h; exact h
  | rule _ k ih => intro Q E p s G w h; exact ih () Q E p s G w h
  | «at» p' k ih => intro Q E p s G w h; exact ih () Q E p' s G w h
  | load a _ k ih => intro Q E p s G w h; obtain ⟨o, ho, h⟩ := h; exact ⟨o, ho, ih o Q E p s G w h⟩
  | update a _ f k ih => intro Q E p s G w h; exact ⟨h.1, ih () Q E p { s with heap := s.heap.update a f } G w h.2⟩
  | loadIfAlive a k ih => intro Q E p s G w h; exact ih _ Q E p s G w h
  | point _ k ih => intro Q E p s G w h; exact ih () Q E p s G w h
  | register _ _ => intro Q E p s G _ h; exact h
  | alloc o k ih => intro Q E p s G w h; exact ih _ Q E p { s with heap := s.heap.push o } G w h
  | fresh k ih => intro Q E p s G w h; exact ih _ Q E p { s with toks := s.toks + 1 } G w h
  | ask k ih => intro Q E p s G w h; exact ih _ Q E p _ G w h
  | choose src m k ih => intro Q E p s G w h; exact ⟨h.1, ih _ Q E p { s with drawn := s.drawn.bump src } G w h.2⟩
  | os q _ k ih => intro Q E p s G w h; exact ih _ Q E p { s with os := (Os.step s.os q).1 } G w h
  | call c hd _ _ k ih =>
    intro Q E p s G w h
    obtain ⟨r, s', hr, h⟩ := h
    obtain ⟨G', a, _, c1⟩ := runs_sw hr .nil G w
    exact ⟨r, wg s' G', c1, ih r Q E p s' G' a h⟩
  | handled own k ih => intro Q E p s G w h; exact ih _ Q E p s G w h
  | genState g k ih =>
    intro Q E p s G w h
    obtain ⟨st, hs, h⟩ := h
    cases z : I g with
    | none => exact ⟨st, (by show G[g]? = _; rw [← w.eq g z]; exact hs), ih _ Q E p s G w h⟩
    | some y =>
      obtain ⟨_, h2, h3⟩ := w.at_ g y z
      rw [h2] at hs
      cases hs
      rw [dead_seen] at h
      exact ⟨y, h3, ih _ Q E p s G w h⟩
  | newGen c k ih =>
    intro Q E p s G w h
    have := ih _ Q E p _ (G.push (.fresh c)) (w.push (x := .fresh c) True.intro) h
    show wp M Γ (k G.size) _ _ p _
    rw [← w.size]
    exact this
  | resume g r _ k ih =>
    intro Q E p s G w h
    obtain ⟨res, s', hw, h⟩ := h
    obtain ⟨G', a, c1⟩ := wakes_sw hw w
    exact ⟨res, wg s' G', c1, ih res Q E p s' G' a h⟩
  | yield _ _ _ _ => intro Q E p s G _ h; exact h
  | stack k ih => intro Q E p s G w h; exact ih _ Q E p s G w h
  | fork _ _ => intro Q E p s G _ h; exact h
  | thread k ih => intro Q E p s G w h; exact ih _ Q E p s G w h
  | await _ _ _ _ _ => intro Q E p s G _ h; exact h
/-- the states of G that sleep -/
def sleepers (G : Array GenState) : Nat → Option GenState := fun i => match G[i]? with
  | some (.suspended k l c p fs cl) => some (.suspended k l c p fs cl)
  | _ => none
theorem sleepers_at {G : Array GenState} {i : Nat} {x : GenState} (h : sleepers G i = some x) : Susp x ∧ G[i]? = some x := by
  unfold sleepers at h
  split at h
  · cases h
    exact ⟨True.intro, by assumption⟩
  · cases h
theorem sleepers_of {G : Array GenState} {i : Nat} {x : GenState} (h : G[i]? = some x) (hx : Susp x) : sleepers G i = some x := by
  unfold sleepers
  rw [h]
  cases x <;> first | rfl | exact hx.elim
theorem dead_id {x : GenState} (h : ¬ Susp x) : dead x = x := by cases x <;> first | rfl | exact absurd True.intro h
theorem dead_ng (x : GenState) : StNG (dead x) := by cases x <;> first | exact NoGen.strip _ | exact True.intro
theorem sw_dead (G : Array GenState) : Sw (sleepers G) (G.map dead) G where
  size := Array.size_map ..
  at_ := fun i x h => by
    obtain ⟨a, b⟩ := sleepers_at h
    exact ⟨a, by rw [Array.getElem?_map, b]; rfl, b⟩
  eq := fun i h => by
    rw [Array.getElem?_map]
    cases z : G[i]? with
    | none => rfl
    | some x =>
      have : ¬ Susp x := fun q => by rw [sleepers_of z q] at h; cases h
      show some (dead x) = some x
      rw [dead_id this]
  ng := fun i x h => by
    rw [Array.getElem?_map] at h
    cases z : G[i]? with
    | none => rw [z] at h; cases h
    | some y =>
      rw [z] at h
      cases h
      exact dead_ng y
/-- THE RULE: shown where no sleeper can be woken, it holds where they sleep, and they sleep on -/
theorem wpAny_sleep {α : Type} {A : Around} {s : Shared} {t : Sem α} {Q : α → Shared → Prop} {E : Value → Shared → Prop} (h : wpAny M A t Q E (wg s (s.gens.map dead))) :
    wpAny M A t (fun a s' => ∃ B, Sw (sleepers s.gens) B s'.gens ∧ Q a (wg s' B)) (fun e s' => ∃ B, Sw (sleepers s.gens) B s'.gens ∧ E e (wg s' B)) s :=
  fun Γ p hΓ => wp_sw (I := sleepers s.gens) t _ _ p (wg s (s.gens.map dead)) s.gens (sw_dead s.gens) (h Γ p hΓ)
theorem wpAny_sw {α : Type} {A : Around} {s : Shared} {B0 : Array GenState} {t : Sem α} {Q : α → Shared → Prop} {E : Value → Shared → Prop} (w : Sw I B0 s.gens) (h : wpAny M A t Q E (wg s B0)) :
    wpAny M A t (fun a s' => ∃ B, Sw I B s'.gens ∧ Q a (wg s' B)) (fun e s' => ∃ B, Sw I B s'.gens ∧ E e (wg s' B)) s :=
  fun Γ p hΓ => wp_sw (I := I) t _ _ p (wg s B0) s.gens w (h Γ p hΓ)
theorem Sw.stays {G B G' : Array GenState} {g : Nat} {x : GenState} (h : Sw (sleepers G) B G') (e : G[g]? = some x) (hx : Susp x) : G'[g]? = some x := (h.at_ g x (sleepers_of e hx)).2.2
end
end VG

set_option Elab.async false
set_option linter.all false
set_option maxRecDepth 100000
set_option maxHeartbeats 4000000
/-! a generator's frame, left and entered again while its consumer does what it likes -/
namespace VG
open PySem PySem.Spec PyProof.Rows L2 GenW
def trunc (h : Heap) (n : Nat) : Heap := ⟨h.objs.extract 0 n, h.life⟩
theorem trunc_get {h : Heap} {n a : Nat} : (trunc h n).get? a = if a < n then h.get? a else none := by
  unfold trunc Heap.get?
  dsimp only
  rw [Array.getElem?_extract]
  by_cases c : a < n
  · rw [if_pos c]
    by_cases d : a < h.objs.size
    · rw [if_pos (by omega), Nat.zero_add]
    · rw [if_neg (by omega), Array.getElem?_eq_none (by omega)]
  · rw [if_neg c, if_neg (by omega)]
theorem trunc_some {h : Heap} {n a : Nat} {o : Obj} (e : (trunc h n).get? a = some o) : a < n ∧ h.get? a = some o := by
  rw [trunc_get] at e
  split at e
  · exact ⟨by assumption, e⟩
  · cases e
theorem trunc_of {h : Heap} {n a : Nat} {o : Obj} (c : a < n) (e : h.get? a = some o) : (trunc h n).get? a = some o := by rw [trunc_get, if_pos c, e]
theorem trunc_size {h : Heap} {n : Nat} (c : n ≤ h.objs.size) : (trunc h n).objs.size = n := by
  show (h.objs.extract 0 n).size = n
  rw [Array.size_extract]
  omega
theorem obj_get {P : Program} {w : World} {H : Hp} {h : Heap} {a : Addr} {u : HO} (x : ObjOk P w H h a u) : ∃ o, h.get? a = some o := by
  cases u with
  | lst xs => obtain ⟨_, _, _, _, e⟩ := x; exact ⟨_, e⟩
  | tup xs => obtain ⟨_, _, _, o, e, _⟩ := x; exact ⟨_, e⟩
  | dK kvs => obtain ⟨_, _, _, _, o, _, _, e, _⟩ := x; exact ⟨_, e⟩
  | dT kvs => obtain ⟨_, _, _, _, o, _, _, e, _⟩ := x; exact ⟨_, e⟩
  | set S n => obtain ⟨o, _, _, _, e, _⟩ := x; exact ⟨_, e⟩
  | ins C dx fs => obtain ⟨_, _, _, e, _⟩ := x; exact ⟨_, e⟩
  | own y => obtain ⟨_, e⟩ := x; exact ⟨_, e⟩
  | xd fs => obtain ⟨_, ⟨_, _, _, e, _⟩, _⟩ := x; exact ⟨_, e⟩
  | rng lo hi => obtain ⟨_, _, _, e⟩ := x; exact ⟨_, e⟩
  | frz ob u => obtain ⟨e, _⟩ := x; exact ⟨_, e⟩
  | tbl ps => exact ⟨_, (show h.get? a = some _ from x)⟩
  | met f y => exact ⟨_, (show h.get? a = some _ from x)⟩
  | ext φ => obtain ⟨_, ⟨_, e⟩, _⟩ := x; exact ⟨_, e⟩
abbrev fz (o : Obj) : HO := .frz o (.ext fun _ => True)
theorem fz_ok {P : Program} {w : World} {H : Hp} {h : Heap} {b : Addr} {o : Obj} (e : h.get? b = some o) : ObjOk P w H h b (fz o) := ⟨e, True.intro, ⟨o, e⟩, fun _ _ _ _ => True.intro⟩
abbrev re (X : Cx) (s0 : Shared) (H0 : Hp) : Cx := { X with s_0 := s0, H_0 := H0 }
/-- the frame's own objects -/
def own (X : Cx) : List Addr := X.env.locals :: X.env.cells.filterMap fun p => X.env.cells.lookup p.1
theorem own_cell {X : Cx} {x : Str} {c : Addr} (h : X.env.cells.lookup x = some c) : c ∈ own X :=
  List.mem_cons_of_mem _ (List.mem_filterMap.mpr ⟨(x, c), PySem.mem_of_lookup h, h⟩)
theorem own_of {X : Cx} {b : Addr} (h : b ∈ own X) : b = X.env.locals ∨ ∃ x, X.env.cells.lookup x = some b := by
  rcases List.mem_cons.mp h with h | h
  · exact .inl h
  · obtain ⟨p, _, e⟩ := List.mem_filterMap.mp h
    exact .inr ⟨p.1, e⟩
/-- what is fixed of it -/
structure GSt (X : Cx) (n0 : Nat) : Prop where
  kind : X.env.scope.kind = .function
  glob : X.env.globals = mainGlobals
  blt : X.env.builtins = builtinsNs
  inj : ∀ x y c, X.env.cells.lookup x = some c → X.env.cells.lookup y = some c → x = y
  has : ∀ x, (X.env.kindOf x = some .cell ∨ X.env.kindOf x = some .free) → ∃ c, X.env.cells.lookup x = some c
  above : n0 ≤ X.env.locals
  cab : ∀ x c, X.env.cells.lookup x = some c → n0 ≤ c
  st : X.stack = X.env :: X.outer
  frame : X.env.frame = some X.env.locals
  ex : X.ex = []
  pn : X.pn = []
  frl : ∀ b ∈ frs X.outer, b < n0
  bsz : X.base.objs.size ≤ n0
  hd : X.A.handled = none
  frames : X.A.frames = some X.stack
theorem GSt.own_ge {X : Cx} {n0 : Nat} (S : GSt X n0) {b : Addr} (h : b ∈ own X) : n0 ≤ b := by
  rcases own_of h with rfl | ⟨x, e⟩
  · exact S.above
  · exact S.cab x b e
/-- its names as they stand -/
structure Own (X : Cx) (σ : L2.St) (h : Heap) : Prop where
  loc : ∃ m, h.Ns X.env.locals m ∧ ∀ (i : Nat) (x : Str) (v : V), X.N[i]? = some x → σ[i]? = some (some v) → Vis X.env.scope x → ∃ u, RelV v u ∧ Look X.env h m x u
  cell : ∀ x c, X.env.cells.lookup x = some c → ∃ v, h.IsCell c v
  len : σ.length = X.N.length
theorem Own.keep {X : Cx} {σ : L2.St} {h h' : Heap} (O : Own X σ h) (k : ∀ b ∈ own X, ∀ o, h.get? b = some o → h'.get? b = some o) : Own X σ h' where
  loc := by
    obtain ⟨m, ⟨o, es, ep, e, r⟩, f⟩ := O.loc
    refine ⟨m, ⟨o, es, ep, k _ List.mem_cons_self o e, r⟩, fun i x v h1 h2 h3 => ?_⟩
    obtain ⟨u, ru, lk⟩ := f i x v h1 h2 h3
    refine ⟨u, ru, ?_⟩
    rcases lk with lk | ⟨a, c, e1, oc, e2, d⟩
    · exact .inl lk
    · exact .inr ⟨a, c, e1, oc, k c (own_cell e1) oc e2, d⟩
  cell := fun x c e => by
    obtain ⟨v, o, e2, d⟩ := O.cell x c e
    exact ⟨v, o, k c (own_cell e) o e2, d⟩
  len := O.len
open Classical in
/-- what the frame tracks: what is tracked around, and all else of age, known -/
noncomputable def ent (L : List Addr) (n0 : Nat) (H : Hp) (h : Heap) : Hp := fun b => if b ∈ L then none else match H b with
  | some o => some o
  | none => if n0 ≤ b then (h.get? b).map fz else none
theorem ent_own {L : List Addr} {n0 : Nat} {H : Hp} {h : Heap} {b : Addr} (e : b ∈ L) : ent L n0 H h b = none := by unfold ent; rw [if_pos e]
theorem ent_some {L : List Addr} {n0 : Nat} {H : Hp} {h : Heap} {b : Addr} {o : HO} (n : b ∉ L) (e : H b = some o) : ent L n0 H h b = some o := by unfold ent; rw [if_neg n, e]
theorem ent_old {L : List Addr} {n0 : Nat} {H : Hp} {h : Heap} {b : Addr} (e : H b = none) (c : b < n0) : ent L n0 H h b = none := by
  unfold ent
  split
  · rfl
  · rw [e]
    dsimp only
    rw [if_neg (Nat.not_le.mpr c)]
theorem ent_aux {L : List Addr} {n0 : Nat} {H : Hp} {h : Heap} {b : Addr} {o : Obj} (n : b ∉ L) (e : H b = none) (c : n0 ≤ b) (g : h.get? b = some o) : ent L n0 H h b = some (fz o) := by
  unfold ent
  rw [if_neg n, e]
  dsimp only
  rw [if_pos c, g]
  rfl
theorem ent_cases {L : List Addr} {n0 : Nat} {H : Hp} {h : Heap} {b : Addr} {u : HO} (e : ent L n0 H h b = some u) : b ∉ L ∧ (H b = some u ∨ (H b = none ∧ n0 ≤ b ∧ ∃ o, h.get? b = some o ∧ u = fz o)) := by
  unfold ent at e
  split at e
  · cases e
  · rename_i n
    refine ⟨n, ?_⟩
    cases z : H b with
    | some o => rw [z] at e; exact .inl e
    | none =>
      rw [z] at e
      dsimp only at e
      split at e
      · rename_i c
        cases g : h.get? b with
        | none => rw [g] at e; cases e
        | some o => rw [g] at e; cases e; exact .inr ⟨rfl, c, o, rfl, rfl⟩
      · cases e
theorem ent_hok {P : Program} {w : World} {L : List Addr} {n0 : Nat} {H : Hp} {h : Heap} (x : HOk P w H h) (hL : ∀ b ∈ L, H b = none) : HOk P w (ent L n0 H h) h := fun b u e => by
  obtain ⟨n, e | ⟨_, _, o, g, rfl⟩⟩ := ent_cases e
  · exact (x b u e).stay (fun _ _ _ q => q) (fun c q => ent_some (fun z => by rw [hL c z] at q; cases q) q) fun c xs q => ent_some (fun z => by rw [hL c z] at q; cases q) q
  · exact fz_ok g
theorem frames_trunc {h base : Heap} {n0 : Nat} : ∀ {l : List Env}, h.FunFrames base l → (∀ b ∈ frs l, b < n0) → (trunc h n0).FunFrames base l
  | [], _, _ => True.intro
  | e :: l, ⟨hk, ⟨L, o, hf, hn, ho, hd⟩, hr⟩, f => by
    have hL : L ∈ frs (e :: l) := List.mem_filterMap.mpr ⟨e, List.mem_cons_self, hf⟩
    refine ⟨hk, ⟨L, o, hf, hn, trunc_of (f L hL) ho, hd⟩, frames_trunc hr fun b hb => f b ?_⟩
    obtain ⟨e', he, q⟩ := List.mem_filterMap.mp hb
    exact List.mem_filterMap.mpr ⟨e', List.mem_cons_of_mem _ he, q⟩
section
variable {X : Cx} {n0 : Nat} {σ : L2.St} {H : Hp} {s : Shared} {Aw : Around}
/-- entered -/
theorem enter (S : GSt X n0) (e0 : Env0 X.prog X.w X.K X.mg X.base Aw X.outer s H) (hn : n0 ≤ s.heap.objs.size) (O : Own X σ s.heap) (hL : ∀ b ∈ own X, H b = none) :
    Inv (re X { s with heap := trunc s.heap n0 } (ent (own X) n0 H s.heap)) [] σ (ent (own X) n0 H s.heap) s := by
  have lt : ∀ b o, X.base.get? b = some o → b < n0 := fun b o e => Nat.lt_of_lt_of_le (Heap.lt_size e) S.bsz
  refine ⟨⟨e0.mod, S.kind, S.glob, S.blt, ?_, S.inj, S.has, fun x c _ e => ?_, fun _ => S.hd, S.frames, .inr ⟨S.st, S.frame⟩, fun b hb => ?_, fun b o e => ⟨trunc_of (lt b o e) (e0.bs b o e).1, ent_old (e0.bs b o e).2 (lt b o e)⟩, ?_, fun b o _ hb => ?_, fun b hb => ?_, ?_, fun b hb => ent_old (e0.frf b hb) (S.frl b hb)⟩,
    rfl, e0.bare, ⟨fun b o e _ _ _ => (trunc_some e).2, fun b o e _ _ _ => ⟨o.slots, (trunc_some e).2⟩, fun b o _ n _ => n, fun b o e _ => ⟨o, (trunc_some e).2⟩, fun _ _ q => q, fun _ _ _ q => q, fun _ _ q => ⟨#[], by simpa using q⟩⟩,
    O.loc, O.cell, ent_own List.mem_cons_self, fun x c e => ent_own (own_cell e), fun p hp => ?_, ent_hok e0.hok hL, O.len⟩
  · show (trunc s.heap n0).objs.size ≤ _
    rw [trunc_size hn]
    exact S.above
  · show (trunc s.heap n0).objs.size ≤ _
    rw [trunc_size hn]
    exact S.cab x c e
  · rw [show (re X _ _).ex = X.ex from rfl, S.ex] at hb
    cases hb
  · show _ ≤ (trunc s.heap n0).objs.size
    rw [trunc_size hn]
    exact S.bsz
  · rw [show (re X _ _).ex = X.ex from rfl, S.ex] at hb
    cases hb
  · rw [show (re X _ _).ex = X.ex from rfl, S.ex] at hb
    cases hb
  · show (trunc s.heap n0).FunFrames X.base X.outer
    exact frames_trunc e0.funs S.frl
  · rw [show (re X _ _).pn = X.pn from rfl, S.pn] at hp
    cases hp
open Classical in
/-- what the consumer is told: without what was only known -/
noncomputable def lv (L : List Addr) (n0 : Nat) (H : Hp) (h : Heap) (H1 : Hp) : Hp := fun b => if b ∉ L ∧ H b = none ∧ n0 ≤ b ∧ (h.get? b).isSome = true then none else H1 b
theorem lv_some {L : List Addr} {H H1 : Hp} {h : Heap} {b : Addr} {u : HO} (e : lv L n0 H h H1 b = some u) : H1 b = some u ∧ ¬ (b ∉ L ∧ H b = none ∧ n0 ≤ b ∧ (h.get? b).isSome = true) := by
  unfold lv at e
  split at e
  · cases e
  · exact ⟨e, by assumption⟩
theorem lv_of {L : List Addr} {H H1 : Hp} {h : Heap} {b : Addr} (n : ¬ (b ∉ L ∧ H b = none ∧ n0 ≤ b ∧ (h.get? b).isSome = true)) : lv L n0 H h H1 b = H1 b := by unfold lv; rw [if_neg n]
theorem lv_aux {L : List Addr} {H H1 : Hp} {h : Heap} {b : Addr} (n : b ∉ L ∧ H b = none ∧ n0 ≤ b ∧ (h.get? b).isSome = true) : lv L n0 H h H1 b = none := by unfold lv; rw [if_pos n]
/-- left -/
structure Left (X : Cx) (n0 : Nat) (H Ho : Hp) (s s1 : Shared) : Prop where
  os : s1.os = s.os
  bare : AllBare s1.gens
  un : Un (frs X.outer) (own X) H Ho s.heap s1.heap
  hok : HOk X.prog X.w Ho s1.heap
  own_ : ∀ b ∈ own X, Ho b = none
  nolim : s1.heap.NoLimit
theorem leave (S : GSt X n0) (hL : ∀ b ∈ own X, H b = none) {H1 : Hp} {s1 : Shared} {σ' : L2.St} (hn : n0 ≤ s.heap.objs.size) (I : Inv (re X { s with heap := trunc s.heap n0 } (ent (own X) n0 H s.heap)) [] σ' H1 s1) (tr : ∀ b u, H b = some u → b ∉ own X → H1 b ≠ none) :
    Left X n0 H (lv (own X) n0 H s.heap H1) s s1 ∧ Own X σ' s1.heap := by
  have base := I.base
  have aux : ∀ {b o}, b ∉ own X → H b = none → n0 ≤ b → s.heap.get? b = some o → s1.heap.get? b = some o := fun {b o} n e c g => by
    have q := base.frzs b o _ (ent_aux n e c g)
    exact (I.hok b _ q).1
  have hlv : ∀ {b u}, H1 b = some u → (∀ o, u ≠ fz o) → lv (own X) n0 H s.heap H1 b = some u := fun {b u} q d => by
    rw [lv_of, q]
    rintro ⟨n, e, c, g⟩
    obtain ⟨o, g⟩ := Option.isSome_iff_exists.mp g
    have := base.frzs b o _ (ent_aux n e c g)
    rw [q] at this
    exact d o (Option.some.inj this)
  have hlv2 : ∀ {b u}, H b = some u → H1 b = some u → lv (own X) n0 H s.heap H1 b = some u := fun {b u} e q => by
    rw [lv_of, q]
    rintro ⟨_, e', _⟩
    rw [e] at e'
    cases e'
  have fsn : ∀ b ∈ frs X.outer, b ∉ own X := fun b hb ho => by
    have h1 := S.frl b hb
    have h2 := S.own_ge ho
    exact absurd h1 (Nat.not_lt.mpr h2)
  refine ⟨⟨I.os, I.bare, ⟨fun b o g e hf n => ?_, fun b o g e hf n => ?_, fun b o g e n => ?_, fun b o g n => ?_, fun b xs e => ?_, fun b o u e => ?_, fun b ps e => ?_⟩, fun b u e => ?_, fun b hb => ?_, I.nolimit⟩, I.loc, I.cell, I.len⟩
  · by_cases c : b < n0
    · exact base.keep b o (trunc_of c g) (ent_old e c) hf (by rw [show (re X _ _).ex = X.ex from rfl, S.ex]; exact fun z => nomatch z)
    · exact aux n e (Nat.le_of_not_lt c) g
  · exact base.slot b o (trunc_of (S.frl b hf) g) (ent_old e (S.frl b hf)) hf (by rw [show (re X _ _).ex = X.ex from rfl, S.ex]; exact fun z => nomatch z)
  · by_cases c : b < n0
    · have q := base.free b o (trunc_of c g) (ent_old e c) (by rw [show (re X _ _).ex = X.ex from rfl, S.ex]; exact fun z => nomatch z)
      cases z : lv (own X) n0 H s.heap H1 b with
      | none => rfl
      | some u => rw [(lv_some z).1] at q; cases q
    · exact lv_aux ⟨n, e, Nat.le_of_not_lt c, by rw [g]; rfl⟩
  · by_cases c : b < n0
    · exact base.there b o (trunc_of c g) (by rw [show (re X _ _).ex = X.ex from rfl, S.ex]; exact fun z => nomatch z)
    · cases e : H b with
      | none => exact ⟨o, aux n e (Nat.le_of_not_lt c) g⟩
      | some u =>
        obtain ⟨u1, e1⟩ := Option.ne_none_iff_exists'.mp (tr b u e n)
        exact obj_get (I.hok b u1 e1)
  · by_cases n : b ∈ own X
    · rw [hL b n] at e
      cases e
    · exact hlv2 e (base.tups b xs (ent_some n e))
  · by_cases n : b ∈ own X
    · rw [hL b n] at e
      cases e
    · exact hlv2 e (base.frzs b o u (ent_some n e))
  · by_cases n : b ∈ own X
    · rw [hL b n] at e
      cases e
    · obtain ⟨more, q⟩ := base.tbls b ps (ent_some n e)
      exact ⟨more, hlv q fun o z => by cases z⟩
  · obtain ⟨q, n⟩ := lv_some e
    refine (I.hok b u q).stay (fun _ _ _ z => z) (fun c z => hlv z fun o y => by cases y) fun c xs z => hlv z fun o y => by cases y
  · have q : H1 b = none := by
      rcases own_of hb with rfl | ⟨x, e⟩
      · exact I.free
      · exact I.freeC x b e
    cases z : lv (own X) n0 H s.heap H1 b with
    | none => rfl
    | some u => rw [(lv_some z).1] at q; cases q
end
end VG

set_option Elab.async false
set_option linter.all false
set_option maxRecDepth 100000
set_option maxHeartbeats 4000000
/-! a generator: statements, then a while that hands out one item a turn; its consumer does what it likes -/
namespace VG
open PySem PySem.Spec PyProof.Rows L2 GenW VL
/-- the consumer's heap Ho, told from the frame's H2; H: where the turn began -/
structure Told (H H2 Ho : Hp) : Prop where
  new : ∀ b u, H2 b = some u → (∀ o, u ≠ fz o) → Ho b = some u
  old : ∀ b u, H b = some u → H2 b = some u → Ho b = some u
  sub : ∀ b u, Ho b = some u → H2 b = some u
section
variable {X : Cx} {n0 N : Nat} {Aw : Around} {Gh : Nat → Shared → Hp × L2.St} {Z : Nat → L2.St → Hp → Prop} {Yl : Nat → L2.St → Hp → V → L2.St → Hp → Prop} {En : Nat → L2.St → Hp → Hp → Prop}
/-- it may be woken at s' -/
structure Wakes (X : Cx) (n0 : Nat) (Aw : Around) (Zi : Hp → Prop) (H : Hp) (s' : Shared) : Prop where
  e0 : Env0 X.prog X.w X.K X.mg X.base Aw X.outer s' H
  sz : n0 ≤ s'.heap.objs.size
  own_ : ∀ b ∈ own X, H b = none
  z : Zi H
def YW (X : Cx) (n0 N : Nat) (Aw : Around) (Gh : Nat → Shared → Hp × L2.St) (Z : Nat → L2.St → Hp → Prop) (Yl : Nat → L2.St → Hp → V → L2.St → Hp → Prop) : Protocol := fun n s₀ v s₁ kap => ∃ i x Ho σ', i + n + 1 = N ∧ Left X n0 (Gh (n + 1) s₀).1 Ho s₀ s₁ ∧ n0 ≤ s₁.heap.objs.size ∧ RelV x v ∧ Yl i (Gh (n + 1) s₀).2 (Gh (n + 1) s₀).1 x σ' Ho ∧
  Own X σ' s₁.heap ∧ Z (i + 1) σ' Ho ∧ ∀ s', Wakes X n0 Aw (Z (i + 1) (Gh n s').2) (Gh n s').1 s' → Own X (Gh n s').2 s'.heap → kap (.send .none) s'
def FW (X : Cx) (n0 N : Nat) (Gh : Nat → Shared → Hp × L2.St) (En : Nat → L2.St → Hp → Hp → Prop) (n : Nat) (s₀ s₁ : Shared) : Prop := ∃ i Ho, i + n = N ∧ Left X n0 (Gh n s₀).1 Ho s₀ s₁ ∧ En i (Gh n s₀).2 (Gh n s₀).1 Ho
def RW (X : Cx) (n0 N : Nat) (Gh : Nat → Shared → Hp × L2.St) (En : Nat → L2.St → Hp → Hp → Prop) : GenEnd := fun n s₀ r s₁ => ((r = .ok (.ret .none) ∨ r = .ok .next) ∧ FW X n0 N Gh En n s₀ s₁) ∨ ∃ e, r = .error e ∧ False
/-- what is shown of the body -/
structure Body (X : Cx) (N : Nat) (Z : Nat → L2.St → Hp → Prop) (Yl : Nat → L2.St → Hp → V → L2.St → Hp → Prop) (En : Nat → L2.St → Hp → Hp → Prop) (pre st1 st2 : Stmt) (test e : Expr) (tpre t1 t2 : TS) (tc : TT) (te : TE) (Head : Nat → L2.St → Hp → L2.St → Hp → Prop) : Prop where
  pre : ∀ s0 H0, PS (re X s0 H0) pre tpre
  test : ∀ s0 H0, PT (re X s0 H0) test tc
  st1 : ∀ s0 H0, PS (re X s0 H0) st1 t1
  e : ∀ s0 H0, PE (re X s0 H0) e te
  st2 : ∀ s0 H0, PS (re X s0 H0) st2 t2
  start : ∀ σ H Hg, Z 0 σ H → Same H Hg → tpre { nx := Head 0 σ H, rt := fun _ _ => False } σ Hg
  resume : ∀ i σ H Hg, Z (i + 1) σ H → Same H Hg → t2 { nx := Head (i + 1) σ H, rt := fun _ _ => False } σ Hg
  head : ∀ i σp H σ Hg, Head i σp H σ Hg → tc σ Hg fun b H1 => if b = true then
        i < N ∧ t1 { nx := fun σ' H' => te σ' H' fun x H2 => (∀ b u, H b = some u → H2 b ≠ none) ∧ ∀ Ho, Told H H2 Ho → Yl i σp H x σ' Ho ∧ Z (i + 1) σ' Ho, rt := fun _ _ => False } σ H1
      else (∀ b u, H b = some u → H1 b ≠ none) ∧ ∀ Ho, Told H H1 Ho → En i σp H Ho
end
section
variable {X : Cx} {n0 N : Nat} {Aw : Around} {Gh : Nat → Shared → Hp × L2.St} {Z : Nat → L2.St → Hp → Prop} {Yl : Nat → L2.St → Hp → V → L2.St → Hp → Prop} {En : Nat → L2.St → Hp → Hp → Prop} {pre st1 st2 : Stmt} {test e : Expr} {wp yp xp : Pos} {tpre t1 t2 : TS} {tc : TT} {te : TE} {Head : Nat → L2.St → Hp → L2.St → Hp → Prop}
theorem same_ent {L : List Addr} {H : Hp} {h : Heap} (hL : ∀ b ∈ L, H b = none) : Same H (ent L n0 H h) := fun b o e => ent_some (fun z => by rw [hL b z] at e; cases e) e
theorem told_lv {L : List Addr} {H H1 : Hp} {h : Heap} (aux : ∀ b o, b ∉ L → H b = none → n0 ≤ b → h.get? b = some o → H1 b = some (fz o)) : Told H H1 (lv L n0 H h H1) where
  new := fun b u q d => by
    rw [lv_of, q]
    rintro ⟨n, e, c, g⟩
    obtain ⟨o, g⟩ := Option.isSome_iff_exists.mp g
    have := aux b o n e c g
    rw [q] at this
    exact d o (Option.some.inj this)
  old := fun b u e q => by
    rw [lv_of, q]
    rintro ⟨_, e', _⟩
    rw [e] at e'
    cases e'
  sub := fun b u e => (lv_some e).1
theorem Inv.szle {pins : List (Addr × Obj)} {s0 : Shared} {H0 : Hp} {σ : L2.St} {H : Hp} {s1 : Shared} (S : GSt X n0) (I : Inv (re X s0 H0) pins σ H s1) : n0 ≤ s1.heap.objs.size := by
  have h1 : (re X s0 H0).env.locals < s1.heap.objs.size := I.lt
  have h2 := S.above
  exact Nat.le_of_lt (Nat.lt_of_le_of_lt h2 h1)
theorem seg_turns (S : GSt X n0) (hxe : X.xe = fun _ _ => False) (hco : X.env.scope.isCoroutine = false) (hi : interactive X.env = false) (B : Body X N Z Yl En pre st1 st2 test e tpre t1 t2 tc te Head)
    {kk : Result → Sem PySem.Fin} {cf : Code} {p : Pos} (hkk : kk (.ok .next) = .pure (.done (.ret .none))) (hover : Aw.over cf [] = X.A) :
    ∀ (n i : Nat) (s₀ s : Shared) (σ : L2.St) (Hg : Hp), i + n = N → n0 ≤ s₀.heap.objs.size → (∀ b ∈ own X, (Gh n s₀).1 b = none) →
      L2.Inv (re X { s₀ with heap := trunc s₀.heap n0 } (ent (own X) n0 (Gh n s₀).1 s₀.heap)) [] σ Hg s → Head i (Gh n s₀).2 (Gh n s₀).1 σ Hg →
      Seg (model X.prog X.w) Aw (RW X n0 N Gh En) (YW X n0 N Aw Gh Z Yl) n s₀ (.whileLoop test [st1, .Expr (.Yield (some e) yp) xp, st2] [] X.env) ((model X.prog X.w).den (.whileLoop test [st1, .Expr (.Yield (some e) yp) xp, st2] [] X.env)) [.ret kk none false [] cf p []] s := by
  have nox : ∀ {s0 H0 u s'}, (re X s0 H0).xe u s' → False := fun {s0 H0 u s'} h => by
    have : X.xe u s' := h
    rw [hxe] at this
    exact this
  have ov : Aw.over (.whileLoop test [st1, .Expr (.Yield (some e) yp) xp, st2] [] X.env) [.ret kk none false [] cf p []] = X.A := (over_loop rfl rfl).trans hover
  intro n
  induction n with
  | zero =>
    intro i s₀ s σ Hg hin hsz hown I hd
    have aux : ∀ {σ' H' s'}, L2.Inv (re X { s₀ with heap := trunc s₀.heap n0 } (ent (own X) n0 (Gh 0 s₀).1 s₀.heap)) [] σ' H' s' → ∀ b o, b ∉ own X → (Gh 0 s₀).1 b = none → n0 ≤ b → s₀.heap.get? b = some o → H' b = some (fz o) := fun I b o n e c g => I.base.frzs b o _ (ent_aux n e c g)
    refine seg_whileLoop ?_
    rw [ov]
    refine wpAny_mono ((B.test { s₀ with heap := trunc s₀.heap n0 } (ent (own X) n0 (Gh 0 s₀).1 s₀.heap)).run [] s σ Hg _ I (B.head i _ _ σ Hg hd)) (fun b s' hb => ?_) fun x s' hx => (nox hx).elim
    obtain ⟨H2, I2, q2⟩ := hb
    cases b with
    | true =>
      obtain ⟨lt, _⟩ := q2
      omega
    | false =>
      rw [if_neg Bool.false_ne_true]
      refine seg_execs_nil ?_
      obtain ⟨tr, fin⟩ := q2
      refine seg_leaf (.ok .next) ?_
      rw [hkk]
      exact seg_end (.ok (.ret .none)) (.inl ⟨.inl rfl, i, _, hin, (leave S hown hsz I2 fun b u q _ => tr b u q).1, fin _ (told_lv (aux I2))⟩)
  | succ m ih =>
    intro i s₀ s σ Hg hin hsz hown I hd
    have aux : ∀ {σ' H' s'}, L2.Inv (re X { s₀ with heap := trunc s₀.heap n0 } (ent (own X) n0 (Gh (m + 1) s₀).1 s₀.heap)) [] σ' H' s' → ∀ b o, b ∉ own X → (Gh (m + 1) s₀).1 b = none → n0 ≤ b → s₀.heap.get? b = some o → H' b = some (fz o) := fun I b o n e c g => I.base.frzs b o _ (ent_aux n e c g)
    refine seg_whileLoop ?_
    rw [ov]
    refine wpAny_mono ((B.test { s₀ with heap := trunc s₀.heap n0 } (ent (own X) n0 (Gh (m + 1) s₀).1 s₀.heap)).run [] s σ Hg _ I (B.head i _ _ σ Hg hd)) (fun b s' hb => ?_) fun x s' hx => (nox hx).elim
    obtain ⟨H2, I2, q2⟩ := hb
    cases b with
    | false =>
      rw [if_neg Bool.false_ne_true]
      refine seg_execs_nil ?_
      obtain ⟨tr, fin⟩ := q2
      refine seg_leaf (.ok .next) ?_
      rw [hkk]
      exact seg_end (.ok (.ret .none)) (.inl ⟨.inl rfl, i, _, hin, (leave S hown hsz I2 fun b u q _ => tr b u q).1, fin _ (told_lv (aux I2))⟩)
    | true =>
      obtain ⟨lt, q2⟩ := q2
      rw [if_pos rfl]
      refine seg_execs_cons ?_
      refine seg_wrap ?_
      rw [ov]
      refine wpAny_mono ((B.st1 { s₀ with heap := trunc s₀.heap n0 } (ent (own X) n0 (Gh (m + 1) s₀).1 s₀.heap)).run [] s' σ H2 _ I2 q2) (fun f s3 hs => ?_) fun x s' hx => (nox hx).elim
      cases f with
      | brk => obtain ⟨_, _, _, q⟩ := hs; exact q.elim
      | cont => obtain ⟨_, _, _, q⟩ := hs; exact q.elim
      | ret v => obtain ⟨_, _, _, _, _, q⟩ := hs; exact q.elim
      | next =>
        obtain ⟨σ3, H3, I3, q3⟩ := hs
        refine seg_execs_cons ?_
        refine seg_Expr_Yield rfl rfl rfl ?_ hco hi
        rw [ov]
        refine wpAny_mono ((B.e { s₀ with heap := trunc s₀.heap n0 } (ent (own X) n0 (Gh (m + 1) s₀).1 s₀.heap)).run [] s3 σ3 H3 _ I3 q3) (fun v s4 hv => ?_) fun x s' hx => (nox hx).elim
        obtain ⟨x, H4, I4, rv, tr, yl⟩ := hv
        intro kap hk
        obtain ⟨L4, O4⟩ := leave S hown hsz I4 fun b u q _ => tr b u q
        obtain ⟨y1, z1⟩ := yl _ (told_lv (aux I4))
        refine ⟨i, x, _, σ3, by omega, L4, Inv.szle S I4, rv, y1, O4, z1, fun s5 W5 O5 => hk .none s5 ?_⟩
        have I5 := enter S W5.e0 W5.sz O5 W5.own_
        refine seg_execs_cons ?_
        refine seg_wrap ?_
        rw [ov]
        refine wpAny_mono ((B.st2 { s5 with heap := trunc s5.heap n0 } (ent (own X) n0 (Gh m s5).1 s5.heap)).run [] s5 _ _ _ I5 (B.resume i _ _ _ W5.z (same_ent W5.own_))) (fun f s6 hs => ?_) fun x s' hx => (nox hx).elim
        cases f with
        | brk => obtain ⟨_, _, _, q⟩ := hs; exact q.elim
        | cont => obtain ⟨_, _, _, q⟩ := hs; exact q.elim
        | ret v => obtain ⟨_, _, _, _, _, q⟩ := hs; exact q.elim
        | next =>
          obtain ⟨σ6, H6, I6, q6⟩ := hs
          refine seg_execs_nil ?_
          exact seg_again rfl (ih (i + 1) s5 s6 σ6 H6 (by omega) W5.sz W5.own_ I6 q6)
theorem seg_walk (S : GSt X n0) (hxe : X.xe = fun _ _ => False) (hA : Aw.deeper X.env = X.A) (hco : X.env.scope.isCoroutine = false) (hi : interactive X.env = false) (B : Body X N Z Yl En pre st1 st2 test e tpre t1 t2 tc te Head) (s : Shared)
    (W : Wakes X n0 Aw (Z 0 (Gh N s).2) (Gh N s).1 s) (O : Own X (Gh N s).2 s.heap) :
    Seg (model X.prog X.w) Aw (RW X n0 N Gh En) (YW X n0 N Aw Gh Z Yl) N s (.func [pre, .While test [st1, .Expr (.Yield (some e) yp) xp, st2] [] wp] X.env) ((model X.prog X.w).den (.func [pre, .While test [st1, .Expr (.Yield (some e) yp) xp, st2] [] wp] X.env)) [] s := by
  have nox : ∀ {s0 H0 u s'}, (re X s0 H0).xe u s' → False := fun {s0 H0 u s'} h => by
    have : X.xe u s' := h
    rw [hxe] at this
    exact this
  refine seg_func ?_
  refine seg_execs_cons ?_
  refine seg_wrap ?_
  rw [over_func, hA]
  have I0 := enter S W.e0 W.sz O W.own_
  refine wpAny_mono ((B.pre { s with heap := trunc s.heap n0 } (ent (own X) n0 (Gh N s).1 s.heap)).run [] s _ _ _ I0 (B.start _ _ _ W.z (same_ent W.own_))) (fun f s1 hs => ?_) fun x s' hx => (nox hx).elim
  cases f with
  | brk => obtain ⟨_, _, _, q⟩ := hs; exact q.elim
  | cont => obtain ⟨_, _, _, q⟩ := hs; exact q.elim
  | ret v => obtain ⟨_, _, _, _, _, q⟩ := hs; exact q.elim
  | next =>
    obtain ⟨σ1, H1, I1, q1⟩ := hs
    refine seg_execs_cons ?_
    refine seg_While fun p => ?_
    exact seg_turns S hxe hco hi B rfl (over_func.trans hA) N 0 s s1 σ1 H1 (Nat.zero_add _) W.sz W.own_ I1 q1
end
end VG

set_option Elab.async false
set_option linter.all false
set_option maxRecDepth 100000
set_option maxHeartbeats 4000000
/-! a call of a generator def: a generator that has not begun -/
namespace VG
open PySem PySem.Spec PyProof.Rows L2 GenW VL
/-- the context of its frame, woken from Aw -/
abbrev gX (P : Program) (w : World) (K : PySem.W.Frag) (mg : Str → Option Value) (base : Heap) (N : List Str) (qual : Str) (scope : Scope) (f : Addr) (cdv : Value) (Aw : Around) (outer : List Env) (s : Shared) (H : Hp) : Cx :=
  (cxOf CX0 P w K mg base N qual scope f cdv Aw outer s H E0).nox
structure GNew (P : Program) (w : World) (K : PySem.W.Frag) (mg : Str → Option Value) (base : Heap) (N : List Str) (qual : Str) (scope : Scope) (body : List Stmt) (f : Addr) (cdv : Value) (outer : List Env) (s : Shared) (H : Hp) (vs : List V) (u : Value) (s' : Shared) (a g : Nat) : Prop where
  val : u = .ref a
  ge : s.heap.objs.size ≤ a
  gen : s'.heap.IsGen a g
  st : s'.gens[g]? = some (.fresh (.func body (envOfC qual scope s.heap.objs.size f cdv)))
  os : s'.os = s.os
  bare : AllBare s'.gens
  nolim : s'.heap.NoLimit
  keep : ∀ b o, s.heap.get? b = some o → s'.heap.get? b = some o
  sz : s.heap.objs.size ≤ s'.heap.objs.size
  fr : ∀ Aw : Around, Aw.handled = none → Aw.frames = some outer → GSt (gX P w K mg base N qual scope f cdv Aw outer s H) s.heap.objs.size ∧ Own (gX P w K mg base N qual scope f cdv Aw outer s H) (L2.start N vs) s'.heap ∧
    a ∉ own (gX P w K mg base N qual scope f cdv Aw outer s H)
theorem gen_call {P : Program} {w : World} {K : PySem.W.Frag} {mg : Str → Option Value} {base : Heap} {f : Addr} {name qual : Str} {params : Arguments} {body : List Stmt} {scope : Scope} {dV kV doc pm cdv ct oc : Value} {an od : Option Addr}
    {osl : Array (Option Value)} {N ps : List Str} (lk : K.lookup f = some ⟨oc, od, .func (PySem.W.fnOf name qual params body scope dV kV doc pm an cdv ct), osl⟩) (hcd : PySem.W.codeIn K cdv qual = true) (S : GScope N ps scope)
    {A : Around} {outer : List Env} {s : Shared} {H : Hp} {args : Args} {us : List Value} {vs : List V} (hdp : A.depth < recursionLimit) (e0 : Env0 P w K mg base A outer s H) (hb : BindsTo s (PySem.W.fnOf name qual params body scope dV kV doc pm an cdv ct) args (ps.zip us)) (r : Vals vs us) (hl : vs.length = ps.length) :
    codeAny (model P w) A (.call (.ref f) args) (fun r s' => match r with | .ok (.ret u) => ∃ a g, GNew P w K mg base N qual scope body f cdv outer s H vs u s' a g | _ => False) s := by
  have kin : K.In s.heap := e0.mod.kin.keeps fun b o z => (e0.bs b o z).1
  have nol : s.heap.NoLimit := e0.mod.nolimit.keeps fun b o z => (e0.bs b o z).1
  refine codeAny_call_generator hdp (kin _ _ lk) rfl S.co S.gen rfl (PySem.W.codeRec_of kin hcd) (hb _ _ _ _ ?_)
  refine wpAny_newFunctionEnv_cells S.kind (fun ⟨n, v⟩ hy => ?_) fun env he s1 x => ?_
  · exact (S.par n (List.of_mem_zip hy).1).imp id fun q => ⟨q, PySem.W.cellsFrom_some _ _ _ (.inl q)⟩
  subst he
  have nol1 : s1.heap.NoLimit := nol.keeps x.toInCall.keep
  refine ⟨nol1, ?_⟩
  obtain ⟨h1, tk, esq, hkq⟩ := x.done
  have oseq : s1.os = s.os := by rw [esq]
  have geq : s1.gens = s.gens := by rw [esq]
  have below : s.heap.objs.size < s1.heap.objs.size := x.toInCall.ns.lt
  have kpt : ∀ b o, s.heap.get? b = some o → s1.heap.get? b = some o := x.toInCall.keep
  have laid : ∀ (gob : Obj) (nm qn : Value) (tkn : Nat), gob.cls = .type "generator" → gob.data = .fields #[.int s1.gens.size 0, nm, qn] → gob.slots = #[] → (∀ h : Heap, (h.push gob).get? h.objs.size = some gob) →
      ∃ a g, GNew P w K mg base N qual scope body f cdv outer s H vs (.ref s1.heap.objs.size) { s1 with gens := s1.gens.push (.fresh (.func body (envOfC qual scope s.heap.objs.size f cdv))), toks := tkn, heap := s1.heap.push gob } a g := by
    intro gob nm qn tkn hgc hgd0 hgs hgp
    have kp2 : ∀ b o, s1.heap.get? b = some o → (s1.heap.push gob).get? b = some o := fun b o e => Heap.get?_push_of_some _ e
    refine ⟨s1.heap.objs.size, s1.gens.size, rfl, Nat.le_of_lt below, ⟨gob, nm, qn, hgp _, hgc, hgd0, hgs⟩, Array.getElem?_push_size .., oseq, ?_, nol1.keeps kp2, fun b o e => kp2 b o (kpt b o e), ?_, fun Aw hh hf => ?_⟩
    · exact AllBare.push (by rw [geq]; exact e0.bare) rfl
    · show _ ≤ (s1.heap.push gob).objs.size
      rw [Heap.size_push]
      exact Nat.le_succ_of_le (Nat.le_of_lt below)
    have e0w : Env0 P w K mg base Aw outer s H := ⟨hf, e0.mod, e0.bs, e0.bsz, e0.funs, e0.frf, e0.hok, e0.bare⟩
    have I1 : L2.Inv (gcxOf P w K mg base N qual scope f cdv Aw outer s H E0 []) [] (L2.start N vs) H s1 := inv_startG S hh e0w hl r x
    have O1 : Own (gX P w K mg base N qual scope f cdv Aw outer s H) (L2.start N vs) s1.heap := ⟨I1.loc, I1.cell, I1.len⟩
    refine ⟨⟨I1.ok.kind, rfl, rfl, I1.ok.inj, I1.ok.has, Nat.le_refl _, fun y c e => ?_, rfl, rfl, rfl, rfl, fun b hb => ?_, e0.bsz, hh, Around.frames_deeper hf⟩, O1.keep fun b _ o e => kp2 b o e, fun hm => ?_⟩
    · exact Nat.le_of_lt (x.above y c (PySem.mem_of_lookup e))
    · obtain ⟨_, o, e, _⟩ := e0.funs.mem hb
      exact Heap.lt_size e
    · rcases own_of hm with e | ⟨y, e⟩
      · exact absurd e (Nat.ne_of_gt below)
      · obtain ⟨v, o, e2, _⟩ := I1.cell y _ e
        exact absurd (Heap.lt_size e2) (Nat.lt_irrefl _)
  exact laid _ _ _ _ rfl rfl rfl fun h => Heap.get?_push_size _ rfl
end VG

set_option Elab.async false
set_option linter.all false
set_option maxRecDepth 100000
set_option maxHeartbeats 4000000
/-! the consumer: what sleeps is known, dropped, known again -/
namespace VG
open PySem PySem.Spec PyProof.Rows L2 GenW VL
open Classical in
noncomputable def drop (L : List Addr) (H : Hp) : Hp := fun b => if b ∈ L then none else H b
open Classical in
noncomputable def frzL (L : List Addr) (h : Heap) (H : Hp) : Hp := fun b => if b ∈ L then (h.get? b).map fz else H b
theorem drop_in {L : List Addr} {H : Hp} {b : Addr} (h : b ∈ L) : drop L H b = none := by unfold drop; rw [if_pos h]
theorem drop_out {L : List Addr} {H : Hp} {b : Addr} (h : b ∉ L) : drop L H b = H b := by unfold drop; rw [if_neg h]
/-- Hf is Ho, what stands at L is known -/
structure Fz (L : List Addr) (Ho Hf : Hp) : Prop where
  out : ∀ b, b ∉ L → Hf b = Ho b
  in_ : ∀ b ∈ L, ∃ o, Hf b = some (fz o)
def Frozen (L : List Addr) (H : Hp) : Prop := ∀ b ∈ L, ∃ o, H b = some (fz o)
theorem frzL_fz {L : List Addr} {h : Heap} {H : Hp} (hex : ∀ b ∈ L, ∃ o, h.get? b = some o) : Fz L H (frzL L h H) where
  out := fun b hb => by unfold frzL; rw [if_neg hb]
  in_ := fun b hb => by
    obtain ⟨o, e⟩ := hex b hb
    exact ⟨o, by unfold frzL; rw [if_pos hb, e]; rfl⟩
theorem drop_fz {L : List Addr} {Ho Hf : Hp} (h : Fz L Ho Hf) (hn : ∀ b ∈ L, Ho b = none) : drop L Hf = Ho := by
  funext b
  by_cases c : b ∈ L
  · rw [drop_in c, hn b c]
  · rw [drop_out c, h.out b c]
/-- L is younger than the consumer's run so far, and is not its own -/
structure Cons (X : Cx) (pins : List (Addr × Obj)) (L : List Addr) : Prop where
  loc : X.env.locals ∉ L
  fs : ∀ b ∈ L, b ∉ X.fs
  ge : ∀ b ∈ L, b ∈ X.ex ∨ X.s_0.heap.objs.size ≤ b
  cell : ∀ x c, X.env.cells.lookup x = some c → c ∉ L
  pin : ∀ p ∈ X.pn ++ pins, p.1 ∉ L
  tup : ∀ b ∈ L, ∀ xs, X.H_0 b ≠ some (.tup xs)
  frz : ∀ b ∈ L, ∀ o u, X.H_0 b ≠ some (.frz o u)
  tbl : ∀ b ∈ L, ∀ ps, X.H_0 b ≠ some (.tbl ps)
section
variable {X : Cx} {pins : List (Addr × Obj)} {L : List Addr} {σ : L2.St} {H : Hp} {s : Shared}
theorem cons_of (I : L2.Inv X pins σ H s) (h : ∀ b ∈ L, s.heap.objs.size ≤ b) : Cons X pins L := by
  have fp := fun b hb => I.fpOk (h b hb) (I.hok.fresh (h b hb))
  have no : ∀ b ∈ L, ∀ u, H b ≠ some u := fun b hb u e => by rw [I.hok.fresh (h b hb)] at e; cases e
  exact ⟨fun hm => (fp _ hm).2.1 rfl, fun b hb => (fp b hb).2.2.1, fun b hb => .inr (Nat.le_trans I.sz (h b hb)), fun x c e hm => (fp c hm).2.2.2.2.1 x c e rfl, fun p hp hm => (fp _ hm).2.2.2.2.2 p hp rfl,
    fun b hb xs e => no b hb _ (I.base.tups b xs e), fun b hb o u e => no b hb _ (I.base.frzs b o u e), fun b hb ps e => by
      obtain ⟨m, q⟩ := I.base.tbls b ps e
      exact no b hb _ q⟩
theorem Cons.ch (C : Cons X pins L) : ∀ b ∈ L, (b ∈ X.ex ∨ X.s_0.heap.objs.size ≤ b) ∧ b ≠ X.env.locals ∧ (∀ x c, X.env.cells.lookup x = some c → c ≠ b) ∧ ∀ p ∈ X.pn ++ pins, p.1 ≠ b :=
  fun b hb => ⟨C.ge b hb, fun e => C.loc (e ▸ hb), fun x c e z => C.cell x c e (z ▸ hb), fun p hp z => C.pin p hp (z ▸ hb)⟩
theorem inv_drop (C : Cons X pins L) (I : L2.Inv X pins σ H s) (hf : Frozen L H) : L2.Inv X pins σ (drop L H) s := by
  have keep : ∀ {b u}, H b = some u → (∀ o, u ≠ fz o) → drop L H b = some u := fun {b u} e d => by
    rw [drop_out, e]
    intro hm
    obtain ⟨o, q⟩ := hf b hm
    rw [e] at q
    exact d o (Option.some.inj q)
  have none_ : ∀ {b}, H b = none → drop L H b = none := fun {b} e => by
    by_cases c : b ∈ L
    · exact drop_in c
    · rw [drop_out c, e]
  refine ⟨I.ok, I.os, I.bare, ⟨I.base.keep, I.base.slot, fun b o g n hx => none_ (I.base.free b o g n hx), I.base.there, fun b xs e => ?_, fun b o u e => ?_, fun b ps e => ?_⟩, I.loc, I.cell, none_ I.free, fun x c e => none_ (I.freeC x c e), fun p hp => ?_, fun b u e => ?_, I.len⟩
  · rw [drop_out fun hm => C.tup b hm xs e]
    exact I.base.tups b xs e
  · rw [drop_out fun hm => C.frz b hm o u e]
    exact I.base.frzs b o u e
  · rw [drop_out fun hm => C.tbl b hm ps e]
    exact I.base.tbls b ps e
  · obtain ⟨h1, h2, h3⟩ := I.pin p hp
    exact ⟨h1, none_ h2, h3⟩
  · by_cases c : b ∈ L
    · rw [drop_in c] at e
      cases e
    · rw [drop_out c] at e
      exact (I.hok b u e).stay (fun _ _ _ q => q) (fun d q => keep q fun o z => by cases z) fun d xs q => keep q fun o z => by cases z
theorem inv_frz (C : Cons X pins L) (I : L2.Inv X pins σ H s) (hn : ∀ b ∈ L, H b = none) (hex : ∀ b ∈ L, ∃ o, s.heap.get? b = some o) : L2.Inv X pins σ (frzL L s.heap H) s := by
  have out : ∀ {b}, b ∉ L → frzL L s.heap H b = H b := fun {b} hb => by unfold frzL; rw [if_neg hb]
  have keep : ∀ {b u}, H b = some u → frzL L s.heap H b = some u := fun {b u} e => by
    rw [out, e]
    intro hm
    rw [hn b hm] at e
    cases e
  refine ⟨I.ok, I.os, I.bare, ⟨I.base.keep, I.base.slot, fun b o g n hx => ?_, I.base.there, fun b xs e => keep (I.base.tups b xs e), fun b o u e => keep (I.base.frzs b o u e), fun b ps e => ?_⟩, I.loc, I.cell, ?_, fun x c e => ?_, fun p hp => ?_, fun b u e => ?_, I.len⟩
  · rw [out fun hm => (C.ge b hm).elim hx fun z => absurd (Nat.lt_of_lt_of_le (Heap.lt_size g) z) (Nat.lt_irrefl _)]
    exact I.base.free b o g n hx
  · obtain ⟨m, q⟩ := I.base.tbls b ps e
    exact ⟨m, keep q⟩
  · rw [out C.loc]
    exact I.free
  · rw [out (C.cell x c e)]
    exact I.freeC x c e
  · obtain ⟨h1, h2, h3⟩ := I.pin p hp
    exact ⟨h1, by rw [out (C.pin p hp)]; exact h2, h3⟩
  · by_cases c : b ∈ L
    · obtain ⟨o, g⟩ := hex b c
      have q : frzL L s.heap H b = some (fz o) := by unfold frzL; rw [if_pos c, g]; rfl
      rw [q] at e
      cases e
      exact fz_ok g
    · rw [out c] at e
      exact (I.hok b u e).stay (fun _ _ _ q => q) (fun d q => keep q) fun d xs q => keep q
/-- the generators alone are others -/
theorem inv_gens {G : Array GenState} (I : L2.Inv X pins σ H s) (h : AllBare G) : L2.Inv X pins σ H (wg s G) := ⟨I.ok, I.os, h, I.base, I.loc, I.cell, I.free, I.freeC, I.pin, I.hok, I.len⟩
end
theorem bare_dead {G : Array GenState} (h : AllBare G) : AllBare (G.map dead) := fun y hy => by
  obtain ⟨z, hz, e⟩ := Array.mem_map.mp hy
  have q := h z hz
  rw [← e]
  cases z <;> exact q
theorem bare_sw {G B G' : Array GenState} (w : Sw (sleepers G) B G') (hG : AllBare G) (hB : AllBare B) : AllBare G' := fun y hy => by
  obtain ⟨i, hi, e⟩ := Array.mem_iff_getElem.mp hy
  have e' : G'[i]? = some y := by rw [Array.getElem?_eq_getElem hi, e]
  cases z : sleepers G i with
  | none => exact hB y (Array.mem_of_getElem? (by rw [w.eq i z]; exact e'))
  | some x =>
    have h2 := (w.at_ i x z).2.2
    rw [h2] at e'
    rw [← Option.some.inj e']
    exact hG x (Array.mem_of_getElem? (sleepers_at z).2)
end VG

set_option Elab.async false
set_option linter.all false
set_option maxRecDepth 100000
set_option maxHeartbeats 4000000
/-! next of a generator: what it leaves is asleep -/
namespace VG
open PySem PySem.Spec PyProof.Rows L2 GenW VL
section
variable {M : Model} {A : Around} {R : GenEnd} {Y : Protocol} {n g : Nat} {E : Value → Shared → Prop} {s : Shared} {gs : GenState}
/-- what may follow, told of the state that sleeps -/
def kapOf (M : Model) (A : Around) (R : GenEnd) (Y : Protocol) (n : Nat) (x : GenState) : Resume → Shared → Prop := fun r s' => match n with
  | 0 => False
  | m + 1 => x.Goes M A R Y m r s'
theorem wakes_on {α : Type} {r : Resume} {l : List Value} {k : GenResult → Sem α} {Q : α → Shared → Prop} (hg : s.gens[g]? = some gs) (hgo : gs.Goes M A R Y n r (s.setGen g .running))
    (hR : ∀ x s1, R n (s.setGen g .running) x s1 → wpAny M A (k (End.ret x).result) Q E (s1.setGen g .finished))
    (hY : ∀ v s1 x, Susp x → x.bare = true → Y (n - 1) (s.setGen g .running) v s1 (kapOf M A R Y n x) → wpAny M A (k (.yielded v)) Q E (s1.setGen g x)) :
    wpAny M A (.resume g r l k) Q E s := by
  intro Γ p hΓ
  rw [Sem.wp_resume]
  have wk := fun c => hΓ.wake c p
  have after : ∀ e1 s1, SegEnd R Y n (Seg.next M A R Y n) (s.setGen g .running) e1 s1 → e1.quiet = true ∧ Sem.wp M Γ (k e1.result) (fun a _ s' => Q a s') (fun e _ s' => E e s') p (s1.setGen g e1.genState) := by
    intro e1 s1 he
    cases e1 with
    | ret x => exact ⟨rfl, hR x s1 he Γ p hΓ⟩
    | susp v g0 l0 k0 c0 p0 fs0 =>
      refine ⟨he.1, hY v s1 (.suspended k0 l0 c0 p0 fs0 (g0 || fs0.any Frame.guarded)) True.intro (End.bare_of_quiet he.1) ?_ Γ p hΓ⟩
      cases n with
      | zero => exact he.2
      | succ m => exact he.2
  cases gs with
  | running => exact hgo.elim
  | finished => exact hgo.elim
  | fresh c =>
    obtain ⟨rfl, hs⟩ := hgo
    obtain ⟨e1, s1, run, he⟩ := seg_iff.mp hs (Γ.wake c p) p rfl (wk c)
    obtain ⟨q1, q2⟩ := after e1 s1 he
    refine ⟨_, _, ?_, q2⟩
    unfold PySem.Wakes
    rw [hg]
    exact ⟨e1, s1, run, q1, rfl, rfl⟩
  | suspended k0 l0 c0 p0 fs0 cl =>
    obtain ⟨e1, s1, run, he⟩ := seg_iff.mp hgo (Γ.wake c0 p) p0 rfl (wk c0)
    obtain ⟨q1, q2⟩ := after e1 s1 he
    refine ⟨_, _, ?_, q2⟩
    unfold PySem.Wakes
    rw [hg]
    exact ⟨e1, s1, run, q1, rfl, rfl⟩
end
section
variable {P : Program} {w : World} {A : Around} {E : Value → Shared → Prop} {s : Shared}
abbrev REnd0 (F : Nat → Shared → Shared → Prop) : GenEnd := fun n s₀ r s₁ => ((r = .ok (.ret .none) ∨ r = .ok .next) ∧ F n s₀ s₁) ∨ ∃ e, r = .error e ∧ False
theorem next_on {a : Addr} {g n : Nat} {gs : GenState} {F : Nat → Shared → Shared → Prop} {Y : Protocol} {Q : Option Value → Shared → Prop} (hh : A.handled = none)
    (hl : s.heap.NoLimit) (hd : A.depth < recursionLimit) (hg : s.heap.IsGen a g) (hgs : s.gens[g]? = some gs) (hgo : gs.Goes (model P w) A.in1 (REnd0 F) Y n (.send .none) (s.setGen g .running))
    (hY : ∀ v s1 x, Susp x → x.bare = true → Y (n - 1) (s.setGen g .running) v s1 (kapOf (model P w) A.in1 (REnd0 F) Y n x) → Q (some v) (s1.setGen g x))
    (hP : ∀ s1, F n (s.setGen g .running) s1 → ∀ h', (∀ b o, s1.heap.get? b = some o → h'.get? b = some o) → Q none { s1.setGen g .finished with heap := h' }) :
    wpAny (model P w) A (pyNext (.ref a)) Q E s := by
  unfold pyNext
  refine wpAny_bind (wpAny_attempt (wpAny_callSpecial?_slot (name := Str.ofString "__next__") hg.typeIs slot_gen_next (wpAny_call_entry slot_gen_next hg.typeIs entry_gen_next ?_ (args_gen_next _))))
  show wpAny _ A.in1 (Builtin.Generator.genWake (.ref a) (.send .none)) _ _ s
  unfold Builtin.Generator.genWake
  refine wpAny_bind (wpAny_holding (wpAny_genNumber hg (wpAny_bind (wpAny_genState hgs ?_))))
  cases gs with
  | running => exact hgo.elim
  | finished => exact hgo.elim
  | _ =>
    refine wpAny_bind (wpAny_roomToWake hl hd ?_)
    show wpAny _ A.in1 (.resume g (.send .none) [] _) _ _ s
    refine wakes_on hgs hgo (fun x s1 hx => ?_) (fun v s1 y hs hb hv => wpAny_pure ⟨v, rfl, wpAny_pure (hY v s1 y hs hb hv)⟩)
    obtain ⟨hr, hp⟩ := hx.resolve_right fun z => z.elim fun _ q => q.2
    have er : End.result (.ret x) = .returned .none := by
      rcases hr with hr | hr <;> rw [hr] <;> rfl
    first | rw [er] | simp only [er]
    show wpAny _ A.in1 (newExc (.type "StopIteration") [] >>= _) _ _ _
    refine wpAny_bind ?_
    simp only [newExc, newTuple]
    refine wpAny_bind (wpAny_newObj_type ?_ (by size_fits))
    refine wpAny_bind (m := firstArgMember _ _) (wpAny_of_eq (a := Value.none) (by first | rfl | (simp only [firstArgMember]; rfl)) ?_)
    refine wpAny_newObj_type ?_ (by size_fits)
    simp only [raiseNew]
    refine wpAny_bind (wpAny_bind (wpAny_handled ?_))
    first | rw [show A.in1.handled = none from hh] | rw [hh]
    refine wpAny_throw (wpAny_bind (wpAny_isInstance (T := "StopIteration") (b := true) ⟨_, Heap.get?_push_size _ rfl, rfl⟩ isSubtype_stop ?_))
    exact wpAny_pure (hP s1 hp _ fun b o z => Heap.get?_push_of_some _ (Heap.get?_push_of_some _ z))
end
end VG

set_option Elab.async false
set_option linter.all false
set_option maxRecDepth 100000
set_option maxHeartbeats 4000000
/-! for x in g(..): body, g a generator def of one's own -/
namespace VG
open PySem PySem.Spec PyProof.Rows L2 GenW VL
/-- the consumer's state at turn i: its names, its heap, the sleeper's names -/
structure JG (X G : Cx) (pins : List (Addr × Obj)) (L : List Addr) (Z : Nat → L2.St → Hp → Prop) (Pv : Nat → L2.St → L2.St → Hp → Prop) (i : Nat) (s : Shared) (t : L2.St × Hp × L2.St) : Prop where
  inv : L2.Inv X pins t.1 t.2.1 s
  fz : Frozen L t.2.1
  ow : Own G t.2.2 s.heap
  z : Z i t.2.2 (drop L t.2.1)
  pv : Pv i t.2.2 t.1 t.2.1
theorem JG.gens {X G : Cx} {pins : List (Addr × Obj)} {L : List Addr} {Z : Nat → L2.St → Hp → Prop} {Pv : Nat → L2.St → L2.St → Hp → Prop} {i : Nat} {s : Shared} {t : L2.St × Hp × L2.St} (h : JG X G pins L Z Pv i s t) {B : Array GenState} (hb : AllBare B) : JG X G pins L Z Pv i (wg s B) t :=
  ⟨inv_gens h.inv hb, h.fz, h.ow, h.z, h.pv⟩
open Classical in
noncomputable def ghost (X G : Cx) (pins : List (Addr × Obj)) (L : List Addr) (Z : Nat → L2.St → Hp → Prop) (Pv : Nat → L2.St → L2.St → Hp → Prop) (N : Nat) : Nat → Shared → Hp × L2.St := fun n s => if h : ∃ t, JG X G pins L Z Pv (N - n) s t then (drop L (Classical.choose h).2.1, (Classical.choose h).2.2) else (fun _ => none, [])
theorem ghost_at {X G : Cx} {pins : List (Addr × Obj)} {L : List Addr} {Z : Nat → L2.St → Hp → Prop} {Pv : Nat → L2.St → L2.St → Hp → Prop} {N n : Nat} {s : Shared} (h : ∃ t, JG X G pins L Z Pv (N - n) s t) : ∃ t, JG X G pins L Z Pv (N - n) s t ∧ ghost X G pins L Z Pv N n s = (drop L t.2.1, t.2.2) :=
  ⟨Classical.choose h, Classical.choose_spec h, by unfold ghost; rw [dif_pos h]⟩
/-- it sleeps at g and goes on so -/
def Alive (X G : Cx) (n0 : Nat) (pins : List (Addr × Obj)) (L : List Addr) (Z : Nat → L2.St → Hp → Prop) (Pv : Nat → L2.St → L2.St → Hp → Prop) (Yl : Nat → L2.St → Hp → V → L2.St → Hp → Prop) (En : Nat → L2.St → Hp → Hp → Prop) (N n : Nat) (gs : GenState) : Prop :=
  ∀ s', Wakes G n0 X.A.in1 (Z (N - n) (ghost X G pins L Z Pv N n s').2) (ghost X G pins L Z Pv N n s').1 s' → Own G (ghost X G pins L Z Pv N n s').2 s'.heap →
    gs.Goes (model X.prog X.w) X.A.in1 (RW G n0 N (ghost X G pins L Z Pv N) En) (YW G n0 N X.A.in1 (ghost X G pins L Z Pv N) Z Yl) n (.send .none) s'
section
variable {X : Cx} {pins : List (Addr × Obj)} {Nm : List Str} {qual : Str} {scope : Scope} {f : Addr} {cdv : Value} {sc : Shared} {Hsc : Hp} {Z : Nat → L2.St → Hp → Prop} {Pv : Nat → L2.St → L2.St → Hp → Prop} {Yl : Nat → L2.St → Hp → V → L2.St → Hp → Prop} {En : Nat → L2.St → Hp → Hp → Prop} {N : Nat}
abbrev GX (X : Cx) (Nm : List Str) (qual : Str) (scope : Scope) (f : Addr) (cdv : Value) (sc : Shared) (Hsc : Hp) : Cx := gX X.prog X.w X.K X.mg X.base Nm qual scope f cdv X.A.in1 X.stack sc Hsc
/-- one turn -/
theorem turn_gen {a g n i : Nat} {gs : GenState} {s : Shared} {Q : Option Value → Shared → Prop} {E : Value → Shared → Prop} (hh : X.A.handled = none) (hd : X.A.depth < recursionLimit)
    (C : Cons X pins (a :: own (GX X Nm qual scope f cdv sc Hsc))) (hao : a ∉ own (GX X Nm qual scope f cdv sc Hsc)) (hin : i + n = N) (hn1 : 1 ≤ n)
    (S : GSt (GX X Nm qual scope f cdv sc Hsc) sc.heap.objs.size)
    (J : ∃ t, JG X (GX X Nm qual scope f cdv sc Hsc) pins (a :: own (GX X Nm qual scope f cdv sc Hsc)) Z Pv i s t) (hg : s.heap.IsGen a g) (hgs : s.gens[g]? = some gs)
    (al : Alive X (GX X Nm qual scope f cdv sc Hsc) sc.heap.objs.size pins (a :: own (GX X Nm qual scope f cdv sc Hsc)) Z Pv Yl En N n gs)
    (hY : ∀ σ H σp x v Ho σg m s1 y, n = m + 1 → Pv i σp σ H → Frozen (a :: own (GX X Nm qual scope f cdv sc Hsc)) H → Yl i σp (drop (a :: own (GX X Nm qual scope f cdv sc Hsc)) H) x σg Ho → Z (i + 1) σg Ho → (∀ b ∈ a :: own (GX X Nm qual scope f cdv sc Hsc), Ho b = none) → RelV x v →
      L2.Inv X pins σ Ho s1 → (∀ b ∈ a :: own (GX X Nm qual scope f cdv sc Hsc), ∃ o, s1.heap.get? b = some o) → s1.heap.IsGen a g → Own (GX X Nm qual scope f cdv sc Hsc) σg s1.heap → s1.gens[g]? = some y → Susp y →
      Alive X (GX X Nm qual scope f cdv sc Hsc) sc.heap.objs.size pins (a :: own (GX X Nm qual scope f cdv sc Hsc)) Z Pv Yl En N m y → Q (some v) s1)
    (hP : ∀ σ H σp Ho s1, Pv i σp σ H → Frozen (a :: own (GX X Nm qual scope f cdv sc Hsc)) H → En i σp (drop (a :: own (GX X Nm qual scope f cdv sc Hsc)) H) Ho → (∀ b ∈ a :: own (GX X Nm qual scope f cdv sc Hsc), Ho b = none) → L2.Inv X pins σ Ho s1 → Q none s1) :
    wpAny (model X.prog X.w) X.A (pyNext (.ref a)) Q E s := by
  obtain ⟨t0, J0⟩ := J
  have hi : N - n = i := by omega
  have hgl : g < s.gens.size := (Array.getElem?_eq_some_iff.mp hgs).1
  have b0 : AllBare (s.setGen g .running).gens := allBare_setGen J0.inv.bare rfl
  obtain ⟨t, Jt, eg⟩ := ghost_at (N := N) (n := n) (s := s.setGen g .running) ⟨t0, by rw [hi]; exact J0.gens b0⟩
  rw [hi] at Jt
  have Id := inv_drop C Jt.inv Jt.fz
  have hown : ∀ b ∈ own (GX X Nm qual scope f cdv sc Hsc), drop (a :: own (GX X Nm qual scope f cdv sc Hsc)) t.2.1 b = none := fun b hb => drop_in (List.mem_cons_of_mem _ hb)
  have e0 := Id.env0
  have W : Wakes (GX X Nm qual scope f cdv sc Hsc) sc.heap.objs.size X.A.in1 (Z (N - n) (ghost X (GX X Nm qual scope f cdv sc Hsc) pins (a :: own (GX X Nm qual scope f cdv sc Hsc)) Z Pv N n (s.setGen g .running)).2) (ghost X (GX X Nm qual scope f cdv sc Hsc) pins (a :: own (GX X Nm qual scope f cdv sc Hsc)) Z Pv N n (s.setGen g .running)).1 (s.setGen g .running) := by
    rw [eg, hi]
    refine ⟨⟨e0.frames, e0.mod, e0.bs, e0.bsz, e0.funs, e0.frf, e0.hok, e0.bare⟩, ?_, hown, Jt.z⟩
    obtain ⟨m, hm, _⟩ := Jt.ow.loc
    exact Nat.le_of_lt (Nat.lt_of_le_of_lt S.above hm.lt)
  have left : ∀ {Ho s1}, Left (GX X Nm qual scope f cdv sc Hsc) sc.heap.objs.size (drop (a :: own (GX X Nm qual scope f cdv sc Hsc)) t.2.1) Ho (s.setGen g .running) s1 → L2.Inv X pins t.1 Ho s1 ∧ s1.heap.IsGen a g ∧ ∀ b ∈ a :: own (GX X Nm qual scope f cdv sc Hsc), Ho b = none := by
    intro Ho s1 lf
    have I1 : L2.Inv X pins t.1 Ho s1 := Id.call' lf.os lf.un lf.hok lf.bare fun b hb => C.ch b (List.mem_cons_of_mem _ hb)
    obtain ⟨o, nm, qn, ho, r⟩ := hg
    have ha : drop (a :: own (GX X Nm qual scope f cdv sc Hsc)) t.2.1 a = none := drop_in List.mem_cons_self
    have hfs : a ∉ frs X.stack := fun hm => by
      rcases List.mem_cons.mp (Id.stkSub a hm) with z | z
      · exact C.loc (z ▸ List.mem_cons_self)
      · exact C.fs a List.mem_cons_self z
    have hk : s1.heap.get? a = some o := lf.un.keep a o ho ha hfs hao
    refine ⟨I1, ⟨o, nm, qn, hk, r⟩, fun b hb => ?_⟩
    rcases List.mem_cons.mp hb with rfl | hb
    · exact lf.un.free b o ho ha hao
    · exact lf.own_ b hb
  refine wpAny_gsz (n := g + 1) hgl (next_on hh J0.inv.nolimit hd hg hgs (al _ W (by rw [eg]; exact Jt.ow)) (fun v s1 y hs hb hv hsz => ?_) fun s1 hF h' hk hsz => ?_)
  · obtain ⟨m, rfl⟩ : ∃ m, n = m + 1 := ⟨n - 1, by omega⟩
    obtain ⟨i', x, Ho, σ', e1, lf, sz1, rv, yl, ow, z, kp⟩ := hv
    have ei : i' = i := by
      have : i' + m + 1 = N := e1
      omega
    subst ei
    rw [show m + 1 - 1 + 1 = m + 1 from rfl, eg] at lf yl
    obtain ⟨I1, hg1, hn⟩ := left lf
    have hsz' : g + 1 ≤ s1.gens.size := by rw [setGen_size] at hsz; exact hsz
    refine hY t.1 t.2.1 t.2.2 x v Ho σ' m _ y rfl Jt.pv Jt.fz yl z hn rv (inv_gens I1 (allBare_setGen lf.bare hb)) (fun b hb' => ?_) hg1 ow (setGen_at hsz') hs fun s' W' O' => ?_
    · rcases List.mem_cons.mp hb' with rfl | hb'
      · obtain ⟨o, _, _, ho, _⟩ := hg1
        exact ⟨o, ho⟩
      · rcases own_of hb' with rfl | ⟨c, e⟩
        · obtain ⟨mm, ⟨o, _, _, ho, _⟩, _⟩ := ow.loc
          exact ⟨o, ho⟩
        · obtain ⟨_, o, ho, _⟩ := ow.cell c b e
          exact ⟨o, ho⟩
    · have em : N - m = i' + 1 := by omega
      rw [em] at W'
      exact kp s' W' O'
  · obtain ⟨i', Ho, e1, lf, en⟩ := hF
    have ei : i' = i := by omega
    subst ei
    rw [eg] at lf en
    obtain ⟨I1, hg1, hn⟩ := left lf
    exact hP t.1 t.2.1 t.2.2 Ho _ Jt.pv Jt.fz en hn (inv_gens (I1.kept (t' := s1.toks) hk) (allBare_setGen lf.bare rfl))
end
end VG

set_option Elab.async false
set_option linter.all false
set_option maxRecDepth 100000
set_option maxHeartbeats 4000000
namespace VG
open PySem PySem.Spec PyProof.Rows L2 GenW VL
/-- what a generator def promises: for its arguments and the heap, how many items at most, what holds while it sleeps, what it hands out, its end -/
abbrev SpW := List V → Hp → Nat → (Nat → L2.St → Hp → Prop) → (Nat → L2.St → Hp → V → L2.St → Hp → Prop) → (Nat → L2.St → Hp → Hp → Prop) → Prop
structure Wlk (P : Program) (w : World) (K : PySem.W.Frag) (mg : Str → Option Value) (base : Heap) (k : Nat) (x : Str) (sp : SpW) : Prop where
  ex : ∃ (f : Addr) (fd : FuncData) (qual : Str) (scope : Scope) (cdv : Value) (Nm ps : List Str) (pre st1 st2 : Stmt) (test e : Expr) (wp yp xp : Pos), mg x = some (.ref f) ∧ PySem.W.keepIn K (.ref f) = true ∧ Binds K fd ps [] ∧ scope.isCoroutine = false ∧ (∀ n, interactive (envOfC qual scope n f cdv) = false) ∧
    (∀ vs H N Z Yl En, sp vs H N Z Yl En → vs.length = ps.length ∧ (∀ H', Same H H' → Z 0 (L2.start Nm vs) H') ∧ (∀ i σp H x σg Ho, Yl i σp H x σg Ho → i < N) ∧
      ∀ (Aw : Around) (outer : List Env) (s : Shared), Room k (Aw.deeper (envOfC qual scope s.heap.objs.size f cdv)) → ∃ tpre t1 t2 tc te Head, Body (gX P w K mg base Nm qual scope f cdv Aw outer s H) (N + 1) Z Yl En pre st1 st2 test e tpre t1 t2 tc te Head) ∧
    ∀ (A : Around) (outer : List Env) (s : Shared) (H : Hp) (args : Args) (us : List Value) (vs : List V), A.depth < recursionLimit → Env0 P w K mg base A outer s H → BindsTo s fd args (ps.zip us) → Vals vs us → vs.length = ps.length →
      codeAny (model P w) A (.call (.ref f) args) (fun r s' => match r with | .ok (.ret u) => ∃ a g, GNew P w K mg base Nm qual scope [pre, .While test [st1, .Expr (.Yield (some e) yp) xp, st2] [] wp] f cdv outer s H vs u s' a g | _ => False) s
theorem wlk_of {P : Program} {w : World} {K : PySem.W.Frag} {mg : Str → Option Value} {base : Heap} {k : Nat} {x : Str} {st : Stmt} {ps Nm : List Str} {sp : SpW} {pre st1 st2 : Stmt} {test e : Expr} {wp yp xp : Pos} (D : DefE K mg x st ps) (S : GScope Nm ps (defScope st))
    (hb : defBody st = [pre, .While test [st1, .Expr (.Yield (some e) yp) xp, st2] [] wp]) (hint : ∀ (n : Nat) (f : Addr) (cdv : Value), interactive (envOfC x (defScope st) n f cdv) = false)
    (hbody : ∀ vs H N Z Yl En, sp vs H N Z Yl En → vs.length = ps.length ∧ (∀ H', Same H H' → Z 0 (L2.start Nm vs) H') ∧ (∀ i σp H x σg Ho, Yl i σp H x σg Ho → i < N) ∧
      ∀ (f : Addr) (cdv : Value) (Aw : Around) (outer : List Env) (s : Shared), Room k (Aw.deeper (envOfC x (defScope st) s.heap.objs.size f cdv)) → ∃ tpre t1 t2 tc te Head, Body (gX P w K mg base Nm x (defScope st) f cdv Aw outer s H) (N + 1) Z Yl En pre st1 st2 test e tpre t1 t2 tc te Head) :
    Wlk P w K mg base k x sp := by
  obtain ⟨f, fd, F, hm, bi⟩ := D
  have F0 := F
  obtain ⟨oc, od, kV, doc, pm, an, cdv, ct, osl, rfl, lk, hcd⟩ := F.ex
  refine ⟨f, _, x, defScope st, cdv, Nm, ps, pre, st1, st2, test, e, wp, yp, xp, hm, F0.kp, bi, S.co, fun n => hint n f cdv, fun vs H N Z Yl En h => ?_, fun A outer s H args us vs hd e0 hbi r hl => ?_⟩
  · obtain ⟨h1, h2, h3, h4⟩ := hbody vs H N Z Yl En h
    exact ⟨h1, h2, h3, fun Aw outer s => h4 f cdv Aw outer s⟩
  · have := gen_call lk hcd S (A := A) (outer := outer) (s := s) (H := H) (args := args) (us := us) (vs := vs) hd e0 hbi r hl
    rw [hb] at this
    exact this
def Nxt (L : List Addr) (Z : Nat → L2.St → Hp → Prop) (Pv : Nat → L2.St → L2.St → Hp → Prop) (i : Nat) (σg : L2.St) (Hf : Hp) : L2.St → Hp → Prop := fun σ' H' => (∀ b ∈ L, H' b = Hf b) ∧ Z (i + 1) σg (drop L H') ∧ Pv (i + 1) σg σ' H'
/-- L: the own addresses of what sleeps -/
def tForG (sp : SpW) (t : TA) (g : TG) (tb : TS) : TS := fun D σ H => t σ H fun vs H1 => ∃ N Z Yl En, sp vs H1 N Z Yl En ∧ ∀ L : List Addr, (∀ b ∈ L, H1 b = none) → ∃ Pv : Nat → L2.St → L2.St → Hp → Prop,
  (∀ Hf σp, Fz L H1 Hf → Pv 0 σp σ Hf) ∧
  (∀ i σp σ H x Ho Hf σg, Pv i σp σ H → Frozen L H → Yl i σp (drop L H) x σg Ho → Z (i + 1) σg Ho → Fz L Ho Hf → (∀ b ∈ L, Ho b = none) → g x σ Hf fun σ2 H2 => tb { D with nx := Nxt L Z Pv i σg Hf, ct := Nxt L Z Pv i σg Hf, bk := D.nx } σ2 H2) ∧
  ∀ i σp σ H Ho, Pv i σp σ H → Frozen L H → En i σp (drop L H) Ho → (∀ b ∈ L, Ho b = none) → D.nx σ Ho
section
variable {X : Cx} {pins : List (Addr × Obj)} {L : List Addr} {G : Cx}
/-- what is known stays -/
theorem own_frz {σg : L2.St} {h h' : Heap} {Ho H' : Hp} {P : Program} {w : World} (hL : ∀ b ∈ own G, b ∈ L) (O : Own G σg h) (k : HOk P w H' h') (e : ∀ b ∈ L, H' b = frzL L h Ho b) : Own G σg h' :=
  O.keep fun b hb o ho => by
    have q : H' b = some (fz o) := by
      rw [e b (hL b hb)]
      unfold frzL
      rw [if_pos (hL b hb), ho]
      rfl
    exact (k b _ q).1
theorem gen_frz {a g : Nat} {h h' : Heap} {Ho H' : Hp} {P : Program} {w : World} (ha : a ∈ L) (O : h.IsGen a g) (k : HOk P w H' h') (e : ∀ b ∈ L, H' b = frzL L h Ho b) : h'.IsGen a g := by
  obtain ⟨o, nm, qn, ho, r⟩ := O
  have q : H' a = some (fz o) := by
    rw [e a ha]
    unfold frzL
    rw [if_pos ha, ho]
    rfl
  exact ⟨o, nm, qn, (k a _ q).1, r⟩
end
/-- the call is made: what sleeps has not begun -/
structure Rdy (X : Cx) (pins : List (Addr × Obj)) (σ : L2.St) (N : Nat) (Z : Nat → L2.St → Hp → Prop) (Yl : Nat → L2.St → Hp → V → L2.St → Hp → Prop) (En : Nat → L2.St → Hp → Hp → Prop) (H1 : Hp) (s1 s2 : Shared) (Nm : List Str) (qual : Str) (scope : Scope) (f : Addr) (cdv : Value) (a gi : Nat) (cd : Code) (σ0 : L2.St) : Prop where
  inv : L2.Inv X pins σ H1 s2
  no : ∀ b ∈ a :: own (GX X Nm qual scope f cdv s1 H1), H1 b = none
  C : Cons X pins (a :: own (GX X Nm qual scope f cdv s1 H1))
  S : GSt (GX X Nm qual scope f cdv s1 H1) s1.heap.objs.size
  O : Own (GX X Nm qual scope f cdv s1 H1) σ0 s2.heap
  hao : a ∉ own (GX X Nm qual scope f cdv s1 H1)
  gen : s2.heap.IsGen a gi
  st : s2.gens[gi]? = some (.fresh cd)
  yl : ∀ i σp H x σg Ho, Yl i σp H x σg Ho → i < N
  z : ∀ H', Same H1 H' → Z 0 σ0 H'
  al : ∀ (Gh : Nat → Shared → Hp × L2.St) (s' : Shared), Wakes (GX X Nm qual scope f cdv s1 H1) s1.heap.objs.size X.A.in1 (Z 0 (Gh (N + 1) s').2) (Gh (N + 1) s').1 s' → Own (GX X Nm qual scope f cdv s1 H1) (Gh (N + 1) s').2 s'.heap →
    (GenState.fresh cd).Goes (model X.prog X.w) X.A.in1 (RW (GX X Nm qual scope f cdv s1 H1) s1.heap.objs.size (N + 1) Gh En) (YW (GX X Nm qual scope f cdv s1 H1) s1.heap.objs.size (N + 1) X.A.in1 Gh Z Yl) (N + 1) (.send .none) s'
theorem own_there {G : Cx} {σg : L2.St} {h : Heap} {a gi : Nat} (ow : Own G σg h) (ea : h.IsGen a gi) : ∀ b ∈ a :: own G, ∃ o, h.get? b = some o := fun b hb => by
  rcases List.mem_cons.mp hb with rfl | hb
  · obtain ⟨o, _, _, ho, _⟩ := ea
    exact ⟨o, ho⟩
  · rcases own_of hb with rfl | ⟨c, e⟩
    · obtain ⟨mm, ⟨o, _, _, ho, _⟩, _⟩ := ow.loc
      exact ⟨o, ho⟩
    · obtain ⟨_, o, ho, _⟩ := ow.cell c b e
      exact ⟨o, ho⟩
section
variable {X : Cx} {k j : Nat} {x : Str} {sp : SpW} {p pos pos' : Pos} {e : Expr} {es : List Expr} {t : TA} {tg : Expr} {body : List Stmt} {g : TG} {tb : TS}
/-- the call alone -/
theorem call_wlk (hh : X.A.handled = none) (c : Wlk X.prog X.w X.K X.mg X.base k x sp) (hr : Room j X.A) (hk : k + 2 ≤ j) (hg : Gl X x) (ha : PA X (e :: es) t) {Kc : Nat → (Nat → L2.St → Hp → Prop) → (Nat → L2.St → Hp → V → L2.St → Hp → Prop) → (Nat → L2.St → Hp → Hp → Prop) → Hp → Prop}
    (hdb : (x == ("__debug__" : Str)) = false) (he : starEach (e :: es) X.env = (false, eval e X.env) :: starEach es X.env) (hpl : (backTo pos (starEach es X.env)).any (·.1) = false) {pins : List (Addr × Obj)} {s : Shared} {σ : L2.St} {H : Hp}
    (I : L2.Inv X pins σ H s) (h : t σ H fun vs H1 => ∃ N Z Yl En, sp vs H1 N Z Yl En ∧ Kc N Z Yl En H1) :
    wpAny (model X.prog X.w) X.A (eval (.Call (.Name x p) (e :: es) [] pos) X.env) (fun u s2 => ∃ N Z Yl En H1 s1 Nm qual scope f cdv a gi cd σ0, u = .ref a ∧ Rdy X pins σ N Z Yl En H1 s1 s2 Nm qual scope f cdv a gi cd σ0 ∧ Kc N Z Yl En H1) X.xe s := by
  obtain ⟨f, fd, qual, scope, cdv, Nm, ps, pre, st1, st2, test, ye, wp, yp, xp, hm, kp, bi, hco, hint, hsp, hcall⟩ := c.ex
  have hdp : X.A.depth < recursionLimit := by have := hr.dp; omega
  refine wpAny_Call_Name_kw (ld_glob I hg hm ?_ hdb)
  refine PySem.W.callWith_K (h₀ := X.base) I.ok.mod.kin kp (thn (ha.run pos pins s σ H _ I h) fun us s1 ⟨vs, H1, I1, r, q⟩ => ⟨I1.kIn, ?_⟩) he hpl
  obtain ⟨N, Z, Yl, En, hspec, hL⟩ := q
  obtain ⟨hl, hz0, hyl, hbody⟩ := hsp vs H1 N Z Yl En hspec
  have hlu : us.length = ps.length := by rw [← r.length]; exact hl
  have bb := bi s1 us I1.kIn (by rw [List.append_nil]; exact hlu)
  rw [List.append_nil] at bb
  refine wpAny_call (codeAny_mono (hcall X.A X.stack s1 H1 ⟨us, []⟩ us vs hdp I1.env0 bb r hl) fun rr s2 hq => ?_)
  cases rr with
  | error z => exact hq.elim
  | ok fl =>
    cases fl with
    | next => exact hq.elim
    | brk => exact hq.elim
    | cont => exact hq.elim
    | ret u =>
      obtain ⟨a, gi, gn⟩ := hq
      cases gn.val
      obtain ⟨S, O, hao⟩ := gn.fr X.A.in1 hh I1.env0.frames
      have hLge : ∀ b ∈ a :: own (GX X Nm qual scope f cdv s1 H1), s1.heap.objs.size ≤ b := fun b hb' => by
        rcases List.mem_cons.mp hb' with rfl | hb'
        · exact gn.ge
        · exact S.own_ge hb'
      have rm : Room k (X.A.in1.deeper (envOfC qual scope s1.heap.objs.size f cdv)) := ((hr.mono hk).in1).deeper _
      obtain ⟨tpre, t1, t2, tc, te, Head, B⟩ := hbody X.A.in1 X.stack s1 rm
      exact ⟨N, Z, Yl, En, H1, s1, Nm, qual, scope, f, cdv, a, gi, _, _, rfl, ⟨I1.call' (ch := []) gn.os (Un.kept gn.keep) (I1.hok.kept gn.keep) gn.bare fun b z => by simp at z, fun b hb' => I1.hok.fresh (hLge b hb'), cons_of I1 hLge, S, O, hao, gn.gen, gn.st, hyl, hz0,
        fun Gh s' W' O' => ⟨rfl, seg_walk S rfl rfl hco (hint _) B s' W' O'⟩⟩, hL⟩
theorem ps_forG (hxe : X.xe = fun _ _ => False) (hh : X.A.handled = none) (c : Wlk X.prog X.w X.K X.mg X.base k x sp) (hr : Room j X.A) (hk : k + 2 ≤ j) (hg : Gl X x) (ha : PA X (e :: es) t) (hpg : PG X tg g) (hb : PSs X body tb)
    (hdb : (x == ("__debug__" : Str)) = false := by decide) (he : starEach (e :: es) X.env = (false, eval e X.env) :: starEach es X.env := by rfl) (hpl : (backTo pos (starEach es X.env)).any (·.1) = false := by rfl)
    (hs : ∀ v, foldedSetIterable (.Call (.Name x p) (e :: es) [] pos) X.env v = pure v := by intro _; rfl) :
    PS X (.For tg (.Call (.Name x p) (e :: es) [] pos) body [] pos') (tForG sp t g tb) := by
  have nox : ∀ {u s'}, X.xe u s' → False := fun {u s'} h => by rw [hxe] at h; exact h
  refine ⟨fun pins s σ H D I h => ?_⟩
  have hdp : X.A.depth < recursionLimit := by have := hr.dp; omega
  refine wpAny_For (thn (call_wlk hh c hr hk hg ha hdb he hpl I h) fun u s2 hq => ?_) hs
  obtain ⟨N, Z, Yl, En, H1, s1, Nm, qual, scope, f, cdv, a, gi, cd, σ0, rfl, R, hL⟩ := hq
  refine wpAny_pyIter_gen R.gen ?_
  obtain ⟨Pv, hP0, hPt, hPe⟩ := hL (a :: own (GX X Nm qual scope f cdv s1 H1)) R.no
  have hx2 := own_there R.O R.gen
  have fz0 := frzL_fz (H := H1) hx2
  have J0 : JG X (GX X Nm qual scope f cdv s1 H1) pins (a :: own (GX X Nm qual scope f cdv s1 H1)) Z Pv 0 s2 (σ, frzL (a :: own (GX X Nm qual scope f cdv s1 H1)) s2.heap H1, σ0) :=
    ⟨inv_frz R.C R.inv R.no hx2, fz0.in_, R.O, by rw [show drop _ (σ, frzL (a :: own (GX X Nm qual scope f cdv s1 H1)) s2.heap H1, σ0).2.1 = H1 from drop_fz fz0 R.no]; exact R.z H1 fun _ _ e => e, hP0 _ _ fz0⟩
  have al0 : Alive X (GX X Nm qual scope f cdv s1 H1) s1.heap.objs.size pins (a :: own (GX X Nm qual scope f cdv s1 H1)) Z Pv Yl En (N + 1) (N + 1) (.fresh cd) := fun s' W' O' => by
    rw [Nat.sub_self] at W'
    exact R.al _ s' W' O'
  refine codeAny_forLoop_any (fun m s' => ∃ i, i ≤ N ∧ m = N + 1 - i ∧ (∃ t, JG X (GX X Nm qual scope f cdv s1 H1) pins (a :: own (GX X Nm qual scope f cdv s1 H1)) Z Pv i s' t) ∧ s'.heap.IsGen a gi ∧ ∃ gs, s'.gens[gi]? = some gs ∧
    Alive X (GX X Nm qual scope f cdv s1 H1) s1.heap.objs.size pins (a :: own (GX X Nm qual scope f cdv s1 H1)) Z Pv Yl En (N + 1) (N + 1 - i) gs) ?_ (N + 1) ⟨0, Nat.zero_le _, rfl, ⟨_, J0⟩, R.gen, _, R.st, al0⟩
  rintro m s3 ⟨i, hi, rfl, J, hg3, gs, hgs, al⟩
  refine turn_gen hh hdp R.C R.hao (by omega) (by omega) R.S J hg3 hgs al (fun σ3 H3 σp xv v Ho σg m s4 y hm3 pv fz3 yl z hn4 rv I4 hx4 hg4 ow4 hgs4 hsy al4 => ?_) fun σ3 H3 σp Ho s4 pv fz3 en hn4 I4 => ?_
  · obtain ⟨go_, nm, qn, ho, hc, hdt, _⟩ := hg4
    refine go_of ho hc hdt (by decide) ?_
    have hg4 : s4.heap.IsGen a gi := ⟨go_, nm, qn, ho, hc, hdt, by assumption⟩
    have fz4 := frzL_fz (H := Ho) hx4
    have If := inv_frz R.C I4 hn4 hx4
    have w0 := sw_dead s4.gens
    have i_lt := R.yl _ _ _ _ _ _ yl
    refine wpAny_mono (wpAny_sw w0 (hpg.run pins (wg s4 (s4.gens.map dead)) σ3 _ xv v _ (inv_gens If (bare_dead If.bare)) rv (hPt i σp σ3 H3 xv Ho _ σg pv fz3 yl z fz4 hn4))) (fun _ s5 hq5 => ?_) fun z5 s5 hq5 => ?_
    · obtain ⟨B5, w5, σ5, H5, I5, q5⟩ := hq5
      refine wpAny_mono (wpAny_sw w5 (hb.run pins (wg s5 B5) σ5 H5 _ I5 q5)) (fun fl s6 hq6 => ?_) fun z6 s6 hq6 => ?_
      · obtain ⟨B6, w6, hq6⟩ := hq6
        have back : ∀ {σ6 H6}, L2.Inv X pins σ6 H6 (wg s6 B6) → L2.Inv X pins σ6 H6 s6 := fun {σ6 H6} I6 => inv_gens (s := wg s6 B6) (G := s6.gens) I6 (bare_sw w6 If.bare I6.bare)
        have again : ∀ {σ6 H6}, L2.Inv X pins σ6 H6 (wg s6 B6) → Nxt (a :: own (GX X Nm qual scope f cdv s1 H1)) Z Pv i σg (frzL (a :: own (GX X Nm qual scope f cdv s1 H1)) s4.heap Ho) σ6 H6 →
            ∃ m', m' < N + 1 - i ∧ ∃ i, i ≤ N ∧ m' = N + 1 - i ∧ (∃ t, JG X (GX X Nm qual scope f cdv s1 H1) pins (a :: own (GX X Nm qual scope f cdv s1 H1)) Z Pv i s6 t) ∧ s6.heap.IsGen a gi ∧ ∃ gs, s6.gens[gi]? = some gs ∧
              Alive X (GX X Nm qual scope f cdv s1 H1) s1.heap.objs.size pins (a :: own (GX X Nm qual scope f cdv s1 H1)) Z Pv Yl En (N + 1) (N + 1 - i) gs := fun {σ6 H6} I6 q6 => by
          obtain ⟨k1, k2, k3⟩ := q6
          have I7 := back I6
          refine ⟨N + 1 - (i + 1), by omega, i + 1, i_lt, rfl, ⟨(σ6, H6, σg), I7, fun b hb' => ?_, own_frz (fun b hb' => List.mem_cons_of_mem _ hb') ow4 I7.hok k1, k2, k3⟩, gen_frz List.mem_cons_self hg4 I7.hok k1, y, w6.stays hgs4 hsy, ?_⟩
          · show ∃ o, H6 b = _
            rw [k1 b hb']
            exact fz4.in_ b hb'
          · have em : m = N + 1 - (i + 1) := by omega
            rw [← em]
            exact al4
        cases fl with
        | next => obtain ⟨σ6, H6, I6, q6⟩ := hq6; exact again I6 q6
        | cont => obtain ⟨σ6, H6, I6, q6⟩ := hq6; exact again I6 q6
        | brk => obtain ⟨σ6, H6, I6, q6⟩ := hq6; exact ⟨σ6, H6, back I6, q6⟩
        | ret v6 => obtain ⟨x6, σ6, H6, I6, r6, q6⟩ := hq6; exact ⟨x6, σ6, H6, back I6, r6, q6⟩
      · obtain ⟨_, _, h6⟩ := hq6
        exact (nox h6).elim
    · obtain ⟨_, _, h5⟩ := hq5
      exact (nox h5).elim
  · refine wpAny_execs_nil ?_
    exact ⟨σ3, Ho, I4, hPe i σp σ3 H3 Ho pv fz3 en hn4⟩
end
end VG

set_option Elab.async false
set_option linter.all false
set_option maxRecDepth 100000
set_option maxHeartbeats 4000000
/-! [elt for target in g(..) if ..], g a generator def of one's own -/
namespace VG
open PySem PySem.Spec PyProof.Rows L2 GenW VL
def NxL (L : List Addr) (Z : Nat → L2.St → Hp → Prop) (Pv : Nat → L2.St → Hp → Prop) (i : Nat) (σg : L2.St) (Hf : Hp) : Hp → Prop := fun H' => (∀ b ∈ L, H' b = Hf b) ∧ Z (i + 1) σg (drop L H') ∧ Pv (i + 1) σg H'
/-- L: the own addresses of what sleeps; D: the new list -/
def tLcG (sp : SpW) (t : TA) (g : TG) (tt : TT) (te : TE) (vs : List Nat) : TE := fun σ H Q => t σ H fun ws H1 => ∃ N Z Yl En, sp ws H1 N Z Yl En ∧ ∀ L D, (∀ b ∈ L, H1 b = none) → H1 D = none → D ∉ L → ∃ Pv : Nat → L2.St → Hp → Prop,
  (∀ Hf σp, Fz L (upd H1 D (.lst [])) Hf → Pv 0 σp Hf) ∧
  (∀ i σp H x Ho Hf σg, Pv i σp H → Frozen L H → Yl i σp (drop L H) x σg Ho → Z (i + 1) σg Ho → Fz L Ho Hf → (∀ b ∈ L, Ho b = none) → g x (wipe σ vs) Hf fun σ2 H2 => wipe σ2 vs = wipe σ vs ∧ tt σ2 H2 fun b H3 => if b = true then
    te σ2 H3 fun y H4 => ∃ acc, H4 D = some (.lst acc) ∧ acc.length < sizeLine ∧ NxL L Z Pv i σg Hf (upd H4 D (.lst (acc ++ [y]))) else NxL L Z Pv i σg Hf H3) ∧
  ∀ i σp H Ho, Pv i σp H → Frozen L H → En i σp (drop L H) Ho → (∀ b ∈ L, Ho b = none) → Q (.ref D) Ho
section
variable {X : Cx} {k j : Nat} {x : Str} {sp : SpW} {p cp : Pos} {e : Expr} {es : List Expr} {t : TA}
theorem lc_walk {pins : List (Addr × Obj)} {s : Shared} {σ : L2.St} {H : Hp} {Q : VK} {elt tg : Expr} {ifs : List Expr} {scope : Scope} {own_ : List (Str × Nat)} {pos pos' : Pos} {g : TG} {tt : TT} {te : TE} {use : Option (Value → Sem Unit)} {Qf : Value → Shared → Prop}
    (hh : X.A.handled = none) (hN : X.N.Nodup) (I : L2.Inv X pins σ H s) (c : Wlk X.prog X.w X.K X.mg X.base k x sp) (hr : Room j X.A) (hk : k + 2 ≤ j) (hg : Gl X x) (ha : PA X (e :: es) t)
    (hdb : (x == ("__debug__" : Str)) = false) (he : starEach (e :: es) X.env = (false, eval e X.env) :: starEach es X.env) (hpl : (backTo cp (starEach es X.env)).any (·.1) = false) (ok : BlkOk X.N X.env.scope scope own_)
    (pg : ∀ (s : Shared) (H : Hp) (C : Addr) (cl : List (Str × Addr)) (fp : List Addr), PG (X.blk s H scope (compEnvC scope cl C X.env) fp) tg g) (pt : ∀ (s : Shared) (H : Hp) (C : Addr) (cl : List (Str × Addr)) (fp : List Addr), PTs (X.blk s H scope (compEnvC scope cl C X.env) fp) ifs tt)
    (pe : ∀ (s : Shared) (H : Hp) (C : Addr) (cl : List (Str × Addr)) (fp : List Addr), PE (X.blk s H scope (compEnvC scope cl C X.env) fp) elt te) (hs : ∀ v, foldedSetIterable (.Call (.Name x p) (e :: es) [] cp) X.env v = pure v)
    (h : tLcG sp t g tt te (own_.map (·.2)) σ H Q)
    (hRR : ∀ D C s' m H', L2.Inv X pins σ H' s' → Q (.ref D) H' → s'.heap.Ns C m → FpOk X pins H' C → compPost (model X.prog X.w) X.A X.xe use Qf (.ref D) C (.ok .next) s') :
    wpAny (model X.prog X.w) X.A (comprehension (.ListComp elt [⟨tg, .Call (.Name x p) (e :: es) [] cp, ifs, 0⟩] scope pos) scope X.env pos' (newList []) false (eval (.Call (.Name x p) (e :: es) [] cp) X.env) use) Qf X.xe s := by
  have hfree : ∀ y ∈ scope.names, y.2 = .free → ∃ c, X.env.cells.lookup y.1 = some c := fun y hy q => (ok.free y hy q).elim (fun z => I.ok.has _ (.inl z)) fun z => I.ok.has _ (.inr z)
  refine wpAny_comprehension_free (use := use) rfl hs (closure_ok hfree) ok.kind (fun y hy q => by rw [ok.uniq y hy, q]) (thn (call_wlk hh c hr hk hg ha hdb he hpl I h) fun u s2 hq => ?_)
  obtain ⟨N, Z, Yl, En, H1, s1, Nm, qual, scg, f, cdv, a, gi, cd, σ0, rfl, R, hL⟩ := hq
  have hdp : X.A.depth < recursionLimit := by have := hr.dp; omega
  refine wpAny_pyIter_gen R.gen ?_
  refine wpAny_newObj_type (newEnv_comp ?_) (by show 0 ≤ sizeLine; decide)
  generalize hD : s2.heap.objs.size = D
  have hDn : H1 D = none := R.inv.hok.fresh (Nat.le_of_eq hD)
  have hx2 := own_there R.O R.gen
  have hDL : D ∉ a :: own (GX X Nm qual scg f cdv s1 H1) := fun hm => by
    obtain ⟨o, eo⟩ := hx2 D hm
    have := Heap.lt_size eo
    rw [hD] at this
    exact absurd this (Nat.lt_irrefl _)
  obtain ⟨Pv, hP0, hPt, hPe⟩ := hL (a :: own (GX X Nm qual scg f cdv s1 H1)) D R.no hDn hDL
  generalize hs3 : ({ s2 with heap := s2.heap.push { cls := .type "list", data := .seq ([] : List Value).toArray } } : Shared) = s3
  have k23 : ∀ b o, s2.heap.get? b = some o → s3.heap.get? b = some o := fun b o q => by rw [← hs3]; exact Heap.get?_push_of_some _ q
  have I3 : L2.Inv X pins σ (upd H1 D (.lst [])) s3 := by
    rw [← hs3]
    refine R.inv.laid (t' := s2.toks) (fun b o q => Heap.get?_push_of_some _ q) (Nat.le_of_eq hD) ⟨Nat.zero_le _, [], 0, .nil, ?_⟩
    rw [← hD]
    exact Heap.get?_push_size _ rfl
  have no3 : ∀ b ∈ a :: own (GX X Nm qual scg f cdv s1 H1), upd H1 D (.lst []) b = none := fun b hb => by
    have nb : b ≠ D := fun z => hDL (by rw [← z]; exact hb)
    rw [upd_ne nb]
    exact R.no b hb
  have f3 : ∀ b ∈ a :: own (GX X Nm qual scg f cdv s1 H1), FpOk X pins (upd H1 D (.lst [])) b ∧ b < s3.heap.objs.size := fun b hb => by
    obtain ⟨o, eo⟩ := hx2 b hb
    obtain ⟨c1, c2, c3, c4⟩ := R.C.ch b hb
    exact ⟨⟨no3 b hb, c2, R.C.fs b hb, c1, c3, c4⟩, Heap.lt_size (k23 b o eo)⟩
  have I4 := block_start I3 ok hN f3
  have pg' := pg s3 (upd H1 D (.lst [])) s3.heap.objs.size (cellsFrom (s3.heap.objs.size + 1) scope.names (cloFrom X.env.cells scope.names [])) (a :: own (GX X Nm qual scg f cdv s1 H1))
  have pt' := pt s3 (upd H1 D (.lst [])) s3.heap.objs.size (cellsFrom (s3.heap.objs.size + 1) scope.names (cloFrom X.env.cells scope.names [])) (a :: own (GX X Nm qual scg f cdv s1 H1))
  have pe' := pe s3 (upd H1 D (.lst [])) s3.heap.objs.size (cellsFrom (s3.heap.objs.size + 1) scope.names (cloFrom X.env.cells scope.names [])) (a :: own (GX X Nm qual scg f cdv s1 H1))
  show codeAny _ _ (.compStart (.ListComp elt [⟨tg, .Call (.Name x p) (e :: es) [] cp, ifs, 0⟩] scope pos) 0 (.ref a) (.ref D) (compEnvC scope (cellsFrom (s3.heap.objs.size + 1) scope.names (cloFrom X.env.cells scope.names [])) s3.heap.objs.size X.env)) (compPost (model X.prog X.w) X.A X.xe use Qf (.ref D) s3.heap.objs.size) { s3 with heap := pushCells (s3.heap.push { cls := .type "dict", data := .dict #[] }) scope.names }
  generalize hce : compEnvC scope (cellsFrom (s3.heap.objs.size + 1) scope.names (cloFrom X.env.cells scope.names [])) s3.heap.objs.size X.env = ce at I4 pg' pt' pe' ⊢
  have cL : ce.locals = s3.heap.objs.size := by subst hce; rfl
  generalize hH3 : upd H1 D (.lst []) = H3 at I3 I4 pg' pt' pe' no3 f3 hP0
  have z3 : Same H1 H3 := fun b o q => by rw [← hH3, upd_ne (ne_of_none q hDn)]; exact q
  generalize hs4 : ({ s3 with heap := pushCells (s3.heap.push { cls := .type "dict", data := .dict #[] }) scope.names } : Shared) = s4 at I4 ⊢
  have k34 : ∀ b o, s3.heap.get? b = some o → s4.heap.get? b = some o := fun b o q => by rw [← hs4]; exact pushCells_keeps _ _ _ _ (Heap.get?_push_of_some _ q)
  have g4 : s4.gens = s2.gens := by rw [← hs4, ← hs3]
  have Cb : Cons (X.blk s3 H3 scope ce (a :: own (GX X Nm qual scg f cdv s1 H1))) [] (a :: own (GX X Nm qual scg f cdv s1 H1)) :=
    ⟨fun hm => (I4.ok.exf _ hm).1 rfl, fun b hb => I4.ok.exfs b hb, fun b hb => .inl hb, fun y cc q hm => (I4.ok.exf cc hm).2 y cc q rfl, fun pp hp => absurd (show pp ∈ ([] : List (Addr × Obj)) ++ [] from hp) (by simp),
      fun b hb xs q => (by have z := (no3 b hb).symm.trans q; cases z), fun b hb o u q => (by have z := (no3 b hb).symm.trans q; cases z), fun b hb ps q => by have z := (no3 b hb).symm.trans q; cases z⟩
  have gen4 : s4.heap.IsGen a gi := R.gen.keeps fun b o q => k34 b o (k23 b o q)
  have O4 : Own (GX X Nm qual scg f cdv s1 H1) σ0 s4.heap := R.O.keep fun b _ o q => k34 b o (k23 b o q)
  have hx4 := own_there O4 gen4
  have fz0 := frzL_fz (H := H3) hx4
  have J0 : JG (X.blk s3 H3 scope ce (a :: own (GX X Nm qual scg f cdv s1 H1))) (GX X Nm qual scg f cdv s1 H1) [] (a :: own (GX X Nm qual scg f cdv s1 H1)) Z (fun i σp σ' H' => σ' = wipe σ (own_.map (·.2)) ∧ Pv i σp H') 0 s4 (wipe σ (own_.map (·.2)), frzL (a :: own (GX X Nm qual scg f cdv s1 H1)) s4.heap H3, σ0) :=
    ⟨inv_frz Cb I4 no3 hx4, fz0.in_, O4, by rw [show drop _ (wipe σ (own_.map (·.2)), frzL (a :: own (GX X Nm qual scg f cdv s1 H1)) s4.heap H3, σ0).2.1 = H3 from drop_fz fz0 no3]; exact R.z H3 z3, rfl, hP0 _ _ fz0⟩
  have al0 : Alive (X.blk s3 H3 scope ce (a :: own (GX X Nm qual scg f cdv s1 H1))) (GX X Nm qual scg f cdv s1 H1) s1.heap.objs.size [] (a :: own (GX X Nm qual scg f cdv s1 H1)) Z (fun i σp σ' H' => σ' = wipe σ (own_.map (·.2)) ∧ Pv i σp H') Yl En (N + 1) (N + 1) (.fresh cd) := fun s' W' O' => by
    rw [Nat.sub_self] at W'
    exact R.al _ s' W' O'
  have loop : codeAny (model X.prog X.w) X.A (.compLoop (.ListComp elt [⟨tg, .Call (.Name x p) (e :: es) [] cp, ifs, 0⟩] scope pos) 0 (.ref a) (.ref D) ce) (compPost (model X.prog X.w) X.A X.xe use Qf (.ref D) s3.heap.objs.size) s4 := by
    refine compLoop_any (fun m s' => ∃ i, i ≤ N ∧ m = N + 1 - i ∧ (∃ t, JG (X.blk s3 H3 scope ce (a :: own (GX X Nm qual scg f cdv s1 H1))) (GX X Nm qual scg f cdv s1 H1) [] (a :: own (GX X Nm qual scg f cdv s1 H1)) Z (fun i σp σ' H' => σ' = wipe σ (own_.map (·.2)) ∧ Pv i σp H') i s' t) ∧ s'.heap.IsGen a gi ∧ ∃ gs, s'.gens[gi]? = some gs ∧
      Alive (X.blk s3 H3 scope ce (a :: own (GX X Nm qual scg f cdv s1 H1))) (GX X Nm qual scg f cdv s1 H1) s1.heap.objs.size [] (a :: own (GX X Nm qual scg f cdv s1 H1)) Z (fun i σp σ' H' => σ' = wipe σ (own_.map (·.2)) ∧ Pv i σp H') Yl En (N + 1) (N + 1 - i) gs) ?_ (N + 1) ⟨0, Nat.zero_le _, rfl, ⟨_, J0⟩, gen4, _, by rw [g4]; exact R.st, al0⟩
    rintro m s5 ⟨i, hi, rfl, J, hg5, gs, hgs, al⟩
    refine turn_gen (X := X.blk s3 H3 scope ce (a :: own (GX X Nm qual scg f cdv s1 H1))) hh hdp Cb R.hao (by omega) (by omega) R.S J hg5 hgs al (fun σ6 H6 σp xv v Ho σg m s6 y hm6 pv fz6 yl z hn6 rv I6 hx6 hg6 ow6 hgs6 hsy al6 => ?_) fun σ6 H6 σp Ho s6 pv fz6 en hn6 I6 => ?_
    · obtain ⟨es6, pv⟩ := pv
      obtain ⟨go_, nm, qn, ho, hc, hdt, hsl⟩ := hg6
      refine go_of ho hc hdt (by decide) ?_
      have hg6 : s6.heap.IsGen a gi := ⟨go_, nm, qn, ho, hc, hdt, hsl⟩
      have fz4 := frzL_fz (H := Ho) hx6
      have If := inv_frz Cb I6 hn6 hx6
      have i_lt := R.yl _ _ _ _ _ _ yl
      rw [es6] at If
      have stp := hPt i σp H6 xv Ho _ σg pv fz6 yl z fz4 hn6
      refine wpAny_mono (wpAny_sw (sw_dead s6.gens) (pg'.run [] (wg s6 (s6.gens.map dead)) _ _ xv v _ (inv_gens If (bare_dead If.bare)) rv stp)) (fun _ s7 hq7 => ?_) fun z7 s7 hq7 => (hq7.elim fun _ q => q.2.elim)
      obtain ⟨B7, w7, σ7, H7, I7, hw7, q7⟩ := hq7
      refine wpAny_mono (wpAny_sw w7 (pt'.run [] (wg s7 B7) σ7 H7 _ I7 q7)) (fun b s8 hq8 => ?_) fun z8 s8 hq8 => (hq8.elim fun _ q => q.2.elim)
      obtain ⟨B8, w8, H8, I8, q8⟩ := hq8
      -- the turn's end
      have fin : ∀ {s' : Shared} {B : Array GenState} {H' : Hp}, Sw (sleepers s6.gens) B s'.gens → L2.Inv (X.blk s3 H3 scope ce (a :: own (GX X Nm qual scg f cdv s1 H1))) [] σ7 H' (wg s' B) → NxL (a :: own (GX X Nm qual scg f cdv s1 H1)) Z Pv i σg (frzL (a :: own (GX X Nm qual scg f cdv s1 H1)) s6.heap Ho) H' →
          ∃ m', m' < N + 1 - i ∧ ∃ i, i ≤ N ∧ m' = N + 1 - i ∧ (∃ t, JG (X.blk s3 H3 scope ce (a :: own (GX X Nm qual scg f cdv s1 H1))) (GX X Nm qual scg f cdv s1 H1) [] (a :: own (GX X Nm qual scg f cdv s1 H1)) Z (fun i σp σ' H' => σ' = wipe σ (own_.map (·.2)) ∧ Pv i σp H') i s' t) ∧ s'.heap.IsGen a gi ∧ ∃ gs, s'.gens[gi]? = some gs ∧
            Alive (X.blk s3 H3 scope ce (a :: own (GX X Nm qual scg f cdv s1 H1))) (GX X Nm qual scg f cdv s1 H1) s1.heap.objs.size [] (a :: own (GX X Nm qual scg f cdv s1 H1)) Z (fun i σp σ' H' => σ' = wipe σ (own_.map (·.2)) ∧ Pv i σp H') Yl En (N + 1) (N + 1 - i) gs := fun {s' B H'} wB I' nx => by
        obtain ⟨k1, k2, k3⟩ := nx
        have I9 : L2.Inv (X.blk s3 H3 scope ce (a :: own (GX X Nm qual scg f cdv s1 H1))) [] σ7 H' s' := inv_gens (s := wg s' B) (G := s'.gens) I' (bare_sw wB If.bare I'.bare)
        have hl : (wipe σ (own_.map (·.2))).length = σ7.length := by rw [← hw7, wipe_length]
        have I10 := I9.weak hl fun jj vv ee => by
          rw [← hw7] at ee
          exact (wipe_some ee).1
        refine ⟨N + 1 - (i + 1), by omega, i + 1, i_lt, rfl, ⟨(wipe σ (own_.map (·.2)), H', σg), I10, fun b hb' => ?_, own_frz (fun b hb' => List.mem_cons_of_mem _ hb') ow6 I9.hok k1, k2, rfl, k3⟩, gen_frz List.mem_cons_self hg6 I9.hok k1, y, wB.stays hgs6 hsy, ?_⟩
        · show ∃ o, H' b = _
          rw [k1 b hb']
          exact fz4.in_ b hb'
        · have em : m = N + 1 - (i + 1) := by omega
          rw [← em]
          exact al6
      cases b with
      | false =>
        simp only [Bool.false_eq_true, if_false] at q8 ⊢
        exact fin w8 I8 q8
      | true =>
        simp only [if_true] at q8 ⊢
        refine wpAny_mono (wpAny_sw w8 (pe'.run [] (wg s8 B8) σ7 H8 _ I8 q8)) (fun zv s9 hq9 => ?_) fun z9 s9 hq9 => (hq9.elim fun _ q => q.2.elim)
        obtain ⟨B9, w9, yv, H9, I9, r9, acc, hD9, hz9, nx⟩ := hq9
        refine wpAny_mono (wpAny_sw w9 (app_ok (X := X.blk s3 H3 scope ce (a :: own (GX X Nm qual scg f cdv s1 H1))) (E := fun _ _ => False) (Q := fun _ s' => L2.Inv (X.blk s3 H3 scope ce (a :: own (GX X Nm qual scg f cdv s1 H1))) [] σ7 (upd H9 D (.lst (acc ++ [yv]))) s') I9 hD9 hz9 r9 fun s' I' => I')) (fun _ s10 hq10 => ?_) fun z10 s10 hq10 => (hq10.elim fun _ q => q.2.elim)
        obtain ⟨B10, w10, I10⟩ := hq10
        exact fin w10 I10 nx
    · obtain ⟨rfl, pv⟩ := pv
      have I7 : L2.Inv X pins σ Ho s6 := I3.call' (ch := a :: own (GX X Nm qual scg f cdv s1 H1)) I6.os I6.base I6.hok I6.bare fun b hb => ⟨(f3 b hb).1.2.2.2.1, (f3 b hb).1.2.1, (f3 b hb).1.2.2.2.2.1, (f3 b hb).1.2.2.2.2.2⟩
      have nC : Ho s3.heap.objs.size = none := by
        have q : Ho ce.locals = none := I6.free
        rw [cL] at q
        exact q
      obtain ⟨mm, hn, _⟩ := I6.loc
      have hn : s6.heap.Ns ce.locals mm := hn
      rw [cL] at hn
      exact hRR D s3.heap.objs.size s6 mm Ho I7 (hPe i σp H6 Ho pv fz6 en hn6) hn (I3.fpOk (Nat.le_refl _) nC)
  exact codeAny_compStart_list loop (wpAny_pyIter_gen gen4 loop)
/-- as a value -/
theorem pe_lcG {elt tg : Expr} {ifs : List Expr} {scope : Scope} {own_ : List (Str × Nat)} {pos : Pos} {g : TG} {tt : TT} {te : TE} (hN : X.N.Nodup) (hh : X.A.handled = none) (c : Wlk X.prog X.w X.K X.mg X.base k x sp) (hr : Room j X.A) (hk : k + 2 ≤ j) (hg : Gl X x) (ha : PA X (e :: es) t) (ok : BlkOk X.N X.env.scope scope own_)
    (pg : ∀ (s : Shared) (H : Hp) (C : Addr) (cl : List (Str × Addr)) (fp : List Addr), PG (X.blk s H scope (compEnvC scope cl C X.env) fp) tg g) (pt : ∀ (s : Shared) (H : Hp) (C : Addr) (cl : List (Str × Addr)) (fp : List Addr), PTs (X.blk s H scope (compEnvC scope cl C X.env) fp) ifs tt)
    (pe : ∀ (s : Shared) (H : Hp) (C : Addr) (cl : List (Str × Addr)) (fp : List Addr), PE (X.blk s H scope (compEnvC scope cl C X.env) fp) elt te)
    (hdb : (x == ("__debug__" : Str)) = false := by decide) (he : starEach (e :: es) X.env = (false, eval e X.env) :: starEach es X.env := by rfl) (hpl : (backTo cp (starEach es X.env)).any (·.1) = false := by rfl) (hs : ∀ v, foldedSetIterable (.Call (.Name x p) (e :: es) [] cp) X.env v = pure v := by intro _; rfl) :
    PE X (.ListComp elt [⟨tg, .Call (.Name x p) (e :: es) [] cp, ifs, 0⟩] scope pos) (tLcG sp t g tt te (own_.map (·.2))) := by
  refine ⟨fun pins s σ H Q I h => ?_⟩
  rw [eval_ListComp]
  refine lc_walk hh hN I c hr hk hg ha hdb he hpl ok pg pt pe hs h fun D C s' m H' I' q hn f => ⟨m, hn, fun h'' sb => ?_⟩
  exact ⟨.ref D, H', I'.turned (t' := s'.toks) (fun b o hb z => (sb.2 b hb).trans z) f.1 f.2.1 f.2.2.2.1 f.2.2.2.2.1 f.2.2.2.2.2, rfl, q⟩
/-- y = [..] on one row, y a local -/
theorem ps_setLcG {i : Nat} {y : Str} {py spos : Pos} {elt tg : Expr} {ifs : List Expr} {scope : Scope} {own_ : List (Str × Nat)} {pos : Pos} {g : TG} {tt : TT} {te : TE} (hN : X.N.Nodup) (hh : X.A.handled = none) (hy : X.N[i]? = some y) (hyl : X.env.scope.names.lookup y = some .local)
    (hsw : swapsWith (.ListComp elt [⟨tg, .Call (.Name x p) (e :: es) [] cp, ifs, 0⟩] scope pos) (some (.Name y py)) spos.line X.env = pure true) (c : Wlk X.prog X.w X.K X.mg X.base k x sp) (hr : Room j X.A) (hk : k + 2 ≤ j) (hg : Gl X x) (ha : PA X (e :: es) t) (ok : BlkOk X.N X.env.scope scope own_)
    (pg : ∀ (s : Shared) (H : Hp) (C : Addr) (cl : List (Str × Addr)) (fp : List Addr), PG (X.blk s H scope (compEnvC scope cl C X.env) fp) tg g) (pt : ∀ (s : Shared) (H : Hp) (C : Addr) (cl : List (Str × Addr)) (fp : List Addr), PTs (X.blk s H scope (compEnvC scope cl C X.env) fp) ifs tt)
    (pe : ∀ (s : Shared) (H : Hp) (C : Addr) (cl : List (Str × Addr)) (fp : List Addr), PE (X.blk s H scope (compEnvC scope cl C X.env) fp) elt te)
    (hdb : (x == ("__debug__" : Str)) = false := by decide) (he : starEach (e :: es) X.env = (false, eval e X.env) :: starEach es X.env := by rfl) (hpl : (backTo cp (starEach es X.env)).any (·.1) = false := by rfl) (hs : ∀ v, foldedSetIterable (.Call (.Name x p) (e :: es) [] cp) X.env v = pure v := by intro _; rfl) :
    PS X (.Assign [.Name y py] (.ListComp elt [⟨tg, .Call (.Name x p) (e :: es) [] cp, ifs, 0⟩] scope pos) spos) (tAsg (tLcG sp t g tt te (own_.map (·.2))) (gName i)) := by
  refine ⟨fun pins s σ H D I h => ?_⟩
  rw [exec_Assign_Name_used _ _ _ _ hsw]
  refine wpAny_bind (wpAny_standAt (wpAny_bind ?_))
  show wpAny _ X.A (do let _ ← comprehension (.ListComp elt [⟨tg, .Call (.Name x p) (e :: es) [] cp, ifs, 0⟩] scope pos) scope X.env (firstIterPos [⟨tg, .Call (.Name x p) (e :: es) [] cp, ifs, 0⟩] pos) (newList []) false (eval (.Call (.Name x p) (e :: es) [] cp) X.env) (some (assign (.Name y py) X.env))) _ _ s
  have h : tLcG sp t g tt te (own_.map (·.2)) σ H (fun v H1 => gName i v σ H1 D.nx) := h
  refine wpAny_bind (thn (lc_walk (Qf := fun _ s' => SP X pins D .next s') hh hN I c hr hk hg ha hdb he hpl ok pg pt pe hs h fun D' C s' m H' I' q hn f => ?_) fun _ s' hq => wpAny_pure (wpAny_pure hq))
  show wpAny _ _ (assign (.Name y py) X.env (.ref D')) _ _ _
  refine wpAny_assign_Name (store_ok2 (v := V.ref D') I' hN hy (.inl hyl) rfl (fun s2 I2 ⟨b, sb, hb⟩ => ?_) (.inr hyl))
  have nC : C ≠ b := hb.elim (fun z => by rw [z]; exact f.2.1) fun z q' => f.2.2.2.2.1 y b z q'.symm
  exact ⟨m, hn.sameBut sb nC, fun h3 sb3 => ⟨_, H', I2.turned (t' := s2.toks) (fun b' o hb' z => (sb3.2 b' hb').trans z) f.1 f.2.1 f.2.2.2.1 f.2.2.2.2.1 f.2.2.2.2.2, q⟩⟩
end
end VG

set_option Elab.async false
set_option linter.all false
set_option maxRecDepth 100000
set_option maxHeartbeats 4000000
/-! dict(pairs) of a tuple of pairs; tuple(list) whose answer is known to have no dict -/
namespace VL
open PySem PySem.Spec PyProof.Rows L2
variable {X : Cx}
/-- tuple(list): the new tuple stands as a raw object -/
theorem call_tupleF : CallR X (.type "tuple") (fun xs H Q => ∃ p ys, xs = [.ref p] ∧ SqL X.K H p ys ∧ ∀ l o, H l = none → o.dict = none → Q (.ref l) (upd H l (.frz o (.tup ys)))) := by
  intro pins s σ H xs us Q I r h
  obtain ⟨p, ys, rfl, hq, q⟩ := h
  obtain ⟨u, rfl, rx⟩ := vals1 r
  cases rx
  obtain ⟨its, r', pl, hz⟩ := I.list hq
  have hlen := r'.length
  refine call_tuple_list pl.isList (fun h' kp => ?_) (by simp only [List.size_toArray] <;> omega)
  have I1 : Inv X pins σ H { s with heap := h' } := I.kept (t' := s.toks) kp
  have I2 : Inv X pins σ (upd H h'.objs.size (.frz { cls := .type "tuple", data := .seq its.toArray } (.tup ys))) { s with heap := h'.push { cls := .type "tuple", data := .seq its.toArray } } :=
    I1.laid (t' := s.toks) (fun b o e => Heap.get?_push_of_some _ e) (Nat.le_refl _) (show ObjOk X.prog X.w _ _ _ (.frz _ (.tup ys)) from ⟨Heap.get?_push_size _ rfl, hz, its, r', IsTup.new _ _⟩)
  exact ⟨.ref h'.objs.size, _, I2, rfl, q _ _ (I1.hok.fresh (Nat.le_refl _)) rfl⟩
theorem pairs_ofU {pins : List (Addr × Obj)} {σ : L2.St} {H : Hp} {s : Shared} (I : Inv X pins σ H s) : ∀ {ps : List Addr} {kvs : List (Key × V)}, Paired (fun p kv => SqT X.K H p [kV kv.1, kv.2]) ps kvs →
    ∃ (prs : List (Key × Value)) (us : List (Value × Value)), KV kvs prs ∧ prs.length = ps.length ∧ us.length = ps.length ∧ ∀ (j : Nat) (k v : Value), us[j]? = some (k, v) → ∃ (b : Addr) (key : Key), ps[j]? = some b ∧ IsTup s.heap b #[k, v] ∧ prs[j]? = some (key, v) ∧ keyIs key k = true
  | _, _, .nil => ⟨[], [], .nil, rfl, rfl, fun j k v e => by simp at e⟩
  | _, _, .cons (a := p) (b := kv) h t => by
    obtain ⟨prs, us, r, hl, hu, hp⟩ := pairs_ofU I t
    obtain ⟨its, rv, ht, _⟩ := I.tuple h
    obtain ⟨u, y, ei, ru, ry⟩ := vals2 rv
    subst ei
    refine ⟨(kv.1, y) :: prs, (u, y) :: us, .cons ⟨rfl, ry⟩ r, by rw [List.length_cons, List.length_cons, hl], by rw [List.length_cons, List.length_cons, hu], fun j k v e => ?_⟩
    cases j with
    | zero =>
      have e' : (u, y) = (k, v) := Option.some.inj e
      cases e'
      exact ⟨p, kv.1, rfl, ht, rfl, kV_is (P := X.prog) (w := X.w) ru⟩
    | succ j =>
      obtain ⟨b, key, e1, e2, e3, e4⟩ := hp j k v (by simpa using e)
      exact ⟨b, key, by simpa using e1, e2, by simpa using e3, e4⟩
/-- dict(xs) of a tuple of pairs (key, value), the tuple's raw object being known -/
theorem call_dictT (hcalm : X.calm = true) : CallR X (.type "dict") (fun xs H Q => ∃ (a : Addr) (o : Obj) (ps : List Addr) (kvs : List (Key × V)), xs = [.ref a] ∧ H a = some (.frz o (.tup (ps.map V.ref))) ∧ o.dict = none ∧ Paired (fun p kv => SqT X.K H p [kV kv.1, kv.2]) ps kvs ∧
    ∀ p, H p = none → Q (.ref p) (upd H p (.dK (mergeK [] kvs)))) := by
  intro pins s σ H xs us Q I r q
  obtain ⟨a, o, ps, kvs, ex, hq, hod, hp, q⟩ := q
  subst ex
  obtain ⟨u, eu, rx⟩ := vals1 r
  subst eu
  cases rx
  obtain ⟨ho, hz, its, rv, o', ho', hc, n, hdat⟩ := (show ObjOk X.prog X.w H s.heap a (.frz o (.tup (ps.map V.ref))) from I.hok a _ hq)
  rw [ho] at ho'
  cases ho'
  have ei := refs_at rv
  subst ei
  rw [List.length_map] at hz
  obtain ⟨prs, us, rel, hl, hul, hpr⟩ := pairs_ofU I hp
  have hps : PairItems s.heap (ps.map Value.ref).toArray (fun j => ps[j]?.getD 0) us := by
    refine ⟨by simp [hul], fun j k v e => ?_⟩
    obtain ⟨b, key, e1, e2, e3, e4⟩ := hpr j k v e
    obtain ⟨o2, h2, h3, n2, h4⟩ := id e2
    exact ⟨by simp [e1], by simp only [e1, Option.getD_some]; exact .inl ⟨o2, h2, h3, n2, h4⟩⟩
  have hseq : PlainSeq "tuple" s.heap a (ps.map Value.ref).toArray := ⟨o, n, ho, hc, hod, hdat⟩
  refine PySem.call_dict_pairs (knd := mixKind X.prog X.w) (kvs := prs) (PairArg.tuple a _ _ us) (I.ok.hd hcalm) ⟨hseq, hps⟩ ⟨by rw [hl, hul], fun i key v e => ?_⟩ (by rw [hul]; exact hz) fun h' tk hd' k => ?_
  · obtain ⟨b, kk, e1, e2, e3, e4⟩ := hpr i key v e
    exact ⟨kk, e3, e4⟩
  · have hm : (s.heap.objs.size == sysModules) = false := beq_eq_false_iff_ne.mpr (Nat.ne_of_gt I.big)
    have hlen : (mergeK [] kvs).length ≤ sizeLine := by
      refine Nat.le_trans (length_mergeK kvs []) ?_
      rw [List.length_nil, Nat.zero_add, rel.length, hl]
      exact hz
    exact ⟨.ref s.heap.objs.size, upd H s.heap.objs.size (.dK (mergeK [] kvs)), I.laid (t' := tk) (fun b o e => k b o (fun z => nomatch z) e) (Nat.le_refl _) (show ObjOk X.prog X.w _ _ _ (.dK (mergeK [] kvs)) from ⟨hlen, hm, merged [] prs, KV.merge rel .nil, hd'⟩), rfl, q _ (I.hok.fresh (Nat.le_refl _))⟩
end VL

set_option Elab.async false
set_option linter.all false
set_option maxRecDepth 100000
set_option maxHeartbeats 4000000
/-! documents: nodes with numbers, attributes, kids -/
namespace VL
open PySem PySem.Spec PyProof.Rows L2
inductive Dn where
  | tx (n : Int) (x : Str)
  | el (n : Int) (t : Str) (as : List (Str × Str)) (ks : List Dn)
def Dn.num : Dn → Int
  | .tx n _ => n
  | .el n _ _ _ => n
def Dn.kids : Dn → List Dn
  | .tx _ _ => []
  | .el _ _ _ ks => ks
def Dn.isE : Dn → Bool
  | .tx _ _ => false
  | .el _ _ _ _ => true
mutual
def it (l : Int) : Dn → List (Int × Dn)
  | .tx n x => [(l, .tx n x)]
  | .el n t as ks => (l, .el n t as ks) :: itS (l + 1) ks
def itS (l : Int) : List Dn → List (Int × Dn)
  | [] => []
  | d :: r => it l d ++ itS l r
end
theorem it_eq (l : Int) : ∀ d : Dn, it l d = (l, d) :: itS (l + 1) d.kids
  | .tx n x => by simp only [it, Dn.kids, itS]
  | .el n t as ks => by simp only [it, Dn.kids]
theorem itS_app (l : Int) : ∀ a b : List Dn, itS l (a ++ b) = itS l a ++ itS l b
  | [], b => by simp only [itS, List.nil_append]
  | d :: r, b => by simp only [List.cons_append, itS, itS_app l r b, List.append_assoc]
def rest (st : List (Int × Dn)) : List (Int × Dn) := st.reverse.flatMap fun p => it p.1 p.2
theorem rest_snoc (st : List (Int × Dn)) (l : Int) (d : Dn) : rest (st ++ [(l, d)]) = it l d ++ rest st := by simp [rest]
theorem rest_kids (l : Int) : ∀ (ks : List Dn) (st : List (Int × Dn)), rest (st ++ ks.reverse.map fun d => (l, d)) = itS l ks ++ rest st
  | [], st => by simp [itS]
  | d :: r, st => by
    rw [List.reverse_cons, List.map_append, ← List.append_assoc, List.map_cons, List.map_nil, rest_snoc, rest_kids l r st]
    simp only [itS, List.append_assoc]
theorem rest_len : ∀ st : List (Int × Dn), st.length ≤ (rest st).length := fun st => by
  unfold rest
  rw [List.length_flatMap]
  have : ∀ l : List (Int × Dn), l.length ≤ (l.map fun p => (it p.1 p.2).length).sum := fun l => by
    induction l with
    | nil => simp
    | cons p l ih =>
      rw [List.map_cons, List.sum_cons, List.length_cons, it_eq]
      simp only [List.length_cons]
      omega
  have := this st.reverse
  simpa using this
theorem itS_len (l : Int) : ∀ ks : List Dn, ks.length ≤ (itS l ks).length
  | [] => by simp [itS]
  | d :: r => by
    have ih := itS_len l r
    simp only [itS, it_eq, List.length_cons, List.length_append]
    omega
def pairP (a : Str × Str) : PyData := .tuple [.str a.1, .str a.2]
/-- the attributes' tuple: no dict hangs on it -/
def AtA (H : Hp) (v : V) (as : List (Str × Str)) : Prop := ∃ (a : Addr) (o : Obj) (ps : List Addr), v = .ref a ∧ H a = some (.frz o (.tup (ps.map V.ref))) ∧ o.dict = none ∧ Paired (fun p (x : Str × Str) => H p = some (.tup [.str x.1, .str x.2])) ps as
theorem AtA.same {H H' : Hp} {v : V} {as : List (Str × Str)} (s : Same H H') (h : AtA H v as) : AtA H' v as := by
  obtain ⟨a, o, ps, rfl, h1, h2, h3⟩ := h
  refine ⟨a, o, ps, rfl, s _ _ h1, h2, ?_⟩
  clear h1
  induction h3 with
  | nil => exact .nil
  | cons h t ih => exact .cons (s _ _ h) ih
mutual
inductive NdA (H : Hp) : V → Dn → Prop
  | tx {a : Addr} {n : Int} {x : Str} : H a = some (.tup [.str "text", .int n, .str x]) → NdA H (.ref a) (.tx n x)
  | el {a pk : Addr} {n : Int} {t : Str} {va : V} {as : List (Str × Str)} {vs : List V} {ks : List Dn} : H a = some (.tup [.str "element", .int n, .str t, va, .ref pk]) → AtA H va as → H pk = some (.tup vs) → NdAs H vs ks → NdA H (.ref a) (.el n t as ks)
inductive NdAs (H : Hp) : List V → List Dn → Prop
  | nil : NdAs H [] []
  | cons {v : V} {vs : List V} {d : Dn} {ds : List Dn} : NdA H v d → NdAs H vs ds → NdAs H (v :: vs) (d :: ds)
end
mutual
theorem NdA.same {H H' : Hp} (s : Same H H') : ∀ {v : V} {d : Dn}, NdA H v d → NdA H' v d
  | _, _, .tx h => .tx (s _ _ h)
  | _, _, .el h ha hk hs => .el (s _ _ h) (ha.same s) (s _ _ hk) (NdAs.same s hs)
theorem NdAs.same {H H' : Hp} (s : Same H H') : ∀ {vs : List V} {ds : List Dn}, NdAs H vs ds → NdAs H' vs ds
  | _, _, .nil => .nil
  | _, _, .cons a b => .cons (NdA.same s a) (NdAs.same s b)
end
theorem NdAs.paired {H : Hp} : ∀ {vs : List V} {ds : List Dn}, NdAs H vs ds → Paired (NdA H) vs ds
  | _, _, .nil => .nil
  | _, _, .cons a b => .cons a (NdAs.paired b)
theorem NdAs.of {H : Hp} : ∀ {vs : List V} {ds : List Dn}, Paired (NdA H) vs ds → NdAs H vs ds
  | _, _, .nil => .nil
  | _, _, .cons a b => .cons a (NdAs.of b)
theorem NdAs.len {H : Hp} : ∀ {vs : List V} {ds : List Dn}, NdAs H vs ds → vs.length = ds.length
  | _, _, .nil => rfl
  | _, _, .cons _ h => by simp [NdAs.len h]
theorem NdAs.app {H : Hp} : ∀ {vs : List V} {ds : List Dn} {ws : List V} {es : List Dn}, NdAs H vs ds → NdAs H ws es → NdAs H (vs ++ ws) (ds ++ es)
  | _, _, _, _, .nil, h => h
  | _, _, _, _, .cons a b, h => .cons a (NdAs.app b h)
theorem paired_rev {α β : Type} {R : α → β → Prop} : ∀ {xs : List α} {ys : List β}, Paired R xs ys → Paired R xs.reverse ys.reverse := by
  have ap : ∀ {xs : List α} {ys : List β} {x : α} {y : β}, Paired R xs ys → R x y → Paired R (xs ++ [x]) (ys ++ [y]) := by
    intro xs ys x y h r
    induction h with
    | nil => exact .cons r .nil
    | cons h t ih => exact .cons h ih
  intro xs ys h
  induction h with
  | nil => exact .nil
  | cons h t ih =>
    rw [List.reverse_cons, List.reverse_cons]
    exact ap ih h
theorem NdAs.rev {H : Hp} {vs : List V} {ds : List Dn} (h : NdAs H vs ds) : NdAs H vs.reverse ds.reverse := .of (paired_rev h.paired)
theorem NdAs.get {H : Hp} : ∀ {vs : List V} {ds : List Dn}, NdAs H vs ds → ∀ {i : Nat} {v : V}, vs[i]? = some v → ∃ d, ds[i]? = some d ∧ NdA H v d
  | _, _, .cons a b, 0, v, e => by
    have : _ = v := Option.some.inj e
    subst this
    exact ⟨_, rfl, a⟩
  | _, _, .cons a b, i + 1, v, e => by
    obtain ⟨d, h1, h2⟩ := NdAs.get b (by simpa using e)
    exact ⟨d, by simpa using h1, h2⟩
  | _, _, .nil, i, v, e => by simp at e
/-- what waits: pairs (level, node) -/
def StA (H0 H : Hp) (ws : List V) (st : List (Int × Dn)) : Prop := Paired (fun (v : V) (p : Int × Dn) => ∃ t u, v = .ref t ∧ H t = some (.tup [.int p.1, u]) ∧ NdA H0 u p.2) ws st
theorem StA.len {H0 H : Hp} {ws : List V} {st : List (Int × Dn)} (h : StA H0 H ws st) : ws.length = st.length := Paired.length h
theorem StA.snoc {H0 H : Hp} {ws : List V} {st : List (Int × Dn)} {t : Addr} {u : V} {l : Int} {d : Dn} (h : StA H0 H ws st) (ht : H t = some (.tup [.int l, u])) (hu : NdA H0 u d) : StA H0 H (ws ++ [.ref t]) (st ++ [(l, d)]) := by
  unfold StA at h
  induction h with
  | nil => exact .cons ⟨t, u, rfl, ht, hu⟩ .nil
  | cons a b ih => exact .cons a ih
/-- kept by what keeps tuples -/
theorem StA.keep {H0 H H' : Hp} {ws : List V} {st : List (Int × Dn)} (h : StA H0 H ws st) (k : ∀ b xs, H b = some (.tup xs) → H' b = some (.tup xs)) : StA H0 H' ws st := by
  unfold StA at h ⊢
  induction h with
  | nil => exact .nil
  | cons a b ih =>
    obtain ⟨t, u, e, ht, hu⟩ := a
    exact .cons ⟨t, u, e, k _ _ ht, hu⟩ ih
theorem StA.last {H0 H : Hp} {ws : List V} {st : List (Int × Dn)} (h : StA H0 H ws st) (hn : 0 < ws.length) : ∃ ws' st' t u l d, ws = ws' ++ [.ref t] ∧ st = st' ++ [(l, d)] ∧ StA H0 H ws' st' ∧ H t = some (.tup [.int l, u]) ∧ NdA H0 u d := by
  unfold StA at h
  induction h with
  | nil => exact absurd hn (by decide)
  | @cons v p vs ps a b ih =>
    obtain ⟨t, u, e, ht, hu⟩ := a
    cases b with
    | nil => exact ⟨[], [], t, u, p.1, p.2, by rw [e]; rfl, rfl, .nil, ht, hu⟩
    | cons a' b' =>
      obtain ⟨ws', st', t', u', l', d', e1, e2, h1, h2, h3⟩ := ih (by simp)
      exact ⟨v :: ws', p :: st', t', u', l', d', by rw [e1]; rfl, by rw [e2]; rfl, .cons ⟨t, u, e, ht, hu⟩ h1, h2, h3⟩
end VL

set_option Elab.async false
set_option linter.all false
set_option maxRecDepth 100000
set_option maxHeartbeats 4000000
/-! walk(document): what it hands out, what it keeps -/
namespace VL
open PySem PySem.Spec PyProof.Rows L2
theorem walk_revT {K : PySem.W.Frag} {a : Addr} {xs : List V} : Walk (RT.ItvT K a xs.length) xs.length (fun H => SqT K H a xs) (fun i H x H' => H' = H ∧ xs[xs.length - 1 - i]? = some x) :=
  ⟨fun i _ hi q => ⟨hi, xs, xs[xs.length - 1 - i]'(by omega), q, by simp [show xs.length - 1 - i < xs.length by omega]⟩, fun _ _ => Nat.le_refl _, fun _ _ _ _ _ q y => ⟨y.1, y.2 xs q⟩⟩
theorem Sm.new {t : Addr} {o : HO} {H : Hp} (h : H t = none) : Same H (upd H t o) := fun b u e => by rw [upd_ne (ne_of_none e h)]; exact e
theorem ps_const {X : Cx} {st : Stmt} {t : Shared → Hp → TS} (h : ∀ s0 H0, PS (VG.re X s0 H0) st (t s0 H0)) (s1 : Shared) (H1 : Hp) (e : ∀ s0 H0, t s0 H0 = t s1 H1) : ∀ s0 H0, PS (VG.re X s0 H0) st (t s1 H1) := fun s0 H0 => by rw [← e s0 H0]; exact h s0 H0
theorem pt_const {X : Cx} {st : Expr} {t : Shared → Hp → TT} (h : ∀ s0 H0, PT (VG.re X s0 H0) st (t s0 H0)) (s1 : Shared) (H1 : Hp) (e : ∀ s0 H0, t s0 H0 = t s1 H1) : ∀ s0 H0, PT (VG.re X s0 H0) st (t s1 H1) := fun s0 H0 => by rw [← e s0 H0]; exact h s0 H0
theorem fz_same {L : List Addr} {Ho Hf : Hp} (z : VG.Fz L Ho Hf) (n : ∀ b ∈ L, Ho b = none) : Same Ho Hf := fun b o e => by
  rw [z.out b fun m => by rw [n b m] at e; cases e]
  exact e
theorem drop_same {L : List Addr} {Ho Hf H' : Hp} (z : VG.Fz L Ho Hf) (n : ∀ b ∈ L, Ho b = none) (s : Same Hf H') : Same Ho (VG.drop L H') := fun b o e => by
  rw [VG.drop_out fun m => by rw [n b m] at e; cases e]
  exact s _ _ (fz_same z n _ _ e)
theorem keep_L {L : List Addr} {Ho Hf H' : Hp} (z : VG.Fz L Ho Hf) (s : Same Hf H') : ∀ b ∈ L, H' b = Hf b := fun b hb => by
  obtain ⟨o, e⟩ := z.in_ b hb
  rw [e]
  exact s _ _ e
theorem fz_in {L : List Addr} {Ho Hf : Hp} (z : VG.Fz L Ho Hf) {b : Addr} (h : b ∈ L) : ∃ o, Hf b = some (VG.fz o) := z.in_ b h
/-- all but the list of what waits is kept -/
def KeptBut (wl : Addr) (H H' : Hp) : Prop := ∀ b o, H b = some o → b ≠ wl → H' b = some o
def zW (H0 : Hp) (a : Addr) (ks : List Dn) : Nat → L2.St → Hp → Prop
  | 0, σ, H => σ = [some (.ref a), none, none, none, none] ∧ Same H0 H
  | i + 1, σ, H => ∃ (wl : Addr) (ws : List V) (st : List (Int × Dn)) (lv : Int) (d : Dn) (v : V) (y4 : Option V), σ = [some (.ref a), some v, some (.ref wl), some (.int lv), y4] ∧ Same H0 H ∧ H0 wl = none ∧ H wl = some (.lst ws) ∧ StA H0 H ws st ∧ NdA H0 v d ∧
      (itS 1 ks)[i]? = some (lv, d) ∧ (itS 1 ks).drop (i + 1) = itS (lv + 1) d.kids ++ rest st
theorem zW_same {H0 : Hp} {a : Addr} {ks : List Dn} {i : Nat} {σ : L2.St} {H H' : Hp} (h : zW H0 a ks i σ H) (s : Same H H') : zW H0 a ks i σ H' := by
  cases i with
  | zero => exact ⟨h.1, Same.trans h.2 s⟩
  | succ i =>
    obtain ⟨wl, ws, st, lv, d, v, y4, e, h1, h2, h3, h4, h5, h6⟩ := h
    exact ⟨wl, ws, st, lv, d, v, y4, e, Same.trans h1 s, h2, s _ _ h3, h4.keep fun b xs e => s _ _ e, h5, h6⟩
def yW (H0 : Hp) (its : List (Int × Dn)) (i : Nat) (σp : L2.St) (H : Hp) (x : V) (σg : L2.St) (Ho : Hp) : Prop := i < its.length ∧ ∃ (wl t : Addr) (v : V) (lv : Int) (d : Dn), x = .ref t ∧ Ho t = some (.tup [.int lv, v]) ∧ NdA H0 v d ∧ its[i]? = some (lv, d) ∧
  KeptBut wl H Ho ∧ H0 wl = none ∧ σg[2]? = some (some (.ref wl)) ∧ (0 < i → σp[2]? = some (some (.ref wl))) ∧ (i = 0 → H wl = none) ∧ Same H0 Ho
def eW (H0 : Hp) (its : List (Int × Dn)) (i : Nat) (σp : L2.St) (H : Hp) (Ho : Hp) : Prop := its.length ≤ i ∧ ∃ wl, KeptBut wl H Ho ∧ H0 wl = none ∧ (0 < i → σp[2]? = some (some (.ref wl))) ∧ (i = 0 → H wl = none) ∧ Same H0 Ho
def hW (H0 : Hp) (a : Addr) (ks : List Dn) (i : Nat) (σp : L2.St) (H : Hp) (σ : L2.St) (Hg : Hp) : Prop := ∃ (wl : Addr) (ws : List V) (st : List (Int × Dn)) (y1 y3 y4 : Option V), σ = [some (.ref a), y1, some (.ref wl), y3, y4] ∧ Same H0 H ∧ H0 wl = none ∧ Hg wl = some (.lst ws) ∧ StA H0 Hg ws st ∧
  (itS 1 ks).drop i = rest st ∧ KeptBut wl H Hg ∧ (0 < i → σp[2]? = some (some (.ref wl))) ∧ (i = 0 → H wl = none)
def spWalk : VG.SpW := fun vs H0 N Z Yl En => ∃ (a : Addr) (xs : List V) (ks : List Dn), vs = [.ref a] ∧ H0 a = some (.tup xs) ∧ NdAs H0 xs ks ∧ (itS 1 ks).length ≤ 1000 ∧ N = (itS 1 ks).length ∧ Z = zW H0 a ks ∧ Yl = yW H0 (itS 1 ks) ∧ En = eW H0 (itS 1 ks)
end VL

set_option Elab.async false
set_option linter.all false
set_option maxRecDepth 100000
set_option maxHeartbeats 4000000
/-! nodes with what stands around them -/
namespace VL
open PySem PySem.Spec PyProof.Rows L2
mutual
def an (ar : List Dn) : Dn → List (Dn × List Dn)
  | .tx n x => [(.tx n x, ar)]
  | .el n t as ks => (.el n t as ks, ar) :: anS (ar ++ [.el n t as ks]) ks
def anS (ar : List Dn) : List Dn → List (Dn × List Dn)
  | [] => []
  | d :: r => an ar d ++ anS ar r
end
mutual
theorem it_an (ar : List Dn) : ∀ d : Dn, it ((ar.length : Int) + 1) d = (an ar d).map fun p => ((p.2.length : Int) + 1, p.1)
  | .tx n x => by simp only [it, an, List.map_cons, List.map_nil]
  | .el n t as ks => by
    have ih := itS_an (ar ++ [.el n t as ks]) ks
    rw [List.length_append] at ih
    simp only [it, an, List.map_cons]
    rw [← ih]
    rfl
theorem itS_an (ar : List Dn) : ∀ ks : List Dn, itS ((ar.length : Int) + 1) ks = (anS ar ks).map fun p => ((p.2.length : Int) + 1, p.1)
  | [] => by simp only [itS, anS, List.map_nil]
  | d :: r => by
    simp only [itS, anS, List.map_append]
    rw [it_an ar d, itS_an ar r]
end
/-- each next one stands within what the one before leaves -/
inductive Run {α : Type} (R : α → α → Prop) : List α → Prop
  | nil : Run R []
  | one (a : α) : Run R [a]
  | cons {a b : α} {l : List α} : R a b → Run R (b :: l) → Run R (a :: b :: l)
theorem Run.app {α : Type} {R : α → α → Prop} : ∀ {l m : List α}, Run R l → Run R m → (∀ p ∈ l, ∀ q, m.head? = some q → R p q) → Run R (l ++ m)
  | [], m, _, h, _ => h
  | [a], [], _, _, _ => .one a
  | [a], b :: m, _, h, f => .cons (f a (by simp) b rfl) h
  | a :: b :: l, m, .cons r h1, h, f => .cons r (Run.app h1 h fun p hp => f p (List.mem_cons_of_mem _ hp))
theorem Run.at {α : Type} {R : α → α → Prop} : ∀ {l : List α}, Run R l → ∀ {i : Nat} {p q : α}, l[i]? = some p → l[i + 1]? = some q → R p q
  | _, .nil, i, p, q, h, _ => by simp at h
  | _, .one a, i, p, q, _, h => by simp at h
  | _, .cons r h, 0, p, q, hp, hq => by
    have e1 : _ = p := Option.some.inj hp
    have e2 : _ = q := Option.some.inj (show some _ = some q from hq)
    subst e1 e2
    exact r
  | _, .cons r h, i + 1, p, q, hp, hq => Run.at h (by simpa using hp) (by simpa using hq)
theorem an_head (ar : List Dn) : ∀ d : Dn, ∃ l, an ar d = (d, ar) :: l
  | .tx n x => ⟨[], by simp only [an]⟩
  | .el n t as ks => ⟨anS (ar ++ [.el n t as ks]) ks, by simp only [an]⟩
theorem anS_head (ar : List Dn) : ∀ ks q, (anS ar ks).head? = some q → q.2 = ar
  | [], q, h => by simp [anS] at h
  | d :: r, q, h => by
    obtain ⟨l, e⟩ := an_head ar d
    simp only [anS, e, List.cons_append, List.head?_cons, Option.some.injEq] at h
    rw [← h]
mutual
theorem an_pre (ar : List Dn) : ∀ d : Dn, ∀ p ∈ an ar d, ar <+: p.2
  | .tx n x, p, hp => by
    simp only [an, List.mem_singleton] at hp
    rw [hp]
    exact List.prefix_refl _
  | .el n t as ks, p, hp => by
    simp only [an, List.mem_cons] at hp
    rcases hp with rfl | hp
    · exact List.prefix_refl _
    · exact (List.prefix_append ar _).trans (anS_pre _ ks p hp)
theorem anS_pre (ar : List Dn) : ∀ ks : List Dn, ∀ p ∈ anS ar ks, ar <+: p.2
  | [], p, hp => by simp [anS] at hp
  | d :: r, p, hp => by
    simp only [anS, List.mem_append] at hp
    rcases hp with hp | hp
    · exact an_pre ar d p hp
    · exact anS_pre ar r p hp
end
def Nx (p q : Dn × List Dn) : Prop := q.2 <+: p.2 ++ [p.1]
mutual
theorem an_run (ar : List Dn) : ∀ d : Dn, Run Nx (an ar d)
  | .tx n x => by simp only [an]; exact .one _
  | .el n t as ks => by
    simp only [an]
    have h := anS_run (ar ++ [.el n t as ks]) ks
    refine Run.app (l := [_]) (.one _) h fun p hp q hq => ?_
    rw [List.mem_singleton.mp hp]
    show q.2 <+: ar ++ [.el n t as ks]
    rw [anS_head _ _ _ hq]
    exact List.prefix_refl _
theorem anS_run (ar : List Dn) : ∀ ks : List Dn, Run Nx (anS ar ks)
  | [] => by simp only [anS]; exact .nil
  | d :: r => by
    simp only [anS]
    refine Run.app (an_run ar d) (anS_run ar r) fun p hp q hq => ?_
    show q.2 <+: p.2 ++ [p.1]
    rw [anS_head _ _ _ hq]
    exact (an_pre ar d p hp).trans (List.prefix_append _ _)
end
def pathD (ks : List Dn) (n : Int) : List Dn := match (anS [] ks).find? fun p => decide (p.1.num = n) with
  | some p => (p.2 ++ [p.1]).reverse.filter Dn.isE
  | none => []
/-- what stands around the i-th -/
theorem step_an {ks : List Dn} {i : Nat} {p : Dn × List Dn} (h : (anS [] ks)[i]? = some p) {A : List Dn} (hA : (i = 0 ∧ A = []) ∨ ∃ q, 0 < i ∧ (anS [] ks)[i - 1]? = some q ∧ A = q.2 ++ [q.1]) : A.take p.2.length = p.2 := by
  rcases hA with ⟨rfl, rfl⟩ | ⟨q, hi, hq, rfl⟩
  · rw [← List.head?_eq_getElem?] at h
    rw [anS_head _ _ _ h]
    rfl
  · obtain ⟨j, rfl⟩ : ∃ j, i = j + 1 := ⟨i - 1, by omega⟩
    have r : p.2 <+: q.2 ++ [q.1] := (anS_run [] ks).at (by simpa using hq) h
    exact (List.prefix_iff_eq_take.mp r).symm
theorem NdAs.take {H : Hp} : ∀ {vs : List V} {ds : List Dn} (n : Nat), NdAs H vs ds → NdAs H (vs.take n) (ds.take n)
  | _, _, 0, _ => by simpa using NdAs.nil
  | _, _, _ + 1, .nil => .nil
  | _, _, n + 1, .cons a b => .cons a (b.take n)
def Dn.as : Dn → List (Str × Str)
  | .tx _ _ => []
  | .el _ _ as _ => as
mutual
def AllD (P : Dn → Prop) : Dn → Prop
  | .tx n x => P (.tx n x)
  | .el n t as ks => P (.el n t as ks) ∧ AllS P ks
def AllS (P : Dn → Prop) : List Dn → Prop
  | [] => True
  | d :: r => AllD P d ∧ AllS P r
end
mutual
theorem an_all {P : Dn → Prop} (ar : List Dn) (ha : ∀ d ∈ ar, P d) : ∀ d : Dn, AllD P d → ∀ p ∈ an ar d, P p.1 ∧ ∀ e ∈ p.2, P e
  | .tx n x, h, p, hp => by
    simp only [an, List.mem_singleton] at hp
    simp only [AllD] at h
    rw [hp]
    exact ⟨h, ha⟩
  | .el n t as ks, h, p, hp => by
    simp only [an, List.mem_cons] at hp
    simp only [AllD] at h
    rcases hp with rfl | hp
    · exact ⟨h.1, ha⟩
    · refine anS_all (ar ++ [.el n t as ks]) (fun d hd => ?_) ks h.2 p hp
      rcases List.mem_append.mp hd with hd | hd
      · exact ha d hd
      · rw [List.mem_singleton.mp hd]
        exact h.1
theorem anS_all {P : Dn → Prop} (ar : List Dn) (ha : ∀ d ∈ ar, P d) : ∀ ks : List Dn, AllS P ks → ∀ p ∈ anS ar ks, P p.1 ∧ ∀ e ∈ p.2, P e
  | [], _, p, hp => by simp [anS] at hp
  | d :: r, h, p, hp => by
    simp only [anS, List.mem_append] at hp
    simp only [AllS] at h
    rcases hp with hp | hp
    · exact an_all ar ha d h.1 p hp
    · exact anS_all ar ha r h.2 p hp
end
theorem pathD_all {P : Dn → Prop} {ks : List Dn} (h : AllS P ks) (n : Int) : ∀ d ∈ pathD ks n, P d ∧ d.isE = true := by
  intro d hd
  unfold pathD at hd
  split at hd
  · rename_i p e
    have hp := List.mem_of_find?_eq_some e
    obtain ⟨h1, h2⟩ := anS_all [] (fun _ z => nomatch z) ks h p hp
    obtain ⟨hm, he⟩ := List.mem_filter.mp hd
    rw [List.mem_reverse] at hm
    refine ⟨?_, he⟩
    rcases List.mem_append.mp hm with hm | hm
    · exact h2 d hm
    · rw [List.mem_singleton.mp hm]
      exact h1
  · exact nomatch hd
def attrD (as : List (Str × Str)) (x : Str) : V := match as.find? fun a => decide (a.1 = x) with
  | some a => .str a.2
  | none => .non
def NamesOk (d : Dn) : Prop := (d.as.map (·.1)).Nodup
/-- the dict that dict(pairs) makes of pairs with different keys -/
theorem mergeK_nd : ∀ (kvs acc : List (Key × V)), ((acc ++ kvs).map (·.1)).Nodup → mergeK acc kvs = acc ++ kvs
  | [], acc, _ => by simp [mergeK]
  | kv :: r, acc, h => by
    have hn : putK acc kv.1 kv.2 = acc ++ [kv] := by
      refine putK_nw (valV_out fun hm => ?_)
      rw [List.map_append, List.nodup_append] at h
      exact h.2.2 _ hm _ (by simp) rfl
    show mergeK (putK acc kv.1 kv.2) r = _
    rw [hn, mergeK_nd r (acc ++ [kv]) (by simpa using h)]
    simp
def kvA (as : List (Str × Str)) : List (Key × V) := as.map fun a => (.inr a.1, .str a.2)
theorem attr_val (x : Str) : ∀ as : List (Str × Str), (valV (kvA as) (.inr x)).getD .non = attrD as x
  | [] => rfl
  | a :: r => by
    have ih := attr_val x r
    unfold attrD at ih ⊢
    rw [List.find?_cons]
    by_cases c : a.1 = x
    · rw [decide_eq_true c]
      show (valV ((Sum.inr a.1, V.str a.2) :: kvA r) (.inr x)).getD .non = _
      rw [valV_pos (by rw [c])]
      rfl
    · rw [decide_eq_false c]
      show (valV ((Sum.inr a.1, V.str a.2) :: kvA r) (.inr x)).getD .non = _
      rw [valV_neg (fun z => c (Sum.inr.inj z))]
      exact ih
theorem kvA_merge {as : List (Str × Str)} (h : (as.map (·.1)).Nodup) : mergeK [] (kvA as) = kvA as := by
  have := mergeK_nd (kvA as) [] (by
    rw [List.nil_append]
    unfold kvA
    rw [List.map_map]
    show ((as.map fun a => (Sum.inr a.1 : Key)).Nodup)
    rw [show (as.map fun a => (Sum.inr a.1 : Key)) = (as.map (·.1)).map Sum.inr by rw [List.map_map]; rfl]
    exact List.Pairwise.map _ (fun a b n z => n (Sum.inr.inj z)) h)
  simpa using this
theorem getElem?_mem' {α : Type} {l : List α} {i : Nat} {a : α} (h : l[i]? = some a) : a ∈ l := List.mem_of_getElem? h
mutual
theorem an_len (ar : List Dn) : ∀ d : Dn, ∀ p ∈ an ar d, p.2.length + 1 ≤ ar.length + (an ar d).length
  | .tx n x, p, hp => by
    simp only [an, List.mem_singleton] at hp
    rw [hp]
    simp [an]
  | .el n t as ks, p, hp => by
    simp only [an, List.mem_cons] at hp
    rcases hp with rfl | hp
    · simp [an]
    · have := anS_len (ar ++ [.el n t as ks]) ks p hp
      simp only [an, List.length_cons, List.length_append, List.length_nil] at this ⊢
      omega
theorem anS_len (ar : List Dn) : ∀ ks : List Dn, ∀ p ∈ anS ar ks, p.2.length + 1 ≤ ar.length + (anS ar ks).length
  | [], p, hp => by simp [anS] at hp
  | d :: r, p, hp => by
    simp only [anS, List.mem_append] at hp
    simp only [anS, List.length_append]
    rcases hp with hp | hp
    · have := an_len ar d p hp
      omega
    · have := anS_len ar r p hp
      omega
end
theorem pathD_len {ks : List Dn} {n : Int} (h : (itS 1 ks).length ≤ 1000) : (pathD ks n).length ≤ 1001 := by
  rw [show itS 1 ks = (anS [] ks).map fun p => ((p.2.length : Int) + 1, p.1) from itS_an [] ks, List.length_map] at h
  unfold pathD
  split
  · rename_i p e
    have := anS_len [] ks p (List.mem_of_find?_eq_some e)
    refine Nat.le_trans (List.length_filter_le _ _) ?_
    rw [List.length_reverse, List.length_append]
    simp only [List.length_nil, List.length_cons] at this ⊢
    omega
  · simp
theorem mem_it_an {ks : List Dn} {p : Int × Dn} (h : p ∈ itS 1 ks) : ∃ q ∈ anS [] ks, q.1 = p.2 := by
  rw [show itS 1 ks = (anS [] ks).map fun p => ((p.2.length : Int) + 1, p.1) from itS_an [] ks] at h
  obtain ⟨q, hq, rfl⟩ := List.mem_map.mp h
  exact ⟨q, hq, rfl⟩
theorem itS_all {P : Dn → Prop} {ks : List Dn} (h : AllS P ks) : ∀ p ∈ itS 1 ks, P p.2 := fun p hp => by
  obtain ⟨q, hq, e⟩ := mem_it_an hp
  rw [← e]
  exact (anS_all [] (fun _ z => nomatch z) ks h q hq).1
mutual
def numN : Dn → List Int
  | .tx n _ => [n]
  | .el n _ _ ks => n :: numS ks
def numS : List Dn → List Int
  | [] => []
  | d :: r => numN d ++ numS r
end
mutual
theorem it_num (l : Int) : ∀ d : Dn, (it l d).map (fun p => p.2.num) = numN d
  | .tx n x => by simp only [it, numN, List.map_cons, List.map_nil, Dn.num]
  | .el n t as ks => by
    simp only [it, numN, List.map_cons]
    rw [itS_num (l + 1) ks]
    rfl
theorem itS_num (l : Int) : ∀ ks : List Dn, (itS l ks).map (fun p => p.2.num) = numS ks
  | [] => by simp only [itS, numS, List.map_nil]
  | d :: r => by
    simp only [itS, numS, List.map_append]
    rw [it_num l d, itS_num l r]
end
theorem numS_app : ∀ a b : List Dn, numS (a ++ b) = numS a ++ numS b
  | [], b => by simp only [numS, List.nil_append]
  | d :: r, b => by simp only [List.cons_append, numS, numS_app r b, List.append_assoc]
theorem numS_one (d : Dn) : numS [d] = numN d := by simp only [numS, List.append_nil]
theorem AllS_app {P : Dn → Prop} : ∀ {a b : List Dn}, AllS P a → AllS P b → AllS P (a ++ b)
  | [], _, _, h => h
  | d :: r, _, h, h' => by
    simp only [AllS, List.cons_append] at h ⊢
    exact ⟨h.1, AllS_app h.2 h'⟩
theorem AllS_one {P : Dn → Prop} {d : Dn} (h : AllD P d) : AllS P [d] := by simp only [AllS]; exact ⟨h, trivial⟩
mutual
def dN : Dn → Nat
  | .tx _ _ => 0
  | .el _ _ _ ks => dS ks + 1
def dS : List Dn → Nat
  | [] => 0
  | d :: r => max (dN d) (dS r)
end
theorem dS_app : ∀ a b : List Dn, dS (a ++ b) = max (dS a) (dS b)
  | [], b => by simp [dS]
  | d :: r, b => by
    simp only [List.cons_append, dS, dS_app r b]
    omega
theorem dS_one (d : Dn) : dS [d] = dN d := by simp [dS]
theorem anS_num (ar : List Dn) (ks : List Dn) : (anS ar ks).length = (numS ks).length := by
  have h := congrArg List.length (itS_an ar ks)
  rw [List.length_map] at h
  rw [← h, ← itS_num ((ar.length : Int) + 1) ks, List.length_map]
theorem anS_app (ar : List Dn) : ∀ a b : List Dn, anS ar (a ++ b) = anS ar a ++ anS ar b
  | [], b => by simp only [anS, List.nil_append]
  | d :: r, b => by simp only [List.cons_append, anS, anS_app ar r b, List.append_assoc]
theorem dS_get : ∀ {ks : List Dn} {i : Nat} {d : Dn}, ks[i]? = some d → dN d ≤ dS ks
  | [], _, _, h => by simp at h
  | e :: r, 0, d, h => by
    have : e = d := Option.some.inj h
    subst this
    simp only [dS]
    omega
  | e :: r, i + 1, d, h => by
    have := dS_get (ks := r) (i := i) (d := d) (by simpa using h)
    simp only [dS]
    omega
mutual
theorem an_isE (ar : List Dn) (ha : ∀ e ∈ ar, e.isE = true) : ∀ d : Dn, ∀ p ∈ an ar d, ∀ e ∈ p.2, e.isE = true
  | .tx n x, p, hp => by
    simp only [an, List.mem_singleton] at hp
    rw [hp]
    exact ha
  | .el n t as ks, p, hp => by
    simp only [an, List.mem_cons] at hp
    rcases hp with rfl | hp
    · exact ha
    · refine anS_isE (ar ++ [.el n t as ks]) (fun e he => ?_) ks p hp
      rcases List.mem_append.mp he with he | he
      · exact ha e he
      · rw [List.mem_singleton.mp he]
        rfl
theorem anS_isE (ar : List Dn) (ha : ∀ e ∈ ar, e.isE = true) : ∀ ks : List Dn, ∀ p ∈ anS ar ks, ∀ e ∈ p.2, e.isE = true
  | [], p, hp => by simp [anS] at hp
  | d :: r, p, hp => by
    simp only [anS, List.mem_append] at hp
    rcases hp with hp | hp
    · exact an_isE ar ha d p hp
    · exact anS_isE ar ha r p hp
end
theorem anS_nums (ks : List Dn) : (anS [] ks).map (fun p => p.1.num) = numS ks := by
  have h := congrArg (List.map fun p : Int × Dn => p.2.num) (itS_an [] ks)
  rw [itS_num, List.map_map] at h
  rw [h]
  rfl
theorem find_nd {α : Type} {f : α → Int} : ∀ {l : List α} {p : α}, (l.map f).Nodup → p ∈ l → l.find? (fun q => decide (f q = f p)) = some p
  | [], p, _, h => nomatch h
  | q :: l, p, nd, h => by
    rw [List.map_cons, List.nodup_cons] at nd
    rcases List.mem_cons.mp h with rfl | h
    · rw [List.find?_cons, decide_eq_true rfl]
    · have : f q ≠ f p := fun z => nd.1 (by rw [z]; exact List.mem_map_of_mem h)
      rw [List.find?_cons, decide_eq_false this]
      exact find_nd nd.2 h
theorem find_an {ks : List Dn} (nd : (numS ks).Nodup) {p : Dn × List Dn} (h : p ∈ anS [] ks) : (anS [] ks).find? (fun q => decide (q.1.num = p.1.num)) = some p :=
  find_nd (f := fun q : Dn × List Dn => q.1.num) (by rw [anS_nums]; exact nd) h
def holdD (p : Dn × List Dn) : List Dn := p.2 ++ if p.1.isE then [p.1] else []
theorem pathD_at {ks : List Dn} (nd : (numS ks).Nodup) {p : Dn × List Dn} (h : p ∈ anS [] ks) : pathD ks p.1.num = (holdD p).reverse := by
  unfold pathD holdD
  rw [find_an nd h]
  show ((p.2 ++ [p.1]).reverse.filter Dn.isE) = _
  rw [List.filter_reverse]
  rw [List.filter_append]
  have : p.2.filter Dn.isE = p.2 := List.filter_eq_self.mpr (anS_isE [] (fun _ z => nomatch z) ks p h)
  rw [this]
  cases c : p.1.isE <;> simp [c]
theorem pathD_no {ks : List Dn} {n : Int} (h : n ∉ numS ks) : pathD ks n = [] := by
  unfold pathD
  have : (anS [] ks).find? (fun p => decide (p.1.num = n)) = none := by
    rw [List.find?_eq_none]
    intro p hp c
    exact h (by rw [← anS_nums, ← of_decide_eq_true c]; exact List.mem_map_of_mem hp)
  rw [this]
end VL

set_option Elab.async false
set_option linter.all false
set_option maxRecDepth 100000
set_option maxHeartbeats 4000000
namespace VL
open PySem PySem.Spec PyProof.Rows L2 NdefX

/-! ### an own exception's __init__ that begins with super().__init__(..), over ValueError -/
abbrev supBody (p0 p1 p2 p3 p4 : Pos) (es : List Expr) (rest : List Stmt) : List Stmt := .Expr (.Call (.Attribute (.Call (.Name "super" p0) [] [] p1) "__init__" p2) es [] p3) p4 :: rest
section
variable {CX : CXT} {P : Program} {w : World} {K : PySem.W.Frag} {mg : Str → Option Value} {base : Heap} {k : Nat} {f D cc cda : Addr} {name qual : Str} {params : Arguments} {es : List Expr} {ar : Arg} {rest : List Stmt} {p0 p1 p2 p3 p4 : Pos} {scope : Scope}
  {dV kV doc pm ct oc cl ccl : Value} {od cld cdd an : Option Addr} {osl csl ccs : Array (Option Value)} {vsC : Array Value} {file : Str} {tf : Tok} {cdD : ClassData} {N ps : List Str} {sp : Sp}
/-- what the written part says of it -/
structure SupK (P : Program) (K : PySem.W.Frag) (mg : Str → Option Value) (f D cc cda : Addr) (fd : FuncData) (qual : Str) : Prop where
  lk : ∃ oc od osl, K.lookup f = some ⟨oc, od, .func fd, osl⟩
  cd : PySem.W.codeIn K (.ref cda) qual = true
  cell : ∃ cl cld csl, K.lookup cc = some ⟨cl, cld, .cell (some (.ref D)), csl⟩
  code : ∃ ccl cdd vsC ccs file tf, K.lookup cda = some ⟨ccl, cdd, .fields vsC, ccs⟩ ∧ vsC[2]? = some (.str file tf) ∧ ((P.main.file : Str) == file) = true
  cls : ∃ cdD, PySem.W.clsIn K D = some cdD
  sub : PySem.W.mroIn K D (.ref D) = some true
  zsuper : mg "super" = none
  ops : PySem.W.nsIn K cStatics "thirdparty.any" = some none
  along : PySem.W.ks_superIn K D D "__init__" = some (some (.builtin "ValueError.__init__"))
  subV : PySem.W.subIn K (.ref D) (.type "ValueError") = some true
  top : (P.main.scope.names.lookup ("super" : Str)).isSome = false
theorem fn_sup {fd : FuncData} (T : SupK P K mg f D cc cda fd qual) (O : OexC K D) (efd : fd = PySem.W.fnX name qual params (supBody p0 p1 p2 p3 p4 es rest) scope [("__class__", cc)] dV kV doc pm an (.ref cda) ct)
    (S : NScope N ps ["__class__"] scope) (har : (params.posonlyargs ++ params.args).head? = some ar) (hps : ps.head? = some ar.arg) (hks : scope.names.lookup ("super" : Str) = some .globalImplicit)
    (hsw : ∀ env : Env, swapsWith (.Call (.Attribute (.Call (.Name "super" p0) [] [] p1) "__init__" p2) es [] p3) none p4.line env = pure false)
    (hst : ∀ env : Env, (backTo p3 (starEach es env)).any (·.1) = false)
    (hee : ∀ env : Env, ∃ x r, backTo p3 (starEach es env) = (false, x) :: r)
    {pl : Sem Bool} (hev : ∀ env : Env, eval (.Call (.Attribute (.Call (.Name "super" p0) [] [] p1) "__init__" p2) es [] p3) env = (do
      let ov ← attributeBase (.Call (.Name "super" p0) [] [] p1) "__init__" env (eval (.Call (.Name "super" p0) [] [] p1) env)
      standAt p2.atName
      let (g, first) ← holding [ov] (getMethod ov "__init__" pl)
      callWith p3 g first (backTo p3 (starEach es env)) []))
    (len : ∀ vs H Q E, sp vs H Q E → vs.length = ps.length)
    (hbody : ∀ (A : Around) (outer : List Env) (s : Shared) (H : Hp) (vs : List V) (Q : VK) (E : XK), Room k (A.deeper (envF ⟨name, qual, params, supBody p0 p1 p2 p3 p4 es rest, scope, [("__class__", cc)], cda⟩ f s.heap.objs.size)) → sp vs H Q E →
      ∃ ta tr, PA (ncx CX P w K mg base N ⟨name, qual, params, supBody p0 p1 p2 p3 p4 es rest, scope, [("__class__", cc)], cda⟩ f A outer s H E) es ta ∧
        PSs (ncx CX P w K mg base N ⟨name, qual, params, supBody p0 p1 p2 p3 p4 es rest, scope, [("__class__", cc)], cda⟩ f A outer s H E) rest tr ∧
        ∃ (a : Addr) (vs' : List V), vs = .ref a :: vs' ∧ H a = some (exo a D none) ∧
          ta (startF N vs [some (.ref D)]) H fun ws H1 => ws.length ≤ 1000 ∧ H1 a = some (exo a D none) ∧ tr { nx := fun _ H' => Q .non H', rt := Q } (startF N vs [some (.ref D)]) H1) :
    FnOk P w K mg base CX (k + 1) f fd ps sp := by
  subst efd
  obtain ⟨oc, od, osl, lk⟩ := T.lk
  obtain ⟨cl, cld, csl, hcell⟩ := T.cell
  obtain ⟨ccl, cdd, vsC, ccs, file, tf, hcode, hvs, hfile⟩ := T.code
  obtain ⟨cdD, hD⟩ := T.cls
  refine ⟨len, fun A outer s H args us vs Q E hr e0 hb r hsp => ?_⟩
  have hl := len _ _ _ _ hsp
  have KX : K.In s.heap := e0.mod.kin.keeps fun b o q => (e0.bs b o q).1
  have lim : s.heap.NoLimit := e0.mod.nolimit.keeps fun b o e => (e0.bs b o e).1
  have C : CellsAt [("__class__", cc)] ["__class__"] [some (.ref D)] s.heap H := by
    have one : ∀ y c, [(("__class__" : Str), cc)].lookup y = some c → y = "__class__" ∧ c = cc := fun y c e => by
      by_cases h : y = ("__class__" : Str)
      · subst h
        have e2 : [(("__class__" : Str), cc)].lookup ("__class__" : Str) = some cc := by simp [List.lookup]
        rw [e2] at e
        exact ⟨rfl, (Option.some.inj e).symm⟩
      · have q : (y == ("__class__" : Str)) = false := by simpa using h
        simp [List.lookup, q] at e
    have hc : ∃ v, s.heap.IsCell cc v := ⟨_, _, KX _ _ hcell, rfl⟩
    have hcH : H cc = none := (e0.bs cc _ (e0.mod.kin _ _ hcell)).2
    refine ⟨rfl, fun y c e => ?_, fun x y c e1 e2 => ?_, fun i y e => ?_⟩
    · obtain ⟨_, rfl⟩ := one y c e
      exact ⟨hcH, hc⟩
    · rw [(one _ _ e1).1, (one _ _ e2).1]
    · cases i with
      | zero =>
        injection e with e
        subst e
        refine ⟨cc, by simp [List.lookup], fun v ev => ?_⟩
        injection ev with ev
        injection ev with ev
        subst ev
        exact ⟨_, rfl, _, KX _ _ hcell, rfl⟩
      | succ i => cases i <;> cases e
  refine PySem.ks_codeAny_call_defAt (body := supBody p0 p1 p2 p3 p4 es rest) hr.depth (KX _ _ lk) rfl lim (PySem.W.codeRec_of KX T.cd) rfl hb S.nocell (fun ⟨n, _⟩ hy => S.par n (List.of_mem_zip hy).1) (fun h₁ hns kp => ?_) S.co S.gen S.kind
  obtain ⟨ta, tr, hA, hR, a, vs', ev, ha0, hq⟩ := hbody A outer s H vs Q E (hr.deeper _) hsp
  generalize hF : (⟨name, qual, params, supBody p0 p1 p2 p3 p4 es rest, scope, [("__class__", cc)], cda⟩ : NF) = F at hA hR
  have I : Inv (ncx CX P w K mg base N F f A outer s H E) [] (startF N vs [some (.ref D)]) H { s with heap := h₁, toks := s.toks + (ps.zip us).length } := by
    subst hF
    exact inv_startN S hr.hd e0 hl r C hns kp
  have eenv : callEnv (PySem.W.fnX name qual params (supBody p0 p1 p2 p3 p4 es rest) scope [("__class__", cc)] dV kV doc pm an (.ref cda) ct) s.heap.objs.size f = envF F f s.heap.objs.size := by
    subst hF
    rfl
  rw [eenv]
  have fin : ∀ {σ' : L2.St} {H' : Hp} {v : V} {u : Value} {s' : Shared}, Inv (ncx CX P w K mg base N F f A outer s H E) [] σ' H' s' → L2.RelV v u → Q v H' → CE outer P w H s Q u s' :=
    fun {σ' H' v u s'} J rv q => ⟨v, H', J.os, J.bare, J.base, J.hok, rv, q⟩
  refine PySem.ks_wpAt_mono (Q := SP (ncx CX P w K mg base N F f A outer s H E) [] { nx := fun _ H' => Q .non H', rt := Q }) (E := (ncx CX P w K mg base N F f A outer s H E).xe) ?go (fun fl s' hs => ?en) (fun _ _ x => x)
  case en =>
    cases fl with
    | ret u =>
      obtain ⟨v, σ', H', J, rv, q⟩ := hs
      exact fin J rv q
    | next =>
      obtain ⟨σ', H', J, q⟩ := hs
      exact fin (v := V.non) (u := Value.none) J rfl q
    | brk =>
      obtain ⟨_, _, _, q⟩ := hs
      exact False.elim q
    | cont =>
      obtain ⟨_, _, _, q⟩ := hs
      exact False.elim q
  have ekind : ∀ x, (envF F f s.heap.objs.size).kindOf x = scope.names.lookup x := by
    subst hF
    intro x
    rfl
  refine PySem.ks_wpAt_execs_cons (PySem.ks_wpAt_Expr_any (PySem.ks_wpAt_MethodCall (pl := pl) ?_ (hev _)) I.quiet (hsw _))
  refine PySem.ks_wpAt_super_base (env := envF F f s.heap.objs.size) ((ekind _).trans hks) ((ekind _).trans (S.frk _ List.mem_cons_self)) rfl rfl (kp _ _ (KX _ _ lk)) rfl har (by subst hF; rfl) (kp _ _ (KX _ _ hcode)) rfl hvs hfile T.top ?_
  have escope : (envF F f s.heap.objs.size).scope = scope := by subst hF; rfl
  have ecells : (envF F f s.heap.objs.size).cells = [(("__class__" : Str), cc)] := by subst hF; rfl
  obtain ⟨mb, b1, b2⟩ := e0.mod.blt
  have kb : ∀ b o, base.get? b = some o → h₁.get? b = some o := fun b o q => kp b o (e0.bs b o q).1
  have X₁ : K.In h₁ := KX.keeps kp
  have hgl := e0.mod.glob.keeps kb
  have hbl := b1.keeps kb
  refine PySem.W.ks_loadName_global (by rw [escope]; exact S.kind) ((ekind _).trans hks) (Calls.loadGlobal_builtin hgl T.zsuper hbl ((b2 _ (by decide +kernel)).trans Boot.«super») ⟨rfl, ?_⟩)
  refine wpAny_loadName_free (by rw [escope]; exact S.kind) ((ekind _).trans (S.frk _ List.mem_cons_self)) (c := cc) (v := .ref D) (by rw [ecells]; simp [List.lookup]) ⟨_, X₁ _ _ hcell, rfl⟩ ?_
  have hself : (ps.zip us).reverse.lookup ar.arg = some (.ref a) := by
    subst ev
    cases ps with
    | nil => cases hps
    | cons p ps' =>
      injection hps with hps
      subst hps
      cases r with
      | @cons _ u0 _ ur ra rw' =>
        obtain rfl : u0 = Value.ref a := ra
        have nd : (ar.arg :: ps').Nodup := by
          have q := S.nd.sublist (List.take_sublist ((ar.arg :: ps').length + [("__class__" : Str)].length) N)
          rw [S.pre] at q
          exact (List.nodup_append.mp q).1
        exact zip_look (i := 0) nd rfl rfl
  have hpar : scope.names.lookup ar.arg = some .local := by
    refine S.par _ ?_
    cases ps with
    | nil => cases hps
    | cons p ps' =>
      injection hps with hps
      subst hps
      exact List.mem_cons_self
  refine wpAny_loadName_local (by rw [escope]; exact S.kind) ((ekind _).trans hpar) hns hself ?_
  obtain ⟨oD, hD1, hD2⟩ : ∃ oD, h₁.get? D = some oD ∧ oD.data = .cls cdD := by
    have z := hD
    unfold PySem.W.clsIn at z
    split at z
    · rename_i ho
      cases z
      exact ⟨_, X₁ _ _ ho, rfl⟩
    · cases z
  refine PySem.ks_wpAny_isType_cls hD1 hD2 ⟨rfl, ?_⟩
  obtain ⟨t1, hoa⟩ := exo_at I.hok ha0
  refine PySem.ks_wpAny_call_super hD1 hD2 hoa rfl (fun c e => by cases e) (PySem.W.looks_mroIn X₁ T.sub) (fun h₂ e2 k2 => ?_)
  have I2 := I.kept (t' := s.toks + (ps.zip us).length) k2
  have X₂ : K.In h₂ := X₁.keeps k2
  have IA : PySem.W.InstAt h₂ a { cls := .ref D, dict := none, data := .fields #[.ref t1, .none, .none, .none, .bool false, .none] } D none := ⟨k2 _ _ hoa, rfl, rfl, trivial⟩
  have hal := T.along
  unfold PySem.W.ks_superIn at hal
  rw [hD] at hal
  have hmro : PySem.W.Looks (model P w) h₂ (mroOf (.ref D)) cdD.mro := fun A Q E s k q => wpAny_bind ((PySem.W.looks_clsIn X₂ hD) A _ E s k (wpAny_pure q))
  refine PySem.W.kxs_getMethod PySem.W.kxs_ValueError e2 (PySem.W.looks_opaque X₂ T.ops) hmro rfl X₂ hal (IA.type.andThen (PySem.W.looks_subIn X₂ T.subV)) (PySem.W.ks_ne X₂ IA hD) rfl ?_
  have kmw : ∀ b o, h₂.get? b = some o → (h₂.push (PySem.W.kxs_mw "ValueError.__init__" a)).get? b = some o := fun b o q => Heap.get?_push_of_some _ q
  have I3 : Inv (ncx CX P w K mg base N F f A outer s H E) [(h₂.objs.size, PySem.W.kxs_mw "ValueError.__init__" a)] (startF N vs [some (.ref D)]) H { s with heap := h₂.push (PySem.W.kxs_mw "ValueError.__init__" a), toks := s.toks + (ps.zip us).length + 1 } := by
    refine (I2.kept (t' := s.toks + (ps.zip us).length + 1) kmw).pins_of fun p hp => ?_
    rw [List.mem_singleton.mp hp]
    exact ⟨Heap.get?_push_at rfl rfl, I2.hok.fresh (Nat.le_refl _), Nat.ne_of_gt I2.lt, I2.nofs (Nat.le_refl _), fun v e => by cases e⟩
  refine PySem.W.kxs_callWith (i := "ValueError.__init__") (x := a) (hst _) ?_
  obtain ⟨x0, r0, hx⟩ := hee (envF F f s.heap.objs.size)
  rw [hx]
  refine Calls.evalArgs_plain ?_
  rw [← hx]
  refine thn (hA.run p3 _ _ _ H _ I3 hq) (fun us1 s4 ⟨ws, H1, I4, r1, hz, ha1, hrest⟩ => ⟨(I4.pin (h₂.objs.size, PySem.W.kxs_mw "ValueError.__init__" a) (List.mem_append_right _ List.mem_cons_self)).1, ?_⟩)
  have hu := (I4.pin (h₂.objs.size, PySem.W.kxs_mw "ValueError.__init__" a) (List.mem_append_right _ List.mem_cons_self)).1
  have I5 : Inv (ncx CX P w K mg base N F f A outer s H E) [] (startF N vs [some (.ref D)]) H1 s4 := I4.pins_of fun p hp => by cases hp
  obtain ⟨nm, q, Nn, bs, bm, sn, sub, ab, col, dd, k0, k1, k2', k3, k5, hC, hbm⟩ := O.cls
  obtain ⟨t2, ho⟩ := exo_at I5.hok ha1
  have hus : us1.length ≤ sizeLine := by
    rw [← Paired.length r1]
    exact Nat.le_trans hz (by decide)
  have kin4 := I5.kIn
  obtain ⟨hp, g, d, tk, os⟩ := s4
  refine wpAny_call (codeAny_of_tree ?_)
  show wpAny _ (A.deeper (envF F f s.heap.objs.size)).in1 (callAny (.ref h₂.objs.size) ⟨us1, []⟩) _ _ _
  simp only [callAny]
  refine wpAny_bind (wpAny_load hu ?_)
  simp only [PySem.W.kxs_mw, show (Value.type "method-wrapper" == Value.type "method" || Value.type "method-wrapper" == Value.type "builtin_function_or_method" || Value.type "method-wrapper" == Value.type "method-wrapper") = true by decide, if_true]
  refine PySem.W.KFB.if_so (by decide) ?_
  refine wpAny_bind (PySem.W.check_bound_init PySem.F.excBase_ValueError.toExcCallFacts (kin4 _ _ hC) ho rfl ?_)
  refine wpAny_bind (wpAny_pure (wpAny_pure ?_))
  refine ⟨plainId_quiet PySem.F.excBase_ValueError.init.plain _, codeAny_builtin PySem.F.excBase_ValueError.initEntry ?_⟩
  refine PySem.W.exc_init_tree (cls := .ref D) (t0 := t2) (dv := none) (c2 := .none) (c3 := .none) (b4 := .bool false) ho hus fun h' kk e' _ => ?_
  have J := I5.write (t' := tk) (x := a) (e := a) (o := exo a D none) (by rw [ha1]; exact True.intro) (.inl rfl) kk ⟨_, e'⟩ (exo_ok e')
  have eu : upd H1 a (exo a D none) = H1 := by
    funext b
    by_cases hb : b = a
    · rw [hb, upd_same, ha1]
    · rw [upd_ne hb]
  rw [eu] at J
  exact wpAt_of_wpAny (hR.run [] _ _ H1 _ J hrest)
end
end VL

set_option Elab.async false
set_option linter.all false
set_option maxRecDepth 100000
set_option maxHeartbeats 4000000
namespace VL
open PySem PySem.Spec PyProof.Rows L2 NdefX

/-! ### isinstance of a caught error that has a dict -/
theorem call_isED {X : Cx} {a D : Addr} {oe : Obj} {cls : Value} {d : Option Addr} {pn : List (Addr × Obj)} (C : ExcC X.K D) (hz : Zc cls d oe) (hf : ∃ vs, oe.data = .fields vs) :
    CallR (X.suite a ((a, oe) :: pn)) (.builtin "isinstance") (fun xs H Q => cls = .ref D ∧ ∃ (dd : Addr) (fs : List (Str × V)) (c : V) (cv : Value) (b : Bool), d = some dd ∧ H dd = some (.xd fs) ∧ xs = [.ref a, c] ∧ (∀ u, RelV c u → u = cv) ∧ PySem.W.kitOne X.K (.ref D) cv = some b ∧ Q (.bl b) H) := by
  intro pins s σ H xs us Q I r h
  obtain ⟨ec, dd, fs, c, cv, b, ed, ea, ex, hcv, e, q⟩ := h
  subst ec ed ex
  cases r with
  | cons rx rr =>
    cases rr with
    | cons rt rr =>
      cases rr
      cases rx
      obtain rfl := hcv _ rt
      have hp := (I.pin (a, oe) (List.mem_append_left _ List.mem_cons_self)).1
      obtain ⟨vs, hv⟩ := hf
      have hx : ObjOk X.prog X.w H s.heap dd (.xd fs) := I.hok dd _ ea
      obtain ⟨mA, hns, _⟩ := hx
      obtain ⟨od, ho, _⟩ := lookIn_ns hns
      have J : PySem.W.InstAt s.heap a oe D (some od) := ⟨hp, hz.1, by unfold PySem.W.notCls; rw [hv] <;> rfl, by rw [hz.2]; exact ho⟩
      have hcl : (PySem.W.clsIn X.K D).isSome = true := by
        obtain ⟨cd, hc, _⟩ := PySem.W.any_some C.hd
        rw [hc]
        rfl
      exact PySem.W.kia_one (PySem.W.kitx_exc (ox := oe) (od := some od) hcl C.hg C.hk C.hs C.ha C.hn C.ht C.hm) I.kIn J e (fun z => nomatch z) fun tk => ⟨.bl b, H, I.kept (t' := tk) fun _ _ z => z, rfl, q⟩
end VL

set_option Elab.async false
set_option linter.all false
set_option maxRecDepth 100000
set_option maxHeartbeats 4000000
namespace VL
open PySem PySem.Spec PyProof.Rows L2

section
variable {X : Cx} {CX : CXT} {k : Nat} {f : Addr} {fd : FuncData} {ps : List Str} {sp : Sp} {E : XK} {A1 : Around}
/-- a callee runs somewhere below the body -/
theorem run_at {pins : List (Addr × Obj)} {σ : L2.St} {H : Hp} {s : Shared} {Q : VK} {us : List Value} {vs : List V} (F : FnOk X.prog X.w X.K X.mg X.base CX k f fd ps sp) (sb : Sub X k A1) (hb : Binds X.K fd ps []) (hx : Passes CX X E)
    (I : Inv X pins σ H s) (r : Vals vs us) (h : sp vs H Q E) : wpAny (model X.prog X.w) A1 (call (.ref f) us) (EP X pins σ Q) X.xe s := by
  have e0 : Env0 X.prog X.w X.K X.mg X.base A1 X.stack s H := by
    have e := I.env0
    exact ⟨by rw [sb.fr]; exact e.frames, e.mod, e.bs, e.bsz, e.funs, e.frf, e.hok, e.bare⟩
  have hl := F.len _ _ _ _ h
  have hl2 : (us ++ ([] : List Value)).length = ps.length := by rw [List.append_nil, ← r.length]; exact hl
  refine wpAny_call (codeAny_mono (F.run A1 X.stack s H ⟨us, []⟩ us vs Q E sb.room e0 (by
    have q := hb s us I.kIn hl2
    rw [List.append_nil] at q
    exact q) r h) fun r s' hq => ?_)
  cases r with
  | error e => exact hx pins σ H s e s' I hq
  | ok fl =>
    cases fl with
    | ret w => exact I.after hq
    | next => exact False.elim hq
    | brk => exact False.elim hq
    | cont => exact False.elim hq

/-- x in o, o an instance with a __contains__ of the text -/
def rInOwn (C : Addr) (sp : Sp) (E : XK) : R2 := fun x y H Q => ∃ a dx fs, y = .ref a ∧ H a = some (.ins C dx fs) ∧ sp [.ref a, x] H (fun v H' => ∃ c, v = .bl c ∧ Q (.bl c) H') E
theorem op_in_own {C : Addr} (hs : PySem.W.findIn X.K (.ref C) "__contains__" = some (some (.ref f))) (hf : PySem.W.isFn X.K (.ref f) = true) (F : FnOk X.prog X.w X.K X.mg X.base CX k f fd ps sp) (hr : Room k X.A) (hb : Binds X.K fd ps []) (hx : Passes CX X E) :
    OpR X (compareOp .In) (rInOwn C sp E) := by
  intro pins s σ H x y v u Q I rx ry h
  obtain ⟨a, dx, fs, rfl, ha, q⟩ := h
  cases ry
  obtain ⟨mA, J, _⟩ := ins_get I.hok ha
  obtain ⟨od, J, _⟩ := J.look
  obtain ⟨m, hF⟩ := I.fr
  refine PySem.W.in_K hF I.ok.mod.kin J hs hf ?_
  refine wpAny_mono (run_at F ⟨hr, rfl⟩ hb hx I (.cons (show RelV (.ref a) (.ref a) from rfl) (.cons rx .nil)) q) (fun r s' hq => ?_) fun _ _ z => z
  obtain ⟨w', H', I', rw', c, rfl, q'⟩ := hq
  cases rw'
  exact wpAny_truthy_bool ⟨.bl c, H', I', rfl, q'⟩

def rNotInOwn (C : Addr) (sp : Sp) (E : XK) : R2 := fun x y H Q => ∃ a dx fs, y = .ref a ∧ H a = some (.ins C dx fs) ∧ sp [.ref a, x] H (fun v H' => ∃ c, v = .bl c ∧ Q (.bl (!c)) H') E
theorem op_notIn_own {C : Addr} (hs : PySem.W.findIn X.K (.ref C) "__contains__" = some (some (.ref f))) (hf : PySem.W.isFn X.K (.ref f) = true) (F : FnOk X.prog X.w X.K X.mg X.base CX k f fd ps sp) (hr : Room k X.A) (hb : Binds X.K fd ps []) (hx : Passes CX X E) :
    OpR X (compareOp .NotIn) (rNotInOwn C sp E) := by
  intro pins s σ H x y v u Q I rx ry h
  obtain ⟨a, dx, fs, rfl, ha, q⟩ := h
  cases ry
  obtain ⟨mA, J, _⟩ := ins_get I.hok ha
  obtain ⟨od, J, _⟩ := J.look
  obtain ⟨m, hF⟩ := I.fr
  refine PySem.W.notIn_K hF I.ok.mod.kin J hs hf ?_
  refine wpAny_mono (run_at F ⟨hr, rfl⟩ hb hx I (.cons (show RelV (.ref a) (.ref a) from rfl) (.cons rx .nil)) q) (fun r s' hq => ?_) fun _ _ z => z
  obtain ⟨w', H', I', rw', c, rfl, q'⟩ := hq
  cases rw'
  exact wpAny_truthy_bool ⟨.bl (!c), H', I', rfl, q'⟩

/-- len(o), o an instance with a __len__ of the text -/
def rLenOwn (C : Addr) (sp : Sp) (E : XK) : List V → Hp → VK → Prop := fun xs H Q => ∃ a dx fs, xs = [.ref a] ∧ H a = some (.ins C dx fs) ∧ sp [.ref a] H (fun v H' => ∃ n : Int, v = .int n ∧ 0 ≤ n ∧ n < 2 ^ 63 ∧ Q (.int n) H') E
theorem call_len_own {C : Addr} (hs : PySem.W.findIn X.K (.ref C) "__len__" = some (some (.ref f))) (hf : PySem.W.isFn X.K (.ref f) = true) (F : FnOk X.prog X.w X.K X.mg X.base CX k f fd ps sp) (hr : Room (k + 1) X.A) (hb : Binds X.K fd ps []) (hx : Passes CX X E) :
    CallR X (.builtin "len") (rLenOwn C sp E) := by
  intro pins s σ H xs us Q I rv h
  obtain ⟨a, dx, fs, rfl, ha, q⟩ := h
  obtain ⟨u, rfl, ru⟩ := rv.one
  cases ru
  obtain ⟨mA, J, _⟩ := ins_get I.hok ha
  obtain ⟨od, J, _⟩ := J.look
  have sb : Sub X k X.A.in1 := Sub.in1 (⟨hr, rfl⟩ : Sub X (k + 1) X.A)
  refine Calls.call_function_entry kind_len plain_len entry_len (args_len1 _) ?_
  unfold Builtin.«len»
  refine wpAny_bind (m := oneArg "len" _) (wpAny_pure ?_)
  refine wpAny_bind (m := callSpecial? (.ref a) (Str.ofString "__len__")) (PySem.W.special_fn I.kIn J hs (beq_iff_eq.mp hf) (wpAny_mono (run_at F sb hb hx I (.cons (show RelV (.ref a) (.ref a) from rfl) .nil) q) (fun r s' hr' => ?_) fun _ _ y => y))
  obtain ⟨v, H', I', r, n, rfl, h0, h1, hq⟩ := hr'
  obtain ⟨t, rfl⟩ := r
  refine wpAny_bind (wpAny_holding (wpAny_pure ?_))
  refine wpAny_bind (wpAny_letGo ?_)
  show wpAny _ _ (if n < 0 then _ else _) _ _ _
  rw [if_neg (by omega)]
  show wpAny _ _ (if n ≥ 2 ^ 63 then _ else _) _ _ _
  rw [if_neg (by omega)]
  exact wpAny_bind (wpAny_mkInt (wpAny_pure ⟨_, rfl, ⟨.int n, H', I'.tok _, ⟨_, rfl⟩, hq⟩⟩))
end
end VL

set_option Elab.async false
set_option linter.all false
set_option maxRecDepth 100000
set_option maxHeartbeats 4000000
namespace VL
open PySem PySem.Spec PyProof.Rows L2
section
variable {X : Cx} {k j : Nat} {C : Addr} {sp : Sp}
/-- len(o), o of an own class -/
theorem call_lenM (c : Met X.prog X.w X.K X.mg X.base k C "__len__" sp) (hr : Room j X.A) (hk : k + 1 ≤ j) : CallR X (.builtin "len") (rLenOwn C sp E0) := by
  obtain ⟨f, fd, ps, hc, hm, F, b⟩ := c.ex
  exact call_len_own hm.1 hm.2 F (hr.mono hk) b pass0
end
end VL

set_option Elab.async false
set_option linter.all false
set_option maxRecDepth 100000
set_option maxHeartbeats 4000000
namespace VL
open PySem PySem.Spec PyProof.Rows L2
/-! ### own classes made with keywords -/
structure MakK (P : Program) (w : World) (K : PySem.W.Frag) (mg : Str → Option Value) (base : Heap) (k : Nat) (x : Str) (C : Addr) (sp : Sp) (n : Nat) (ks : List Str) (gV : List V → List V → List V) : Prop where
  ex : ∃ (f : Addr) (fd : FuncData) (ps : List Str) (g : List Value → List Value → List Value), Mk K C f ∧ FnOk P w K mg base CX0 k f fd ps sp ∧ mg x = some (.ref C) ∧ KBn K fd ps (n + 1) ks g gV
def InitKE (K : PySem.W.Frag) (mg : Str → Option Value) (cn : Str) (C : Addr) (qual : Str) (st : Stmt) (ps : List Str) (n : Nat) (ks : List Str) : Prop :=
  ∃ (f : Addr) (fd : FuncData), Fun K "__init__" qual st f fd ∧ Mk K C f ∧ mg cn = some (.ref C) ∧ KBn K fd ps n ks catG catG
section
variable {X : Cx} {k j n : Nat} {C : Addr} {x : Str} {ks : List Str} {sp : Sp} {p pos : Pos} {e : Expr} {es : List Expr} {kws : List Keyword} {t tk : TA} {gV : List V → List V → List V}
theorem pe_mkK (c : MakK X.prog X.w X.K X.mg X.base k x C sp n ks gV) (hr : Room j X.A) (hk : k + 1 ≤ j) (hg : Gl X x) (ha : PA X (e :: es) t) (hkw : PK X kws tk)
    (hall : (backToKw pos (keywordEach kws X.env)).all (·.1.isSome) = true := by rfl) (hks : (backToKw pos (keywordEach kws X.env)).filterMap (·.1) = ks := by rfl)
    (hdb : (x == ("__debug__" : Str)) = false := by decide) (he : starEach (e :: es) X.env = (false, eval e X.env) :: starEach es X.env := by rfl)
    (hpl : ((backTo pos (starEach (e :: es) X.env)).any (·.1) || (backToKw pos (keywordEach kws X.env)).any (·.1.isNone)) = false := by rfl) :
    PE X (.Call (.Name x p) (e :: es) kws pos) (tMakeN C n ks.length sp gV E0 t tk) := by
  obtain ⟨f, fd, ps, g, M, F, hm, b⟩ := c.ex
  exact pe_makeN M F (hr.mono hk) hg hm b pass0 ha hkw hall hks hdb he hpl
end
section
variable {P : Program} {w : World} {K : PySem.W.Frag} {mg : Str → Option Value} {base : Heap}
theorem makK_of {C : Addr} {cn qual : Str} {st : Stmt} {ps ks N : List Str} {k n : Nat} {sp : Sp} (D : InitKE K mg cn C qual st ps (n + 1) ks) (S : FnScope N ps (defScope st)) (len : ∀ vs H Q E, sp vs H Q E → vs.length = ps.length)
    (hbody : ∀ (f : Addr) (cdv : Value) (A : Around) (outer : List Env) (s : Shared) (H : Hp) (vs : List V) (Q : VK) (E : XK), Room k (A.deeper (envOfC qual (defScope st) s.heap.objs.size f cdv)) → sp vs H Q E →
      ∃ t, PSs (cxOf CX0 P w K mg base N qual (defScope st) f cdv A outer s H E).nox (defBody st) t ∧ t { nx := fun _ H' => Q .non H', rt := Q } (start N vs) H) : MakK P w K mg base (k + 1) cn C sp n ks catG := by
  obtain ⟨f, fd, F, M, hm, b⟩ := D
  exact ⟨f, fd, ps, _, M, F.ok S len (hbody f), hm, b⟩
end
end VL

set_option Elab.async false
set_option linter.all false
set_option maxRecDepth 100000
set_option maxHeartbeats 4000000
namespace VL
open PySem PySem.Spec PyProof.Rows L2
open PySem.SeqAt (EqP)
open AutoSeq1 (wpAny_loadPart')
/-! ### == and != of nested data with dicts that read as the same -/
/-- both read as one thing of depth n -/
def SameD (H : Hp) (n : Nat) (x y : V) : Prop := ∃ d, PyData.depth d ≤ n ∧ Dq H x d ∧ Dq H y d
theorem pairD_of {H : Hp} {n : Nat} : ∀ {ds : List PyData} {xs ys : List V}, PyData.depthAll ds ≤ n → DqAll H xs ds → DqAll H ys ds → Paired (SameD H n) xs ys
  | [], _, _, _, h1, h2 => by cases h1; cases h2; exact .nil
  | d :: ds, _, _, hd, h1, h2 => by
    have hd' : max (PyData.depth d) (PyData.depthAll ds) ≤ n := hd
    cases h1 with
    | cons a1 b1 => cases h2 with
      | cons a2 b2 => exact .cons ⟨d, by omega, a1, a2⟩ (pairD_of (by omega) b1 b2)
section
variable {X : Cx} {pins : List (Addr × Obj)} {σ : L2.St} {H : Hp} {s : Shared}
theorem lkp_depth {k : Key} {d : PyData} : ∀ {kvs : List (PyData × PyData)}, lkp kvs k = some d → PyData.depth d ≤ PyData.depthKv kvs
  | [], h => nomatch h
  | (a, b) :: r, h => by
    have e : PyData.depthKv ((a, b) :: r) = max (max (PyData.depth a) (PyData.depth b)) (PyData.depthKv r) := rfl
    rw [e]
    unfold lkp at h
    split at h
    · cases h
      show PyData.depth b ≤ _
      omega
    · have := lkp_depth h
      omega
theorem rcQ_dict (I : Inv X pins σ H s) {A : Around} {n : Nat} (hu : A.units < cLine) (ih : ∀ x y v u, SameD H n x y → RelV x v → RelV y u → EqP X.prog X.w A.in1 s v u true) {kvs : List (PyData × PyData)} {x y : V} {v u : Value} (hn : PyData.depthKv kvs ≤ n)
    (h1 : Dq H x (.dict kvs)) (h2 : Dq H y (.dict kvs)) (rx : RelV x v) (ry : RelV y u) (E Q : Value → Shared → Prop) (q : Q (.bool true) s) : wpAny (model X.prog X.w) A (richCompare .Eq v u) Q E s := by
  obtain ⟨a, ks, rfl, ha, nd1, l1, k1⟩ := dq_dict h1
  obtain ⟨b, ls, rfl, hb, nd2, l2, k2⟩ := dq_dict h2
  cases (show v = Value.ref a from rx)
  cases (show u = Value.ref b from ry)
  obtain ⟨_, ya, va, ra, da⟩ := (show ObjOk X.prog X.w H s.heap a (.dK ks) from I.hok a _ ha)
  obtain ⟨_, yb, vb, rb, db⟩ := (show ObjOk X.prog X.w H s.heap b (.dK ls) from I.hok b _ hb)
  have hit : ∀ p ∈ ks, ∃ w, valV ls p.1 = some w ∧ SameD H n p.2 w := fun p hp => by
    obtain ⟨i, hi, hip⟩ := List.getElem_of_mem hp
    have hv : valV ks p.1 = some p.2 := valV_nd (i := i) nd1 (by rw [List.getElem?_eq_getElem hi, hip])
    rcases k1 p.1 with ⟨_, z⟩ | ⟨d, w1, e1, e2, e3⟩
    · rw [hv] at z; cases z
    · rw [hv] at e2
      cases e2
      rcases k2 p.1 with ⟨z, _⟩ | ⟨d', w2, f1, f2, f3⟩
      · rw [e1] at z; cases z
      · rw [e1] at f1
        cases f1
        exact ⟨w2, f2, d, Nat.le_trans (lkp_depth e1) hn, e3, f3⟩
  refine PySem.W.rcP_dicts (knd := mixKind X.prog X.w) (r := true) ya yb da db hu (fun _ => hits_run ih rb ra hit) E Q ?_
  have e : va.length = vb.length := by rw [← ra.length, ← rb.length, l1, l2]
  rw [show (va.length == vb.length && true) = true by rw [e]; simp]
  exact q
theorem all_true {n : Nat} : ((List.range n).all fun _ => true) = true := List.all_eq_true.mpr fun _ _ => rfl
theorem eqQ_run (I : Inv X pins σ H s) : ∀ (n : Nat) (A : Around), A.units + n < cLine → ∀ (x y : V) (v u : Value), SameD H n x y → RelV x v → RelV y u → EqP X.prog X.w A s v u true := by
  intro n
  induction n with
  | zero =>
    intro A hu x y v u h rx ry
    obtain ⟨d, hd, h1, h2⟩ := h
    have flat : x = y ∧ flatB x = true := by
      cases h1 with
      | non => cases h2; exact ⟨rfl, rfl⟩
      | bl b => cases h2; exact ⟨rfl, rfl⟩
      | int i => cases h2; exact ⟨rfl, rfl⟩
      | str x => cases h2; exact ⟨rfl, rfl⟩
      | lst _ _ => exact absurd hd (by simp [PyData.depth])
      | tup _ _ => exact absurd hd (by simp [PyData.depth])
      | dic _ _ _ => exact absurd hd (by simp [PyData.depth])
    obtain ⟨rfl, f⟩ := flat
    exact (eqAt_same rx ry f).eqP
  | succ n ihn =>
    intro A hu x y v u h rx ry
    obtain ⟨d, hd, h1, h2⟩ := h
    have ih := ihn A.in1 (by show A.units + 1 + n < cLine; omega)
    have refs : ∀ {a b : Addr}, x = .ref a → y = .ref b → (∀ (E Q : Value → Shared → Prop), Q (.bool true) s → wpAny (model X.prog X.w) A (richCompare .Eq v u) Q E s) → EqP X.prog X.w A s v u true := fun {a b} ex ey step => by
      subst ex ey
      cases (show v = Value.ref a from rx)
      cases (show u = Value.ref b from ry)
      by_cases e : a = b
      · subst e
        exact (SeqAt.EqAt.same _).eqP
      · exact SeqAt.eqP_refs e step
    cases d with
    | none => cases h1; cases h2; exact (eqAt_same rx ry rfl).eqP
    | bool b => cases h1; cases h2; exact (eqAt_same rx ry rfl).eqP
    | int i => cases h1; cases h2; exact (eqAt_same rx ry rfl).eqP
    | str z => cases h1; cases h2; exact (eqAt_same rx ry rfl).eqP
    | list ds =>
      have hd' : PyData.depthAll ds ≤ n := by simp only [PyData.depth] at hd; omega
      obtain ⟨a, xs, rfl, ha, da⟩ := dq_list h1
      obtain ⟨b, ys, rfl, hb, db⟩ := dq_list h2
      refine refs rfl rfl fun E Q q => ?_
      cases (show v = Value.ref a from rx)
      cases (show u = Value.ref b from ry)
      obtain ⟨us, r1, p1, _⟩ := I.list (SqL.of ha)
      obtain ⟨ws, r2, p2, _⟩ := I.list (SqL.of hb)
      have hp := pairD_of hd' da db
      have hsz : us.toArray.size = ws.toArray.size := by
        rw [List.size_toArray, List.size_toArray, ← r1.length, ← r2.length]
        exact Paired.length hp
      refine SeqAt.rcP_lists (e := fun _ => true) p1.isList p2.isList hsz (by omega) (fun j h1 h2 => ?_) E Q ?_
      · have k := items_run ih hp r1 r2 j (by simpa using h1) (by simpa using h2)
        simpa using k
      · rw [all_true]
        exact q
    | tuple ds =>
      have hd' : PyData.depthAll ds ≤ n := by simp only [PyData.depth] at hd; omega
      obtain ⟨a, xs, rfl, ha, da⟩ := dq_tup h1
      obtain ⟨b, ys, rfl, hb, db⟩ := dq_tup h2
      refine refs rfl rfl fun E Q q => ?_
      cases (show v = Value.ref a from rx)
      cases (show u = Value.ref b from ry)
      obtain ⟨us, r1, p1, _⟩ := I.tuple (SqT.of ha)
      obtain ⟨ws, r2, p2, _⟩ := I.tuple (SqT.of hb)
      have hp := pairD_of hd' da db
      have hsz : us.toArray.size = ws.toArray.size := by
        rw [List.size_toArray, List.size_toArray, ← r1.length, ← r2.length]
        exact Paired.length hp
      refine PySem.SeqAt.rcIn_tuples (e := fun _ => true) p1 p2 (by omega) (fun j h1 h2 => ?_) ?_
      · have k := items_run ih hp r1 r2 j (by simpa using h1) (by simpa using h2)
        have k' : EqP X.prog X.w A.in1 s us.toArray[j] ws.toArray[j] true := by simpa using k
        exact k'
      · rw [all_true, hsz]
        simpa using q
    | dict kvs =>
      have hd' : PyData.depthKv kvs ≤ n := by simp only [PyData.depth] at hd; omega
      obtain ⟨a, _, ex, _⟩ := dq_dict h1
      obtain ⟨b, _, ey, _⟩ := dq_dict h2
      exact refs ex ey fun E Q q => rcQ_dict I (by omega) ih hd' h1 h2 rx ry E Q q
end
/-! ### != -/
section
open MeetsSeq MeetsSeq2 MeetsSeq3
variable {prog : Program} {w : World}
/-- two lists all of whose items are equal, from the i-th on -/
theorem neL_loop {l b : Addr} {us ws : Array Value} {n n2 : Nat} {dd dd2 : Option Addr} {sl sl2 : Array (Option Value)} (hsz : us.size = ws.size) : ∀ (m i : Nat), us.size - i = m → MeetsIn prog w (Builtin.«list.__eq__.loop» ⟨[.ref l, .ref b, rawInt i, rawInt 3], []⟩)
      (fun A R s => s.heap.get? l = some { cls := .type "list", dict := dd, data := .seq us n, slots := sl } ∧ s.heap.get? b = some { cls := .type "list", dict := dd2, data := .seq ws n2, slots := sl2 } ∧
        (∀ j (h1 : j < us.size) (h2 : j < ws.size), EqP prog w A.in1 s us[j] ws[j] true) ∧ R (.ok (.ret (.bool false))) s) := by
  intro m
  induction m with
  | zero =>
    rintro i hm A R ⟨hp, g, d, tk, os⟩ ⟨ea, eb, _, fin⟩
    have o1 : us[((i : Nat) : Int).toNat]? = none := by simp; omega
    have o2 : ws[((i : Nat) : Int).toNat]? = none := by simp; omega
    wp_walk using wpAny_loadPart' ea, wpAny_loadPart' eb
    rw [o1, o2]
    wp_walk using wpAny_loadPart' ea, wpAny_loadPart' eb
    show R (.ok (.ret (.bool (us.size != ws.size)))) _
    rw [hsz, show (ws.size != ws.size) = false by simp]
    exact fin
  | succ m ih =>
    rintro i hm A R ⟨hp, g, d, tk, os⟩ ⟨ea, eb, each, fin⟩
    have i1 : i < us.size := by omega
    have i2 : i < ws.size := by omega
    have o1 : us[((i : Nat) : Int).toNat]? = some us[i] := by simp [i1]
    have o2 : ws[((i : Nat) : Int).toNat]? = some ws[i] := by simp [i2]
    wp_walk using wpAny_loadPart' ea, wpAny_loadPart' eb
    rw [o1, o2]
    refine wpAny_bind (each i i1 i2 _ _ ?_)
    wp_walk
    rw [show ((i : Int) + 1) = ((i + 1 : Nat) : Int) by omega]
    refine ⟨plainId_quiet plain_eq_loop _, codeAny_builtin entry_eq_loop ?_⟩
    rw [Around.under_plainId plain_eq_loop _]
    exact ih (i + 1) (by omega) A R _ ⟨ea, eb, each, fin⟩
theorem neL {l b : Addr} {us ws : Array Value} {n n2 : Nat} {dd dd2 : Option Addr} {sl sl2 : Array (Option Value)} (hsz : us.size = ws.size) : MeetsIn prog w (Builtin.«list.__ne__» ⟨[.ref l, .ref b], []⟩)
      (fun A R s => s.heap.get? l = some { cls := .type "list", dict := dd, data := .seq us n, slots := sl } ∧ s.heap.get? b = some { cls := .type "list", dict := dd2, data := .seq ws n2, slots := sl2 } ∧
        (∀ j (h1 : j < us.size) (h2 : j < ws.size), EqP prog w A.in1 s us[j] ws[j] true) ∧ R (.ok (.ret (.bool false))) s) := by
  rintro A R ⟨hp, g, d, tk, os⟩ ⟨ea, eb, each, fin⟩
  have f3 := AutoSeq1.sub_list_list
  have hne : ¬ (us.size != ws.size) = true := by simp [hsz]
  wp_walk using wpAny_loadPart' ea, wpAny_loadPart' eb
  refine ⟨plainId_quiet plain_eq_loop _, codeAny_builtin entry_eq_loop ?_⟩
  rw [Around.under_plainId plain_eq_loop _]
  exact neL_loop hsz _ 0 rfl A R _ ⟨ea, eb, each, fin⟩
theorem rneL {A : Around} {s : Shared} {l b : Addr} {us ws : Array Value} (hl : s.heap.IsList l us) (hb : s.heap.IsList b ws) (hsz : us.size = ws.size) (hu : A.units < cLine)
    (each : ∀ j (h1 : j < us.size) (h2 : j < ws.size), EqP prog w A.in1 s us[j] ws[j] true) {E Q : Value → Shared → Prop} (q : Q (.bool false) s) : wpAny (model prog w) A (richCompare .NotEq (.ref l) (.ref b)) Q E s := by
  obtain ⟨⟨c1, d1, t1, s1⟩, e1, k1, n1, m1⟩ := hl
  obtain ⟨⟨c2, d2, t2, s2⟩, e2, k2, n2, m2⟩ := hb
  simp only at k1 m1 k2 m2
  subst k1 m1 k2 m2
  exact wpAny_richCompare_same_room (T := "list") (op := .NotEq) ⟨_, e1, rfl⟩ ⟨_, e2, rfl⟩ F.slot_list_ne (call_meetsIn F.slot_list_ne ⟨_, e1, rfl⟩ F.entry_list_ne (F.args_list_ne_2 _ _) (neL hsz)
    ⟨e1, e2, each, show Value.bool false ≠ Value.notImplemented ∧ Q (.bool false) s from ⟨(fun x => nomatch x), q⟩⟩) hu
end
section
variable {X : Cx}
def rEqQ : R2 := fun x y H Q => ∃ d, PyData.depth d ≤ 60 ∧ Dq H x d ∧ Dq H y d ∧ Q (.bl true) H
def rNeQ : R2 := fun x y H Q => ∃ ds, PyData.depthAll ds ≤ 60 ∧ Dq H x (.list ds) ∧ Dq H y (.list ds) ∧ Q (.bl false) H
/-- a != b, two lists that read as the same -/
theorem op_neQ (hu : X.A.units + 64 < cLine) : OpR X (compareOp .NotEq) rNeQ := by
  intro pins s σ H x y v u Q I rx ry h
  obtain ⟨ds, dp, h1, h2, q⟩ := h
  obtain ⟨a, xs, rfl, ha, da⟩ := dq_list h1
  obtain ⟨b, ys, rfl, hb, db⟩ := dq_list h2
  cases (show v = Value.ref a from rx)
  cases (show u = Value.ref b from ry)
  obtain ⟨us, r1, p1, _⟩ := I.list (SqL.of ha)
  obtain ⟨ws, r2, p2, _⟩ := I.list (SqL.of hb)
  have hp := pairD_of dp da db
  have hsz : us.toArray.size = ws.toArray.size := by
    rw [List.size_toArray, List.size_toArray, ← r1.length, ← r2.length]
    exact Paired.length hp
  have ih := eqQ_run I 60 X.A.in1 (by show X.A.units + 1 + 60 < cLine; omega)
  refine rneL p1.isList p2.isList hsz (by omega) (fun j k1 k2 => ?_) ⟨.bl false, H, I, rfl, q⟩
  have k := items_run ih hp r1 r2 j (by simpa using k1) (by simpa using k2)
  simpa using k
end
end VL

set_option Elab.async false
set_option linter.all false
set_option maxRecDepth 100000
set_option maxHeartbeats 4000000
namespace VL
open PySem PySem.Spec PyProof.Rows L2

def top (i : Nat) : Stmt := PySem.Challenge.pw_viewloom_k63_clicks.main.body.getD i (.Pass ⟨0, 0, 0, 0⟩)
abbrev s__wall : Stmt := top 0
abbrev s_walk : Stmt := top 2
abbrev s_kids_in : Stmt := top 3
abbrev s_find_node : Stmt := top 4
abbrev s_nodes_on_path : Stmt := top 6
abbrev s_is_disabled : Stmt := top 7
abbrev s_attribute_in : Stmt := top 8
abbrev s_copied : Stmt := top 10
abbrev s_copy_of : Stmt := top 11
abbrev s_kind_of_control : Stmt := top 14
abbrev s_open_values : Stmt := top 15
abbrev s_is_option : Stmt := top 16
abbrev s_value_of_option : Stmt := top 17
abbrev s_bound_text : Stmt := top 18
abbrev s_shown_for : Stmt := top 19
abbrev s_Controls___init__ : Stmt := inClass (top 20) 0
abbrev s_Controls___len__ : Stmt := inClass (top 20) 1
abbrev s_Controls___contains__ : Stmt := inClass (top 20) 2
abbrev s_Controls_settle : Stmt := inClass (top 20) 3
abbrev s_Controls_settled : Stmt := inClass (top 20) 4
abbrev s_Controls_settle_select : Stmt := inClass (top 20) 5
abbrev s_Controls_shown : Stmt := inClass (top 20) 6
abbrev s_Controls_show : Stmt := inClass (top 20) 7
abbrev s_Controls_record_of : Stmt := inClass (top 20) 8
abbrev s_Controls_is_settled : Stmt := inClass (top 20) 9
abbrev s_Controls_fork : Stmt := inClass (top 20) 10
abbrev s_send : Stmt := top 22
abbrev s_settle : Stmt := top 23
abbrev s_click : Stmt := top 24
abbrev s_active_part : Stmt := top 25
abbrev s_click_box : Stmt := top 26
abbrev s_is_box : Stmt := top 27
abbrev s_choose_option : Stmt := top 28
abbrev s_set_to : Stmt := top 29
abbrev s_can_prevent : Stmt := top 32
abbrev s_copied_names : Stmt := top 34
abbrev s_Rehearsal___init__ : Stmt := inClass (top 36) 0
abbrev s_Rehearsal_controls : Stmt := inClass (top 36) 1
abbrev s_Rehearsal_send_event : Stmt := inClass (top 36) 2
abbrev s__law_rows : Stmt := top 38
abbrev s__law_attributes : Stmt := top 39
abbrev s__law_nodes : Stmt := top 40
abbrev s__law_document : Stmt := top 41
abbrev s__law_all : Stmt := top 42
abbrev s__law_attribute : Stmt := top 43
abbrev s__law_kind : Stmt := top 44
abbrev s__law_shut : Stmt := top 45
abbrev s__law_bound : Stmt := top 46
abbrev s__law_part : Stmt := top 47
abbrev s__law_select : Stmt := top 48
abbrev s__law_due : Stmt := top 49
abbrev s_law : Stmt := top 50
abbrev t_CONTROLS : List V := [(V.str "input"), (V.str "area"), (V.str "select")]
abbrev t_EVENTS_TO_THE_END : List V := [(V.str "input"), (V.str "change")]
structure Ad where
  u0 : Unit
  Controls : Addr
  Rehearsal : Addr
structure Txt (K : PySem.W.Frag) (w : World) (mg : Str → Option Value) (C : Ad) : Prop where
  g_Controls : GV mg "Controls" (.ref C.Controls)
  cl_Controls : Cls K C.Controls
  n_Controls_known : NoAttr K C.Controls "known"
  g_Rehearsal : GV mg "Rehearsal" (.ref C.Rehearsal)
  cl_Rehearsal : Cls K C.Rehearsal
  n_Rehearsal_document : NoAttr K C.Rehearsal "document"
  n_Rehearsal_panel : NoAttr K C.Rehearsal "panel"
  n_Rehearsal_sent : NoAttr K C.Rehearsal "sent"
  n_Rehearsal_prevented : NoAttr K C.Rehearsal "prevented"
  z_any : mg "any" = none
  z_dict : mg "dict" = none
  z_int : mg "int" = none
  z_isinstance : mg "isinstance" = none
  z_len : mg "len" = none
  z_list : mg "list" = none
  z_property : mg "property" = none
  z_range : mg "range" = none
  z_reversed : mg "reversed" = none
  z_str : mg "str" = none
  z_tuple : mg "tuple" = none
  g_CONTROLS : ∃ a, GV mg "CONTROLS" (.ref a) ∧ (∀ H, SqT K H a t_CONTROLS) ∧ WrT K a t_CONTROLS
  g_EVENTS_TO_THE_END : ∃ a, GV mg "EVENTS_TO_THE_END" (.ref a) ∧ (∀ H, SqT K H a t_EVENTS_TO_THE_END) ∧ WrT K a t_EVENTS_TO_THE_END
  d_walk : DefE K mg "walk" s_walk ["document"]
  d_kids_in : DefE K mg "kids_in" s_kids_in ["node"]
  d_find_node : DefE K mg "find_node" s_find_node ["document", "number"]
  d_nodes_on_path : DefE K mg "nodes_on_path" s_nodes_on_path ["document", "number"]
  d_is_disabled : DefE K mg "is_disabled" s_is_disabled ["document", "number"]
  d_attribute_in : DefE K mg "attribute_in" s_attribute_in ["node", "name"]
  d_copied : DefE K mg "copied" s_copied ["value"]
  d_copy_of : DefE K mg "copy_of" s_copy_of ["value"]
  d_kind_of_control : DefE K mg "kind_of_control" s_kind_of_control ["node"]
  d_open_values : DefE K mg "open_values" s_open_values ["document", "select"]
  d_is_option : DefE K mg "is_option" s_is_option ["node"]
  d_value_of_option : DefE K mg "value_of_option" s_value_of_option ["node"]
  d_bound_text : DefE K mg "bound_text" s_bound_text ["node", "kind"]
  d_shown_for : DefE K mg "shown_for" s_shown_for ["text", "kind"]
  i_Controls : InitE K mg "Controls" C.Controls "Controls.__init__" s_Controls___init__ ["self"]
  m_Controls___len__ : MethE K C.Controls "__len__" "Controls.__len__" s_Controls___len__ ["self"]
  m_Controls___contains__ : MethE K C.Controls "__contains__" "Controls.__contains__" s_Controls___contains__ ["self", "number"]
  m_Controls_settle : MethE K C.Controls "settle" "Controls.settle" s_Controls_settle ["self", "document"]
  m_Controls_settled : MethE K C.Controls "settled" "Controls.settled" s_Controls_settled ["self", "node", "kind", "before"]
  m_Controls_settle_select : MethE K C.Controls "settle_select" "Controls.settle_select" s_Controls_settle_select ["self", "document", "node"]
  m_Controls_shown : MethE K C.Controls "shown" "Controls.shown" s_Controls_shown ["self", "number"]
  m_Controls_show : MethE K C.Controls "show" "Controls.show" s_Controls_show ["self", "number", "value"]
  d_send : DefE K mg "send" s_send ["root", "number", "event", "details"]
  d_settle : DefE K mg "settle" s_settle ["root"]
  d_click : DefE K mg "click" s_click ["root", "number"]
  d_active_part : DefE K mg "active_part" s_active_part ["root", "number"]
  d_click_box : DefE K mg "click_box" s_click_box ["root", "number", "box"]
  d_is_box : DefE K mg "is_box" s_is_box ["root", "number"]
  d_choose_option : DefE K mg "choose_option" s_choose_option ["root", "number"]
  d_set_to : DefE K mg "set_to" s_set_to ["root", "number", "kind", "text"]
  d_can_prevent : DefE K mg "can_prevent" s_can_prevent ["event"]
  d_copied_names : DefE K mg "copied_names" s_copied_names ["environment"]
  i_Rehearsal : InitKE K mg "Rehearsal" C.Rehearsal "Rehearsal.__init__" s_Rehearsal___init__ ["self", "document", "prevented"] 2 ["prevented"]
  p_Rehearsal_controls : PropE K C.Rehearsal "controls" "Rehearsal.controls" s_Rehearsal_controls
  m_Rehearsal_send_event : MethE K C.Rehearsal "send_event" "Rehearsal.send_event" s_Rehearsal_send_event ["self", "number", "event", "details"]
  d__law_rows : DefE K mg "_law_rows" s__law_rows ["script", "count"]
  d__law_attributes : DefE K mg "_law_attributes" s__law_attributes ["row"]
  d__law_nodes : DefE K mg "_law_nodes" s__law_nodes ["rows", "world", "depth"]
  d__law_document : DefE K mg "_law_document" s__law_document ["rows", "seed", "many"]
  d__law_all : DefE K mg "_law_all" s__law_all ["nodes", "around"]
  d__law_attribute : DefE K mg "_law_attribute" s__law_attribute ["node", "name"]
  d__law_kind : DefE K mg "_law_kind" s__law_kind ["node"]
  d__law_shut : DefE K mg "_law_shut" s__law_shut ["node", "around"]
  d__law_bound : DefE K mg "_law_bound" s__law_bound ["node"]
  d__law_part : DefE K mg "_law_part" s__law_part ["node", "around"]
  d__law_select : DefE K mg "_law_select" s__law_select ["around", "option"]
  d__law_due : DefE K mg "_law_due" s__law_due ["node", "around", "shown", "prevented"]
end VL

set_option Elab.async false
set_option linter.all false
set_option pp.maxSteps 700
set_option maxRecDepth 100000
set_option maxHeartbeats 4000000
namespace VL
open PySem PySem.Spec PyProof.Rows L2
def spKids : Sp := fun vs H Q _ => ∃ (v : V) (d : Dn) (G : Hp), vs = [v] ∧ Same G H ∧ NdA G v d ∧ ∀ p xs H', Same H H' → H' p = some (.tup xs) → NdAs G xs d.kids → Q (.ref p) H'
def wBody : Stmt → List Stmt
  | .While _ b _ _ => b
  | _ => []
def wTest : Stmt → Expr
  | .While t _ _ _ => t
  | _ => .Name "x" ⟨0, 0, 0, 0⟩
theorem paired_app {α β : Type} {G : α → β → Prop} : ∀ {l₁ m₁ : List α} {l₂ m₂ : List β}, Paired G l₁ l₂ → Paired G m₁ m₂ → Paired G (l₁ ++ m₁) (l₂ ++ m₂)
  | _, _, _, _, .nil, h => h
  | _, _, _, _, .cons a b, h => .cons a (paired_app b h)
/-- walk(document), the document told in a part of the heap -/
def spWalkG : VG.SpW := fun vs H N Z Yl En => ∃ (a : Addr) (xs : List V) (ks : List Dn) (G : Hp), vs = [.ref a] ∧ Same G H ∧ G a = some (.tup xs) ∧ NdAs G xs ks ∧ (itS 1 ks).length ≤ 1000 ∧ N = (itS 1 ks).length ∧ Z = zW G a ks ∧ Yl = yW G (itS 1 ks) ∧ En = eW G (itS 1 ks)
section
variable {P : Program} {w : World} {K : PySem.W.Frag} {mg : Str → Option Value} {base : Heap} {C : Ad}
theorem sc_kids_in : FnScope ["node"] ["node"] (defScope s_kids_in) := ⟨rfl, rfl, rfl, by decide +kernel, rfl, by decide +kernel, by decide +kernel⟩
theorem ok_kids (T : Txt K w mg C) : Cal P w K mg base 1 "kids_in" spKids := by
  refine cal_of T.d_kids_in sc_kids_in (fun vs H Q E h => ?_) (fun f cdv A outer s H vs Q E hr h => ?_)
  · obtain ⟨v, d, G, rfl, _⟩ := h
    rfl
  · obtain ⟨v, d, G, rfl, sG, hd, q⟩ := h
    refine ⟨_, (pss_cons (ps_if (pt_cmpR op_eq (pe_ix ix_tup (pv 0) pe_int (fun _ _ => rfl)) pe_str (nomark _)) (pss_one (ps_ret (pe_ix ix_tup (pv 0) pe_int (fun _ _ => rfl)))) pss_nil) (pss_one (ps_ret (pe_tup pa_nil)))), ?_⟩
    cases hd with
    | tx h1 =>
      refine ⟨_, rfl, _, _, _, _, rfl, rfl, SqT.of (sG _ _ h1), rfl, rfl, _, rfl, ite2 (fun q => absurd (of_decide_eq_true q) (by decide)) (fun _ => ?_)⟩
      exact ⟨by show 0 ≤ sizeLine; decide, fun p hp => q p [] _ (Sm.new hp) upd_same .nil⟩
    | el h1 ha hk hs =>
      refine ⟨_, rfl, _, _, _, _, rfl, rfl, SqT.of (sG _ _ h1), rfl, rfl, _, rfl, ite2 (fun _ => ?_) (fun q => absurd (decide_eq_true rfl) q)⟩
      exact ⟨_, rfl, _, _, _, _, rfl, rfl, SqT.of (sG _ _ h1), rfl, q _ _ _ (Same.refl _) (sG _ _ hk) hs⟩
theorem sc_walk : GScope ["document", "node", "waiting", "level", "kid"] ["document"] (defScope s_walk) := ⟨rfl, rfl, rfl, by decide +kernel, rfl, by decide +kernel, by decide +kernel⟩
theorem ok_walk (T : Txt K w mg C) : VG.Wlk P w K mg base 3 "walk" spWalkG := by
  have Gkids_in := ok_kids (P := P) (base := base) T
  refine VG.wlk_of (Nm := ["document", "node", "waiting", "level", "kid"]) T.d_walk sc_walk rfl (fun n f cdv => rfl) ?_
  rintro vs Hc N Z Yl En ⟨a, xs, ks, H, rfl, sG, ha, hn, hN, rfl, rfl, rfl, rfl⟩
  refine ⟨rfl, fun H' s => ⟨rfl, Same.trans sG s⟩, fun i σp H x σg Ho h => h.1, fun f cdv Aw outer s hr => ?_⟩
  have B1' : ∀ s0 H0, PS (VG.re (VG.gX P w K mg base ["document", "node", "waiting", "level", "kid"] "walk" (defScope s_walk) f cdv Aw outer s Hc) s0 H0) ((defBody s_walk).getD 0 (.Pass ⟨0, 0, 0, 0⟩)) _ := fun s0 H0 => (ps_setLc (i := 2) (own := [("node", 1)]) (g := gName 1) (tt := tYes) rfl sc_walk.nd rfl rfl (sw_true rfl rfl rfl (by decide +kernel)) (RT.pi_revA (by rfl) T.z_reversed (pv 0)) (blkOk_by (N := ["document", "node", "waiting", "level", "kid"]) (sc := (defScope s_walk)) (by decide +kernel)) (fun _ _ _ _ _ => pg_name (i := 1) sc_walk.nd rfl (Or.inl rfl)) (fun _ _ _ _ _ => pts_nil) (fun _ _ _ _ _ => (pe_tup (pa_cons pe_int (pa_cons (pv 1) pa_nil)))))
  have B1 := ps_const B1' s Hc (fun _ _ => rfl)
  clear B1'
  have B0' : ∀ s0 H0, PT (VG.re (VG.gX P w K mg base ["document", "node", "waiting", "level", "kid"] "walk" (defScope s_walk) f cdv Aw outer s Hc) s0 H0) (wTest ((defBody s_walk).getD 1 (.Pass ⟨0, 0, 0, 0⟩))) _ := fun s0 H0 => (pt_truth (pv 2) (fun _ => rfl))
  have B0 := pt_const B0' s Hc (fun _ _ => rfl)
  clear B0'
  have B2' : ∀ s0 H0, PS (VG.re (VG.gX P w K mg base ["document", "node", "waiting", "level", "kid"] "walk" (defScope s_walk) f cdv Aw outer s Hc) s0 H0) ((wBody ((defBody s_walk).getD 1 (.Pass ⟨0, 0, 0, 0⟩))).getD 0 (.Pass ⟨0, 0, 0, 0⟩)) _ := fun s0 H0 => (ps_asg (pe_bm0 PySem.F.plainAttrs_list PySem.F.slot_list_pop PySem.F.type_list_pop mt_pop (pv 2)) (pg_tup rfl (pgs_cons (pg_name (i := 3) sc_walk.nd rfl (Or.inr rfl)) (pgs_cons (pg_name (i := 1) sc_walk.nd rfl (Or.inl rfl)) pgs_nil))))
  have B2 := ps_const B2' s Hc (fun _ _ => rfl)
  clear B2'
  have B3' : ∀ s0 H0, PS (VG.re (VG.gX P w K mg base ["document", "node", "waiting", "level", "kid"] "walk" (defScope s_walk) f cdv Aw outer s Hc) s0 H0) ((wBody ((defBody s_walk).getD 1 (.Pass ⟨0, 0, 0, 0⟩))).getD 2 (.Pass ⟨0, 0, 0, 0⟩)) _ := fun s0 H0 => (ps_aug (i := 2) sc_walk.nd rfl (Or.inl rfl) (pe_lc (own := [("kid", 4)]) (g := gName 4) (tt := tYes) rfl sc_walk.nd (RT.pi_revA (by rfl) T.z_reversed (pe_c Gkids_in hr (by decide) (by rfl) (pa_cons (pv 1) pa_nil))) (blkOk_by (N := ["document", "node", "waiting", "level", "kid"]) (sc := (defScope s_walk)) (by decide +kernel)) (fun _ _ _ _ _ => pg_name (i := 4) sc_walk.nd rfl (Or.inl rfl)) (fun _ _ _ _ _ => pts_nil) (fun _ _ _ _ _ => (pe_tup (pa_cons (pe_op op_add (pv 3) pe_int) (pa_cons (pv 4) pa_nil))))) iop_ext)
  have B3 := ps_const B3' s Hc (fun _ _ => rfl)
  clear B3'
  refine ⟨_, _, _, _, _, fun i σp H' σ Hg => hW H a ks i σp H' σ Hg, B1, B0, B2, fun s0 H0 => (pe_tup (pa_cons (pv 3) (pa_cons (pv 1) pa_nil))), B3, ?_, ?_, ?_⟩
  · rintro σ H1 Hg ⟨rfl, s1⟩ sg
    have s2 := Same.trans s1 sg
    have kl := itS_len 1 ks
    have nl := hn.len
    refine ⟨_, rfl, a, xs, rfl, .inr ⟨SqT.of (s2 _ _ ha), fun D hD => ?_⟩⟩
    refine lc_it walk_revT (fun i H' => Same Hg H' ∧ ∃ ws, H' D = some (.lst ws) ∧ StA H H' ws ((ks.reverse.take i).map fun d => (1, d))) ⟨Sm.new hD, [], upd_same, .nil⟩ (fun i H' _ z => SqT.of (z.1 _ _ (s2 _ _ ha))) ?_ ?_
    · rintro i x H' H'' hi ⟨s3, ws, hw, hst⟩ ⟨rfl, hx⟩
      have hx' : xs.reverse[i]? = some x := by
        rw [List.getElem?_reverse hi]
        exact hx
      obtain ⟨d, hd, hxd⟩ := hn.rev.get hx'
      refine ⟨rfl, _, rfl, by show 2 ≤ sizeLine; decide, fun t ht => ?_⟩
      have wl : ws.length ≤ 1000 := by
        rw [hst.len, List.length_map, List.length_take, List.length_reverse]
        omega
      have nD : D ≠ t := ne_of_none hw ht
      refine ⟨ws, by rw [upd_ne nD]; exact hw, by show ws.length < _; exact Nat.lt_of_le_of_lt wl (by decide), fun b o e => ?_, ws ++ [.ref t], upd_same, ?_⟩
      · rw [upd_ne (ne_of_none e hD), upd_ne (ne_of_none (s3 _ _ e) ht)]
        exact s3 _ _ e
      · rw [List.take_add_one, hd, List.map_append]
        refine StA.snoc (hst.keep fun b zs e => ?_) (by rw [upd_ne (Ne.symm nD)]; exact upd_same) hxd
        rw [upd_ne (fun z => by rw [z, hw] at e; cases e), upd_ne (ne_of_none e ht)]
        exact e
    · rintro H' ⟨s3, ws, hw, hst⟩
      have e : ks.reverse.take xs.length = ks.reverse := List.take_of_length_le (by rw [List.length_reverse, nl]; exact Nat.le_refl _)
      rw [e] at hst
      refine ⟨D, ws, _, _, _, _, rfl, s1, Same.free s2 hD, hw, hst, ?_, fun b o e _ => s3 _ _ (sg _ _ e), fun z => absurd z (by decide), fun _ => Same.free sg hD⟩
      have := rest_kids 1 ks []
      rw [List.nil_append] at this
      rw [this]
      simp [rest]
  · rintro i σ H1 Hg ⟨wl, ws, st, lv, d, v, y4, rfl, s1, w0, hw, hst, hv, hi, hdr⟩ sg
    have s2 := Same.trans s1 sg
    have lt : (itS 1 ks).length - (i + 1) = (itS (lv + 1) d.kids).length + (rest st).length := by
      rw [← List.length_drop, hdr, List.length_append]
    have kl := itS_len (lv + 1) d.kids
    have rl := rest_len st
    have wsl := hst.len
    refine ⟨_, rfl, _, rfl, v, d, H, rfl, s2, hv, fun p zs H2 s3 hp hz => ?_⟩
    have zl := hz.len
    refine ⟨p, zs, rfl, .inr ⟨SqT.of hp, fun D hD => ?_⟩⟩
    refine lc_it walk_revT (fun j H' => Same H2 H' ∧ ∃ us, H' D = some (.lst us) ∧ StA H H' us ((d.kids.reverse.take j).map fun d => (lv + 1, d))) ⟨Sm.new hD, [], upd_same, .nil⟩ (fun j H' _ z => SqT.of (z.1 _ _ hp)) ?_ ?_
    · rintro j x H' H'' hj ⟨s4, us, hu, hsu⟩ ⟨rfl, hx⟩
      have hx' : zs.reverse[j]? = some x := by
        rw [List.getElem?_reverse hj]
        exact hx
      obtain ⟨e, he, hxe⟩ := hz.rev.get hx'
      refine ⟨rfl, _, rfl, _, _, rfl, rfl, _, rfl, by show 2 ≤ sizeLine; decide, fun t ht => ?_⟩
      have ul : us.length ≤ 1000 := by
        rw [hsu.len, List.length_map, List.length_take, List.length_reverse]
        omega
      have nD : D ≠ t := ne_of_none hu ht
      refine ⟨us, by rw [upd_ne nD]; exact hu, by show us.length < _; exact Nat.lt_of_le_of_lt ul (by decide), fun b o e => ?_, us ++ [.ref t], upd_same, ?_⟩
      · rw [upd_ne (ne_of_none e hD), upd_ne (ne_of_none (s4 _ _ e) ht)]
        exact s4 _ _ e
      · rw [List.take_add_one, he, List.map_append]
        refine StA.snoc (hsu.keep fun b zs e => ?_) (by rw [upd_ne (Ne.symm nD)]; exact upd_same) hxe
        rw [upd_ne (fun z => by rw [z, hu] at e; cases e), upd_ne (ne_of_none e ht)]
        exact e
    · rintro H' ⟨s4, us, hu, hsu⟩
      have e : d.kids.reverse.take zs.length = d.kids.reverse := List.take_of_length_le (by rw [List.length_reverse, zl]; exact Nat.le_refl _)
      rw [e] at hsu
      have hw' : H' wl = some (.lst ws) := s4 _ _ (s3 _ _ (sg _ _ hw))
      have ul := hsu.len
      rw [List.length_map, List.length_reverse] at ul
      refine ⟨wl, D, ws, us, rfl, rfl, hw', hu, by show ws.length + us.length ≤ _; exact Nat.le_trans (show ws.length + us.length ≤ 1000 by omega) (by decide), ?_⟩
      have tk : ∀ b xs, H1 b = some (.tup xs) → upd H' wl (.lst (ws ++ us)) b = some (.tup xs) := fun b xs e => by
        rw [upd_ne (fun z => by rw [z, hw] at e; cases e)]
        exact s4 _ _ (s3 _ _ (sg _ _ e))
      have tk' : ∀ b xs, H' b = some (.tup xs) → upd H' wl (.lst (ws ++ us)) b = some (.tup xs) := fun b xs e => by
        rw [upd_ne (fun z => by rw [z, hw'] at e; cases e)]
        exact e
      refine ⟨wl, ws ++ us, st ++ d.kids.reverse.map fun d => (lv + 1, d), _, _, _, rfl, s1, w0, upd_same, paired_app (hst.keep tk) (hsu.keep tk'), by rw [hdr, rest_kids], fun b o e ne => ?_, fun _ => rfl, fun z => by omega⟩
      rw [upd_ne ne]
      exact s4 _ _ (s3 _ _ (sg _ _ e))
  · rintro i σp H1 σ Hg ⟨wl, ws, st, y1, y3, y4, rfl, s1, w0, hw, hst, hdr, kb, c1, c2⟩
    refine ⟨_, rfl, !ws.isEmpty, .inl ⟨ws, SqL.of hw, rfl⟩, ?_⟩
    cases ws with
    | nil =>
      have : st = [] := List.eq_nil_of_length_eq_zero (by rw [← hst.len]; rfl)
      subst this
      have hl : (itS 1 ks).length ≤ i := by
        have := congrArg List.length hdr
        rw [List.length_drop] at this
        simp [rest] at this
        omega
      refine (?_ : (_ ∧ _))
      refine ⟨fun b u e z => ?_, fun Ho T => ⟨hl, wl, fun b o e ne => T.old b o e (kb b o e ne), w0, c1, c2, fun b o e => T.old b o (s1 _ _ e) (kb b o (s1 _ _ e) fun z => by rw [z, w0] at e; cases e)⟩⟩
      by_cases c : b = wl
      · rw [c, hw] at z
        cases z
      · rw [kb b u e c] at z
        cases z
    | cons w1 wr =>
      obtain ⟨ws', st', t, u, l, d, e1, rfl, hst', ht, hu⟩ := hst.last (by simp)
      rw [rest_snoc, it_eq] at hdr
      have hi : (itS 1 ks)[i]? = some (l, d) := by
        have := congrArg (fun z => z[0]?) hdr
        simpa using this
      have hdr1 : (itS 1 ks).drop (i + 1) = itS (l + 1) d.kids ++ rest st' := by
        have := congrArg List.tail hdr
        simpa [List.tail_drop] using this
      have hil : i < (itS 1 ks).length := (List.getElem?_eq_some_iff.mp hi).1
      refine (?_ : (_ ∧ _))
      rw [e1] at hw
      have nwt : t ≠ wl := fun z => by rw [z, hw] at ht; cases ht
      refine ⟨by omega, _, rfl, .inl ⟨rfl, _, SqL.of hw⟩, wl, _, .ref t, rfl, rfl, hw, by simp, t, [.int l, u], rfl, SqT.of (by rw [upd_ne nwt]; exact ht), rfl, _, _, rfl, _, _, rfl, rfl, ?_⟩
      refine ⟨_, rfl, _, rfl, by show 2 ≤ sizeLine; decide, fun q hq => ?_⟩
      have hwl : upd Hg wl (.lst (ws' ++ [V.ref t]).dropLast) wl = some (.lst ws') := by rw [List.dropLast_concat]; exact upd_same
      have hot : ∀ b o, Hg b = some o → b ≠ wl → upd Hg wl (.lst (ws' ++ [V.ref t]).dropLast) b = some o := fun b o e ne => by rw [upd_ne ne]; exact e
      generalize upd Hg wl (.lst (ws' ++ [V.ref t]).dropLast) = Hp1 at hq hwl hot ⊢
      have nwq : wl ≠ q := ne_of_none hwl hq
      have k2 : ∀ b o, Hg b = some o → b ≠ wl → upd Hp1 q (.tup [.int l, u]) b = some o := fun b o e ne => by
        rw [upd_ne (ne_of_none (hot b o e ne) hq)]
        exact hot b o e ne
      have hw2 : upd Hp1 q (.tup [.int l, u]) wl = some (.lst ws') := by rw [upd_ne nwq]; exact hwl
      have hq2 : upd Hp1 q (.tup [.int l, u]) q = some (.tup [.int l, u]) := upd_same
      generalize upd Hp1 q (.tup [.int l, u]) = H2 at k2 hw2 hq2 ⊢
      refine (?_ : (_ ∧ _))
      refine ⟨fun b u e z => ?_, fun Ho T => ?_⟩
      · by_cases c : b = wl
        · rw [c, hw2] at z
          cases z
        · rw [k2 b u (kb b u e c) c] at z
          cases z
      · have kb2 : KeptBut wl H1 Ho := fun b o e ne => T.old b o e (k2 b o (kb b o e ne) ne)
        have sm : Same H Ho := fun b o e => kb2 b o (s1 _ _ e) fun z => by rw [z, w0] at e; cases e
        refine ⟨⟨hil, wl, q, u, l, d, rfl, T.new q _ hq2 fun o z => (by cases z), hu, hi, kb2, w0, rfl, c1, c2, sm⟩, wl, ws', st', l, d, u, _, rfl, sm, w0, T.new wl _ hw2 fun o z => (by cases z), hst'.keep fun b xs e => ?_, hu, hi, hdr1⟩
        exact T.new b _ (k2 b _ e fun z => by rw [z, hw] at e; cases e) fun o z => (by cases z)
end
end VL

set_option Elab.async false
set_option linter.all false
set_option pp.maxSteps 700
set_option maxRecDepth 100000
set_option maxHeartbeats 4000000
namespace VL
open PySem PySem.Spec PyProof.Rows L2
def Dn.kind : Dn → Str
  | .tx _ _ => "text"
  | .el _ _ _ _ => "element"
theorem NdA.at {H : Hp} {v : V} {d : Dn} (h : NdA H v d) : ∃ a xs, v = .ref a ∧ H a = some (.tup (.str d.kind :: .int d.num :: xs)) := by
  cases h with
  | tx h => exact ⟨_, _, rfl, h⟩
  | el h _ _ _ => exact ⟨_, _, rfl, h⟩
theorem at_0 {x : V} {ys : List V} : atI (x :: ys) 0 = some x := by
  unfold atI ixN
  rw [if_pos (by decide), if_pos (by rw [List.length_cons]; omega)]
  rfl
theorem at_1 {x y : V} {ys : List V} : atI (x :: y :: ys) 1 = some y := by
  unfold atI ixN
  rw [if_pos (by decide), if_pos (by rw [List.length_cons, List.length_cons]; omega)]
  rfl
def DocA (H : Hp) (v : V) (ks : List Dn) : Prop := ∃ a xs, v = .ref a ∧ H a = some (.tup xs) ∧ NdAs H xs ks ∧ (itS 1 ks).length ≤ 1000
theorem DocA.same {H H' : Hp} {v : V} {ks : List Dn} (h : DocA H v ks) (s : Same H H') : DocA H' v ks := by
  obtain ⟨a, xs, e, h1, h2, h3⟩ := h
  exact ⟨a, xs, e, s _ _ h1, h2.same s, h3⟩
def findD (ks : List Dn) (n : Int) : Option (Int × Dn) := (itS 1 ks).find? fun p => decide (p.2.num = n)
def spFind : Sp := fun vs H Q _ => ∃ (v : V) (ks : List Dn) (n : Int), vs = [v, .int n] ∧ DocA H v ks ∧ (findD ks n = none → ∀ H', Same H H' → Q .non H') ∧ ∀ p u H', findD ks n = some p → NdA H u p.2 → Same H H' → Q u H'
section
variable {P : Program} {w : World} {K : PySem.W.Frag} {mg : Str → Option Value} {base : Heap} {C : Ad}
theorem sc_find_node : FnScope ["document", "number", "_", "node"] ["document", "number"] (defScope s_find_node) := ⟨rfl, rfl, rfl, by decide +kernel, rfl, by decide +kernel, by decide +kernel⟩
theorem ok_find (T : Txt K w mg C) : Cal P w K mg base 6 "find_node" spFind := by
  have Gwalk := ok_walk (P := P) (base := base) T
  refine cal_of T.d_find_node sc_find_node (fun vs H Q E h => ?_) (fun f cdv A outer s H vs Q E hr h => ?_)
  · obtain ⟨v, ks, n, rfl, _⟩ := h
    rfl
  · obtain ⟨v, ks, n, rfl, ⟨a, xs, rfl, ha, hn, hN⟩, q0, q1⟩ := h
    refine ⟨_, (pss_cons (VG.ps_forG rfl hr.hd Gwalk hr (by decide) (by rfl) (pa_cons (pv 0) pa_nil) (pg_tup rfl (pgs_cons (pg_name (i := 2) sc_find_node.nd rfl (Or.inl rfl)) (pgs_cons (pg_name (i := 3) sc_find_node.nd rfl (Or.inl rfl)) pgs_nil))) (pss_one (ps_if (pt_cmpR op_eq (pe_ix ix_tup (pv 3) pe_int (fun _ _ => rfl)) (pv 1) (nomark _)) (pss_one (ps_ret (pv 3))) pss_nil))) (pss_one (ps_ret pe_non))), ?_⟩
    refine ⟨_, rfl, _, _, _, _, ⟨a, xs, ks, _, rfl, Same.refl _, ha, hn, hN, rfl, rfl, rfl, rfl⟩, fun L hL => ?_⟩
    refine ⟨fun i σp σ H' => Same H (VG.drop L H') ∧ (∃ y2 y3, σ = [some (.ref a), some (.int n), y2, y3]) ∧ ∀ j p, j < i → (itS 1 ks)[j]? = some p → p.2.num ≠ n, fun Hf σp z => ?_, ?_, ?_⟩
    · exact ⟨by rw [VG.drop_fz z hL]; exact Same.refl _, ⟨_, _, rfl⟩, fun j p hj => absurd hj (Nat.not_lt_zero _)⟩
    · rintro i σp σ H1 x Ho Hf σg ⟨s1, ⟨y2, y3, rfl⟩, no⟩ fr ⟨hi, wl, t, u, lv, d, rfl, ht, hu, hid, kb, w0, g2, p2, i0, sm⟩ hz fz hn0
      have ed := VG.drop_fz fz hn0
      have sf := fz_same fz hn0
      obtain ⟨b, ys, rfl, hb⟩ := hu.at
      have hbf := sf _ _ (sm _ _ hb)
      refine ⟨t, [.int lv, .ref b], rfl, SqT.of (sf _ _ ht), rfl, _, _, rfl, _, _, rfl, rfl, ?_⟩
      refine ⟨_, rfl, _, _, _, _, rfl, rfl, SqT.of hbf, at_1, _, rfl, rfl, _, rfl, ite2 (fun c => ?_) (fun c => ?_)⟩
      · have c' : d.num = n := by
          have := of_decide_eq_true c
          cases this
          rfl
        refine ⟨_, rfl, q1 (lv, d) _ Hf ?_ hu (Same.trans sm sf)⟩
        rw [findD, List.find?_eq_some_iff_getElem]
        refine ⟨decide_eq_true c', i, hi, (List.getElem?_eq_some_iff.mp hid).2, fun j hj => ?_⟩
        rw [decide_eq_false (no j _ hj (List.getElem?_eq_getElem (Nat.lt_trans hj hi)))]
        rfl
      · have c' : d.num ≠ n := fun z => c (decide_eq_true (by rw [z]))
        exact ⟨fun _ _ => rfl, by rw [ed]; exact hz, by rw [ed]; exact sm, ⟨_, _, rfl⟩, fun j p hj hp => by
          rcases Nat.lt_succ_iff_lt_or_eq.mp hj with hj | rfl
          · exact no j p hj hp
          · rw [hid] at hp
            cases hp
            exact c'⟩
    · rintro i σp σ H1 Ho ⟨s1, ⟨y2, y3, rfl⟩, no⟩ fr ⟨hi, wl, kb, w0, p2, i0, sm⟩ hn0
      refine q0 ?_ Ho sm
      rw [findD, List.find?_eq_none]
      intro p hp c
      obtain ⟨j, hj, rfl⟩ := List.getElem_of_mem hp
      exact no j _ (by omega) (List.getElem?_eq_getElem hj) (of_decide_eq_true c)
end
end VL

set_option Elab.async false
set_option linter.all false
set_option pp.maxSteps 700
set_option maxRecDepth 100000
set_option maxHeartbeats 4000000
namespace VL
open PySem PySem.Spec PyProof.Rows L2
theorem cut_take {xs : List V} {k : Nat} (h : k ≤ xs.length) : cutV xs none (some (k : Int)) = xs.take k := by
  unfold cutV
  have h1 : HT.sIx xs.length 0 none = 0 := rfl
  have h2 : HT.sIx xs.length xs.length (some (k : Int)) = k := by
    rw [HT.sIx_nat]
    exact Nat.min_eq_left h
  rw [h1, h2]
  rfl
def spNodes : Sp := fun vs H Q _ => ∃ (v : V) (ks : List Dn) (n : Int), vs = [v, .int n] ∧ DocA H v ks ∧ ∀ p us H', Same H H' → H p = none → H' p = some (.lst us) → NdAs H' us (pathD ks n) → Q (.ref p) H'
section
variable {P : Program} {w : World} {K : PySem.W.Frag} {mg : Str → Option Value} {base : Heap} {C : Ad}
theorem sc_nodes_on_path : FnScope ["document", "number", "around", "level", "node", "part"] ["document", "number"] (defScope s_nodes_on_path) := ⟨rfl, rfl, rfl, by decide +kernel, rfl, by decide +kernel, by decide +kernel⟩
theorem ok_nodes (T : Txt K w mg C) : Cal P w K mg base 6 "nodes_on_path" spNodes := by
  have Gwalk := ok_walk (P := P) (base := base) T
  refine cal_of T.d_nodes_on_path sc_nodes_on_path (fun vs H Q E h => ?_) (fun f cdv A outer s H vs Q E hr h => ?_)
  · obtain ⟨v, ks, n, rfl, _⟩ := h
    rfl
  · obtain ⟨v, ks, n, rfl, ⟨a, xs, rfl, ha, hn, hN⟩, q⟩ := h
    have eI : itS 1 ks = (anS [] ks).map fun p => ((p.2.length : Int) + 1, p.1) := itS_an [] ks
    refine ⟨_, (pss_cons (ps_set (i := 2) sc_nodes_on_path.nd rfl (Or.inl rfl) (pe_lst pa_nil)) (pss_cons (VG.ps_forG rfl hr.hd Gwalk hr (by decide) (by rfl) (pa_cons (pv 0) pa_nil) (pg_tup rfl (pgs_cons (pg_name (i := 3) sc_nodes_on_path.nd rfl (Or.inl rfl)) (pgs_cons (pg_name (i := 4) sc_nodes_on_path.nd rfl (Or.inl rfl)) pgs_nil))) (pss_cons (ps_set (i := 2) sc_nodes_on_path.nd rfl (Or.inl rfl) (pe_op op_cat (pe_slice sl_list (pv 2) po_none (po_some (pe_op op_sub (pv 3) pe_int))) (pe_lst (pa_cons (pv 4) pa_nil)))) (pss_one (ps_if (pt_cmpR op_eq (pe_ix ix_tup (pv 4) pe_int (fun _ _ => rfl)) (pv 1) (nomark _)) (pss_one (ps_ret (pe_lc (own := [("part", 5)]) (g := gName 5) (tt := _) rfl sc_nodes_on_path.nd (pi_reversed (by rfl) T.z_reversed (pa_cons (pv 2) pa_nil)) (blkOk_by (N := ["document", "number", "around", "level", "node", "part"]) (sc := (defScope s_nodes_on_path)) (by decide +kernel)) (fun _ _ _ _ _ => pg_name (i := 5) sc_nodes_on_path.nd rfl (Or.inl rfl)) (fun _ _ _ _ _ => pts_one (pt_cmpR op_eq (pe_ix (ix_tupS (K := K) rfl) (pv 5) pe_int (fun _ _ => rfl)) pe_str (nomark _))) (fun _ _ _ _ _ => (pv 5))))) pss_nil)))) (pss_one (ps_ret (pe_lst pa_nil))))), ?_⟩
    refine ⟨by show 0 ≤ sizeLine; decide, fun r0 hr0 => ?_⟩
    have s0 : Same H (upd H r0 (.lst [])) := Sm.new hr0
    refine ⟨_, rfl, _, _, _, _, ⟨a, xs, ks, _, rfl, Same.refl _, s0 _ _ ha, hn.same s0, hN, rfl, rfl, rfl, rfl⟩, fun L hL => ?_⟩
    have hnG := hn.same s0
    have s0' := s0
    have hG0 : upd H r0 (.lst []) r0 = some (.lst []) := upd_same
    generalize upd H r0 (.lst []) = G at hL hnG s0 hG0 ⊢
    refine ⟨fun i σp σ H' => Same G (VG.drop L H') ∧ (∃ (al : Addr) (avs : List V) (AR : List Dn) (y3 y4 y5 : Option V), σ = [some (.ref a), some (.int n), some (.ref al), y3, y4, y5] ∧ VG.drop L H' al = some (.lst avs) ∧ avs.length ≤ i ∧ NdAs G avs AR ∧ ((i = 0 ∧ AR = []) ∨ ∃ q, 0 < i ∧ (anS [] ks)[i - 1]? = some q ∧ AR = q.2 ++ [q.1]) ∧
      (0 < i → σp[2]? ≠ some (some (.ref al)))) ∧ ∀ j p, j < i → (anS [] ks)[j]? = some p → p.1.num ≠ n, fun Hf σp z => ?_, ?_, ?_⟩
    · exact ⟨by rw [VG.drop_fz z hL]; exact Same.refl _, ⟨r0, [], [], _, _, _, rfl, by rw [VG.drop_fz z hL]; exact hG0, Nat.le_refl _, .nil, .inl ⟨rfl, rfl⟩, fun h => absurd h (Nat.lt_irrefl _)⟩, fun j p hj => absurd hj (Nat.not_lt_zero _)⟩
    · rintro i σp σ H1 x Ho Hf σg ⟨s1, ⟨al, avs, AR, y3, y4, y5, rfl, hal, avl, hav, hA, c1⟩, no⟩ fr ⟨hi, wl, t, u, lv, d, rfl, ht, hu, hid, kb, w0, g2, p2, i0, sm⟩ hz fz hn0
      have sf := fz_same fz hn0
      rw [eI, List.getElem?_map] at hid
      obtain ⟨p, hp, ep⟩ := Option.map_eq_some_iff.mp hid
      obtain ⟨d', an'⟩ := p
      cases ep
      have hut := hu
      obtain ⟨b, ys, rfl, hb⟩ := hu.at
      have hbf := sf _ _ (sm _ _ hb)
      have nw : al ≠ wl := fun z => by
        rcases Nat.eq_zero_or_pos i with h0 | h0
        · rw [z, i0 h0] at hal
          cases hal
        · exact c1 h0 (by rw [z]; exact p2 h0)
      have half : Hf al = some (.lst avs) := sf _ _ (kb al _ hal nw)
      have st := step_an hp hA
      have le : an'.length ≤ AR.length := by
        have := congrArg List.length st
        rw [List.length_take] at this
        have this : min an'.length AR.length = an'.length := this
        omega
      have len := hav.len
      have lei : an'.length ≤ 1000 := by omega
      refine ⟨t, [.int _, .ref b], rfl, SqT.of (sf _ _ ht), rfl, _, _, rfl, _, _, rfl, rfl, ?_⟩
      refine ⟨_, rfl, _, rfl, _, _, rfl, rfl, _, rfl, al, avs, rfl, SqL.of half, fun c hc => ⟨_, rfl, by show 1 ≤ sizeLine; decide, fun e he => ?_⟩⟩
      have ec : cutV avs none (some (((an'.length : Nat) : Int) + 1 - 1)) = avs.take an'.length := by
        rw [show ((an'.length : Nat) : Int) + 1 - 1 = (an'.length : Int) by omega]
        exact cut_take (by omega)
      have hc1 : upd Hf c (.lst (cutV avs none (some (((an'.length : Nat) : Int) + 1 - 1)))) c = some (.lst (avs.take an'.length)) := by rw [ec]; exact upd_same
      have sc1 : Same Hf (upd Hf c (.lst (cutV avs none (some (((an'.length : Nat) : Int) + 1 - 1))))) := Sm.new hc
      change upd Hf c (.lst (cutV avs none (some (((an'.length : Nat) : Int) + 1 - 1)))) e = none at he
      show rCat (.ref c) (.ref e) (upd (upd Hf c (.lst (cutV avs none (some (((an'.length : Nat) : Int) + 1 - 1))))) e (.lst [.ref b])) _
      generalize upd Hf c (.lst (cutV avs none (some (((an'.length : Nat) : Int) + 1 - 1)))) = H2 at hc1 sc1 he ⊢
      have se : Same H2 (upd H2 e (.lst [.ref b])) := Sm.new he
      have tl : (avs.take an'.length).length = an'.length := by rw [List.length_take]; omega
      refine ⟨c, e, _, [.ref b], rfl, rfl, se _ _ hc1, upd_same, by rw [tl]; show an'.length + 1 ≤ _; exact Nat.le_trans (show an'.length + 1 ≤ 1001 by omega) (by decide), fun pl hpl => ?_⟩
      have s4 : Same Hf (upd (upd H2 e (.lst [.ref b])) pl (.lst (avs.take an'.length ++ [.ref b]))) := Same.trans sc1 (Same.trans se (Sm.new hpl))
      have h4 : upd (upd H2 e (.lst [.ref b])) pl (.lst (avs.take an'.length ++ [.ref b])) pl = some (.lst (avs.take an'.length ++ [.ref b])) := upd_same
      have plf : Hf pl = none := Same.free sc1 (Same.free se hpl)
      have nz : NdAs G (avs.take an'.length ++ [.ref b]) (an' ++ [d']) := by
        have := hav.take an'.length
        rw [st] at this
        exact this.app (.cons hut .nil)
      generalize avs.take an'.length ++ [V.ref b] = zs at s4 h4 nz ⊢
      generalize upd (upd H2 e (.lst [.ref b])) pl (.lst zs) = H4 at s4 h4 ⊢
      refine ⟨_, rfl, _, _, _, _, rfl, rfl, SqT.of (s4 _ _ hbf), at_1, _, rfl, rfl, _, rfl, ite2 (fun cc => ?_) (fun cc => ?_)⟩
      · have c' : d'.num = n := by
          have := of_decide_eq_true cc
          cases this
          rfl
        have ep : pathD ks n = (an' ++ [d']).reverse.filter Dn.isE := by
          have : (anS [] ks).find? (fun p => decide (p.1.num = n)) = some (d', an') := by
            rw [List.find?_eq_some_iff_getElem]
            rw [eI, List.length_map] at hi
            refine ⟨decide_eq_true c', i, hi, (List.getElem?_eq_some_iff.mp hp).2, fun j hj => ?_⟩
            rw [decide_eq_false (no j _ hj (List.getElem?_eq_getElem (Nat.lt_trans hj hi)))]
            rfl
          unfold pathD
          rw [this]
        have zl := nz.len
        refine ⟨_, rfl, pl, zs, rfl, SqL.of h4, fun D hD => ?_⟩
        have sG : Same G H4 := Same.trans sm (Same.trans sf s4)
        refine lc_it (walk_rev (K := K) (a := pl) (xs := zs)) (fun j H' => Same H4 H' ∧ ∃ us, H' D = some (.lst us) ∧ us.length ≤ j ∧ NdAs G us (((an' ++ [d']).reverse.take j).filter Dn.isE)) ⟨Sm.new hD, [], upd_same, Nat.le_refl _, .nil⟩ (fun j H' _ z => SqL.of (z.1 _ _ h4)) ?_ ?_
        · rintro j x H' H'' hj ⟨s5, us, hus, ul, nus⟩ ⟨rfl, hx⟩
          have hx' : zs.reverse[j]? = some x := by
            rw [List.getElem?_reverse hj]
            exact hx
          obtain ⟨e1, he1, hxe⟩ := nz.rev.get hx'
          have hxe' := hxe
          obtain ⟨b', ys', rfl, hb'⟩ := hxe.at
          have hb5 := s5 _ _ (sG _ _ hb')
          have ek : (((an' ++ [d']).reverse.take (j + 1)).filter Dn.isE) = (((an' ++ [d']).reverse.take j).filter Dn.isE) ++ (if e1.isE then [e1] else []) := by
            rw [List.take_add_one, he1, List.filter_append]
            show _ = _ ++ _
            rw [show ((some e1).toList.filter Dn.isE) = if e1.isE then [e1] else [] from by cases h : e1.isE <;> simp [h]]
          have kE : decide (V.str e1.kind = V.str ("element" : Str)) = e1.isE := by
            cases e1
            · exact decide_eq_false (show ¬(V.str "text" = V.str "element") by decide)
            · exact decide_eq_true rfl
          refine ⟨rfl, _, rfl, _, _, _, _, rfl, rfl, SqT.of hb5, at_0, rfl, _, rfl, ?_⟩
          rw [kE]
          cases hE : e1.isE with
          | true =>
            rw [hE] at ek
            have ulb : us.length < sizeLine := Nat.lt_of_le_of_lt (show us.length ≤ 1001 by
              rw [List.length_append] at zl
              have : zs.length = an'.length + 1 := zl
              omega) (by decide)
            refine ⟨_, rfl, us, hus, ulb, fun c o eo => ?_, us ++ [.ref b'], upd_same, by rw [List.length_append]; show us.length + 1 ≤ _; omega, ?_⟩
            · rw [upd_ne (ne_of_none eo hD)]
              exact s5 _ _ eo
            · rw [ek]
              exact nus.app (.cons hxe' .nil)
          | false =>
            rw [hE] at ek
            refine ⟨s5, us, hus, by omega, ?_⟩
            rw [ek]
            simpa using nus
        · rintro H' ⟨s5, us, hus, ul, nus⟩
          have : (an' ++ [d']).reverse.take zs.length = (an' ++ [d']).reverse := List.take_of_length_le (by rw [List.length_reverse, zl]; exact Nat.le_refl _)
          rw [this, ← ep] at nus
          exact q D us H' (Same.trans s0 (Same.trans sG s5)) (Same.free s0 (Same.free sG hD)) hus (nus.same (Same.trans sG s5))
      · have c' : d'.num ≠ n := fun z => cc (decide_eq_true (by rw [← z]))
        have plL : pl ∉ L := fun m => by
          obtain ⟨o, eo⟩ := fz_in fz m
          rw [plf] at eo
          cases eo
        refine ⟨keep_L fz s4, zW_same hz (drop_same fz hn0 s4), Same.trans sm (drop_same fz hn0 s4), ⟨pl, zs, _, _, _, _, rfl, by rw [VG.drop_out plL]; exact h4, ?_, nz, .inr ⟨(d', an'), Nat.succ_pos _, hp, rfl⟩, fun _ z => ?_⟩, fun j p hj hpj => ?_⟩
        · have := nz.len
          rw [List.length_append] at this
          have : zs.length = an'.length + 1 := this
          omega
        · rw [g2] at z
          cases z
          obtain ⟨wl', _, _, _, _, _, _, eσ, _, _, hw', _⟩ := hz
          rw [eσ] at g2
          cases g2
          have := sf _ _ hw'
          rw [plf] at this
          cases this
        · rcases Nat.lt_succ_iff_lt_or_eq.mp hj with hj | rfl
          · exact no j p hj hpj
          · rw [hp] at hpj
            cases hpj
            exact c'
    · rintro i σp σ H1 Ho ⟨s1, ⟨al, avs, AR, y3, y4, y5, rfl, hal, avl, hav, hA, c1⟩, no⟩ fr ⟨hi, wl, kb, w0, p2, i0, sm⟩ hn0
      have e0 : pathD ks n = [] := by
        have : (anS [] ks).find? (fun p => decide (p.1.num = n)) = none := by
          rw [List.find?_eq_none]
          intro p hp c
          obtain ⟨j, hj, rfl⟩ := List.getElem_of_mem hp
          rw [eI, List.length_map] at hi
          exact no j _ (by omega) (List.getElem?_eq_getElem hj) (of_decide_eq_true c)
        unfold pathD
        rw [this]
      refine ⟨by show 0 ≤ sizeLine; decide, fun p hp => q p [] _ (Same.trans (Same.trans s0 sm) (Sm.new hp)) (Same.free (Same.trans s0 sm) hp) upd_same ?_⟩
      rw [e0]
      exact .nil
end
end VL

set_option Elab.async false
set_option linter.all false
set_option pp.maxSteps 700
set_option maxRecDepth 100000
set_option maxHeartbeats 4000000
namespace VL
open PySem PySem.Spec PyProof.Rows L2
def spPath : Sp := fun vs H Q _ => ∃ (v : V) (ks : List Dn) (n : Int), vs = [v, .int n] ∧ DocA H v ks ∧ ∀ p H', Same H H' → H p = none → H' p = some (.lst ((pathD ks n).map fun d => V.int d.num)) → Q (.ref p) H'
def spAttr : Sp := fun vs H Q _ => ∃ (v : V) (d : Dn) (x : Str), vs = [v, .str x] ∧ NdA H v d ∧ d.isE = true ∧ NamesOk d ∧ ∀ H', Same H H' → Q (attrD d.as x) H'
def disD (ks : List Dn) (n : Int) : Bool := (findD ks n).isNone || (pathD ks n).any fun d => !decide (attrD d.as "disabled" = .non)
def spDis : Sp := fun vs H Q _ => ∃ (v : V) (ks : List Dn) (n : Int), vs = [v, .int n] ∧ DocA H v ks ∧ AllS NamesOk ks ∧ ∀ H', Same H H' → Q (.bl (disD ks n)) H'
def attrOf (ks : List Dn) (n : Int) (x : Str) : V := match findD ks n with
  | some p => attrD p.2.as x
  | none => .non
def spAttrOf : Sp := fun vs H Q _ => ∃ (v : V) (ks : List Dn) (n : Int) (x : Str), vs = [v, .int n, .str x] ∧ DocA H v ks ∧ AllS NamesOk ks ∧ ∀ H', Same H H' → Q (attrOf ks n x) H'
theorem pairs_sq {K : PySem.W.Frag} {H : Hp} : ∀ {ps : List Addr} {as : List (Str × Str)}, Paired (fun p (x : Str × Str) => H p = some (.tup [.str x.1, .str x.2])) ps as → Paired (fun p kv => SqT K H p [kV kv.1, kv.2]) ps (kvA as)
  | _, _, .nil => .nil
  | _, _, .cons h t => .cons (SqT.of h) (pairs_sq t)
section
variable {P : Program} {w : World} {K : PySem.W.Frag} {mg : Str → Option Value} {base : Heap} {C : Ad}
theorem sc_attribute_in : FnScope ["node", "name", "attributes"] ["node", "name"] (defScope s_attribute_in) := ⟨rfl, rfl, rfl, by decide +kernel, rfl, by decide +kernel, by decide +kernel⟩
theorem ok_attr (T : Txt K w mg C) : Cal P w K mg base 2 "attribute_in" spAttr := by
  refine cal_of T.d_attribute_in sc_attribute_in (fun vs H Q E h => ?_) (fun f cdv A outer s H vs Q E hr h => ?_)
  · obtain ⟨v, d, x, rfl, _⟩ := h
    rfl
  · obtain ⟨v, d, x, rfl, hd, he, hn, q⟩ := h
    have hu := hu_of hr
    refine ⟨_, (pss_cons (ps_set (i := 2) sc_attribute_in.nd rfl (Or.inl rfl) (pe_callTy (call_dictT rfl) (by rfl) T.z_dict (by decide +kernel) (pa_cons (pe_ix ix_tup (pv 0) pe_int (fun _ _ => rfl)) pa_nil))) (pss_one (ps_ret (pe_dget1 hu (pv 2) (pv 1) ⟨rfl, rfl, rfl, rfl⟩)))), ?_⟩
    cases hd with
    | tx h1 => exact nomatch he
    | @el a pk n t va as vs kk h1 ha hk hs =>
      obtain ⟨pa, o, ps, rfl, h2, ho, hps⟩ := ha
      refine ⟨_, rfl, _, _, _, _, rfl, rfl, SqT.of h1, rfl, pa, o, ps, kvA as, rfl, h2, ho, pairs_sq hps, fun D hD => ?_⟩
      have hk1 : mergeK [] (kvA as) = kvA as := kvA_merge hn
      rw [hk1]
      refine ⟨_, rfl, D, rfl, .inl ⟨_, Rd.of upd_same⟩, _, rfl, _, DGet.k (k := .inr x) upd_same, ?_⟩
      rw [attr_val]
      exact q _ (Sm.new hD)
theorem sc_is_disabled : FnScope ["document", "number", "node"] ["document", "number"] (defScope s_is_disabled) := ⟨rfl, rfl, rfl, by decide +kernel, rfl, by decide +kernel, by decide +kernel⟩
theorem ok_dis (T : Txt K w mg C) : Cal P w K mg base 8 "is_disabled" spDis := by
  have Gnodes_on_path := ok_nodes (P := P) (base := base) T
  have Gfind_node := ok_find (P := P) (base := base) T
  have Gattribute_in := ok_attr (P := P) (base := base) T
  refine cal_of T.d_is_disabled sc_is_disabled (fun vs H Q E h => ?_) (fun f cdv A outer s H vs Q E hr h => ?_)
  · obtain ⟨v, ks, n, rfl, _⟩ := h
    rfl
  · obtain ⟨v, ks, n, rfl, hD, hA, q⟩ := h
    refine ⟨_, (pss_cons (ps_if (pt_cmp (pc_isN (pe_c Gfind_node hr (by decide) (by rfl) (pa_cons (pv 0) (pa_cons (pv 1) pa_nil))))) (pss_one (ps_ret pe_bl)) pss_nil) (pss_one (ps_ret (pe_callB (cr_any rfl) (by rfl) T.z_any (by decide +kernel) (pa_cons (pe_lc (own := [("node", 2)]) (g := gName 2) (tt := tYes) rfl sc_is_disabled.nd (pi_list (pe_c Gnodes_on_path hr (by decide) (by rfl) (pa_cons (pv 0) (pa_cons (pv 1) pa_nil)))) (blkOk_by (N := ["document", "number", "node"]) (sc := (defScope s_is_disabled)) (by decide +kernel)) (fun _ _ _ _ _ => pg_name (i := 2) sc_is_disabled.nd rfl (Or.inl rfl)) (fun _ _ _ _ _ => pts_nil) (fun _ _ _ _ _ => (pe_cmp (pc_notN (pe_c Gattribute_in hr (by decide) (by rfl) (pa_cons (pv 2) (pa_cons pe_str pa_nil))))))) pa_nil))))), ?_⟩
    refine ⟨_, rfl, _, rfl, v, ks, n, rfl, hD, fun e0 H1 s1 => ?_, fun p u H1 e0 hu s1 => ?_⟩
    · refine ⟨true, rfl, iteT ?_⟩
      have : disD ks n = true := by
        unfold disD
        rw [e0]
        rfl
      rw [← this]
      exact q H1 s1
    · obtain ⟨b, ys, rfl, hb⟩ := hu.at
      refine ⟨false, rfl, iteF ?_⟩
      have e1 : disD ks n = (pathD ks n).any fun d => !decide (attrD d.as "disabled" = .non) := by
        unfold disD
        rw [e0]
        rfl
      refine ⟨_, rfl, _, rfl, v, ks, n, rfl, hD.same s1, fun p us H2 s2 hp hus nus => ?_⟩
      have ul := nus.len
      have hP : (pathD ks n).length ≤ 1001 := pathD_len hD.choose_spec.choose_spec.2.2.2
      refine ⟨p, rfl, ⟨_, SqL.of hus⟩, fun D hD => ?_⟩
      refine lc_it (walk_list (K := K) (a := p) (xs := us)) (fun i H' => Same H2 H' ∧ H' D = some (.lst ((((pathD ks n).take i).map fun d => !decide (attrD d.as "disabled" = .non)).map V.bl))) ⟨Sm.new hD, by rw [upd_same]; rfl⟩ (fun i H' _ z => SqL.of (z.1 _ _ hus)) ?_ ?_
      · rintro i x H3 H4 hi ⟨s3, h3⟩ ⟨rfl, hx⟩
        obtain ⟨d, hd, hxd⟩ := nus.get hx
        obtain ⟨hok, hE⟩ := pathD_all hA n d (List.mem_of_getElem? hd)
        refine ⟨rfl, _, rfl, x, d, "disabled", rfl, hxd.same s3, hE, hok, fun H5 s5 => ?_⟩
        refine ⟨_, s5 _ _ h3, ?_, fun c o eo => ?_, ?_⟩
        · rw [List.length_map, List.length_map, List.length_take]
          exact Nat.lt_of_le_of_lt (show min i (pathD ks n).length ≤ 1001 by omega) (by decide)
        · rw [upd_ne (ne_of_none eo hD)]
          exact s5 _ _ (s3 _ _ eo)
        · rw [upd_same, List.take_add_one, hd, List.map_append, List.map_append]
          rfl
      · rintro H3 ⟨s3, h3⟩
        rw [List.take_of_length_le (by omega)] at h3
        refine ⟨D, _, rfl, SqL.of h3, ?_⟩
        have := q H3 (Same.trans s1 (Same.trans s2 s3))
        rw [e1] at this
        rw [List.any_map]
        exact this
end
end VL

set_option Elab.async false
set_option linter.all false
set_option pp.maxSteps 700
set_option maxRecDepth 100000
set_option maxHeartbeats 4000000
namespace VL
open PySem PySem.Spec PyProof.Rows L2
def spRows (K : PySem.W.Frag) : Sp := fun vs H Q _ => ∃ (s : Addr) (ns : List Int) (m : Nat), vs = [.ref s, .int m] ∧ SqL K H s (ns.map V.int) ∧ ns.length ≤ 63 ∧ m ≤ 100 ∧ ∀ r (zs : List Int) H', Same H H' → H r = none → H' r = some (.lst (zs.map V.int)) → zs.length = m → Q (.ref r) H'
theorem map_int_atR {ns : List Int} {j : Int} (h0 : 0 ≤ j) (h1 : j < (ns.length : Int)) : ∃ z, atI (ns.map V.int) j = some (.int z) := by
  have hj : j.toNat < ns.length := by omega
  refine ⟨ns[j.toNat], ?_⟩
  unfold atI ixN
  rw [if_pos h0, if_pos (by rw [List.length_map]; exact h1)]
  show (ns.map V.int)[j.toNat]? = _
  rw [List.getElem?_map, List.getElem?_eq_getElem hj]
  rfl
theorem atI_mem {α : Type} {xs : List α} {k : Int} (h0 : 0 ≤ k) (h1 : k < xs.length) : ∃ x, atI xs k = some x ∧ x ∈ xs := by
  obtain ⟨m, rfl⟩ := Int.eq_ofNat_of_zero_le h0
  refine ⟨xs[m]'(by omega), ?_, List.getElem_mem _⟩
  unfold atI ixN
  rw [if_pos h0, if_pos h1]
  show xs[(m : Int).toNat]? = _
  rw [Int.toNat_natCast, List.getElem?_eq_getElem]
def spLAttrs : Sp := fun vs H Q _ => ∃ r : Int, vs = [.int r] ∧ ∀ v as H', Same H H' → AtA (newer H H') v as → (as.map (·.1)).Nodup → Q v H'
def spLAttr : Sp := fun vs H Q _ => ∃ (v : V) (d : Dn) (x : Str), vs = [v, .str x] ∧ NdA H v d ∧ d.isE = true ∧ Q (attrD d.as x) H
def lNames : List Str := ["checked", "default", "disabled", "kind", "locked", "name", "value"]
def lTexts : List Str := ["true", "false", "", "box", "a", "b", "yes"]
theorem divs_at : ∀ j : Nat, j < 7 → ∃ z : Int, atI [V.int 3, .int 12, .int 48, .int 192, .int 768, .int 3072, .int 12288] (0 + (j : Int)) = some (.int z) ∧ 0 < z ∧ z < 20000
  | 0, _ => ⟨3, rfl, by decide, by decide⟩
  | 1, _ => ⟨12, rfl, by decide, by decide⟩
  | 2, _ => ⟨48, rfl, by decide, by decide⟩
  | 3, _ => ⟨192, rfl, by decide, by decide⟩
  | 4, _ => ⟨768, rfl, by decide, by decide⟩
  | 5, _ => ⟨3072, rfl, by decide, by decide⟩
  | 6, _ => ⟨12288, rfl, by decide, by decide⟩
  | n + 7, h => absurd h (by omega)
theorem strs_at {xs : List Str} {j : Nat} (h : j < xs.length) : atI (xs.map V.str) (0 + (j : Int)) = some (.str xs[j]) := by
  unfold atI ixN
  rw [if_pos (by omega), if_pos (by rw [List.length_map]; omega)]
  rw [show ((0 : Int) + (j : Int)).toNat = j by omega]
  simp [h]
theorem newer_at {H H' : Hp} {b : Addr} {o : HO} (h : H b = none) (e : H' b = some o) : newer H H' b = some o := by
  unfold newer
  rw [h]
  exact e
section
variable {P : Program} {w : World} {K : PySem.W.Frag} {mg : Str → Option Value} {base : Heap} {C : Ad}
theorem sc__law_rows : FnScope ["script", "count", "rows", "k", "cell"] ["script", "count"] (defScope s__law_rows) := ⟨rfl, rfl, rfl, by decide +kernel, rfl, by decide +kernel, by decide +kernel⟩
theorem ok_rows (T : Txt K w mg C) : Cal P w K mg base 1 "_law_rows" (spRows K) := by
  refine cal_of T.d__law_rows sc__law_rows (fun vs H Q E h => ?_) (fun f cdv A outer s H vs Q E hr h => ?_)
  · obtain ⟨a, ns, m, rfl, _⟩ := h
    rfl
  · obtain ⟨a, ns, m, rfl, ha, hn, hm, k⟩ := h
    have hu := hu_of hr
    have big : 100000 < sizeLine := by decide
    refine ⟨_, (pss_cons (ps_set (i := 2) sc__law_rows.nd rfl (Or.inl rfl) (pe_lst pa_nil)) (pss_cons (ps_for PassesOwn.never rfl (pi_range1 (by rfl) T.z_range (pa_cons (pv 1) pa_nil)) (pg_name (i := 3) sc__law_rows.nd rfl (Or.inl rfl)) (pss_cons (ps_set (i := 4) sc__law_rows.nd rfl (Or.inl rfl) pe_int) (C8.pss_cut (ps_if (pt_cmpR op_gt (pe_callB call_len_seq (by rfl) T.z_len PySem.boot_len (pa_cons (pv 0) pa_nil)) pe_int (nomark _)) (pss_one (ps_set (i := 4) sc__law_rows.nd rfl (Or.inl rfl) (pe_callTy call_int1 (by rfl) T.z_int (by decide +kernel) (pa_cons (pe_ix ix_list (pv 0) (pe_op op_mod (pe_callTy call_int1 (by rfl) T.z_int (by decide +kernel) (pa_cons (pv 3) pa_nil)) (pe_callB call_len_seq (by rfl) T.z_len PySem.boot_len (pa_cons (pv 0) pa_nil))) (fun _ _ => rfl)) pa_nil)))) pss_nil) (C8.pss_cut (ps_if (pt_cmpR op_lt (pv 4) pe_int (nomark _)) (pss_one (ps_set (i := 4) sc__law_rows.nd rfl (Or.inl rfl) (pe_op op_sub pe_int (pe_op op_mul pe_int (pv 4))))) pss_nil) (C8.pss_cut (ps_if (PW.pt (pw_or (pt_cmpR op_ge (pv 3) (pe_callB call_len_seq (by rfl) T.z_len PySem.boot_len (pa_cons (pv 0) pa_nil)) (nomark _)) (pw_or1 (pt_cmpR op_lt (pv 4) pe_int (nomark _))))) (pss_cons (ps_set (i := 4) sc__law_rows.nd rfl (Or.inl rfl) (pe_op op_mod (pe_callTy call_int1 (by rfl) T.z_int (by decide +kernel) (pa_cons (pe_op op_add (pe_op op_mul (pe_op op_add (pe_op op_add (pv 4) (pe_op op_mul pe_int (pv 3))) pe_int) pe_int) (pe_op op_mul (pe_op op_mul (pv 3) (pv 3)) pe_int)) pa_nil)) pe_int)) (pss_one (ps_set (i := 4) sc__law_rows.nd rfl (Or.inl rfl) (pe_op op_mod (pe_callTy call_int1 (by rfl) T.z_int (by decide +kernel) (pa_cons (pe_op op_mul (pe_op op_add (pe_op op_add (pv 4) (pe_op op_mul pe_int (pv 3))) pe_int) pe_int) pa_nil)) pe_int)))) pss_nil) (pss_one (ps_expr (pe_bm PySem.F.plainAttrs_list PySem.F.slot_list_append PySem.F.type_list_append mt_append (pv 2) (pa_cons (pv 4) pa_nil))))))))) (pss_one (ps_ret (pv 2))))), ?_⟩
    refine ⟨by show 0 ≤ sizeLine; decide, fun r hr0 => ?_⟩
    refine ⟨_, rfl, _, rfl, by omega, by omega, ?_⟩
    refine for_range (lo := 0) (n := ((m : Nat) : Int).toNat) (fun i σ H' => ∃ (zs : List Int) (y1 y2 : Option V), Same H H' ∧ H' r = some (.lst (zs.map V.int)) ∧ zs.length = i ∧ σ = [some (.ref a), some (.int m), some (.ref r), y1, y2]) ⟨[], none, none, Sm.new hr0, upd_same, rfl, rfl⟩ ?_ ?_
    · rintro i σ H1 hi ⟨zs, y1, y2, s1, h1, zl, rfl⟩
      have hi' : i < m := by omega
      have ha1 := Same.seq s1 ha
      have hL : ((ns.map V.int).length : Int) = (ns.length : Int) := by rw [List.length_map]
      refine ⟨fun σ' H' => H' = H1 ∧ ∃ c : Int, σ' = [some (.ref a), some (.int m), some (.ref r), some (.int (0 + (i : Int))), some (.int c)], ?_, ?_⟩
      · refine ⟨_, rfl, a, _, rfl, .inl ha1, _, _, rfl, rfl, _, rfl, ?_⟩
        rw [hL]
        refine ite2 (fun q => ?_) (fun q => ⟨rfl, 0, rfl⟩)
        have q' : (0 : Int) < ns.length := of_decide_eq_true q
        obtain ⟨z, hz⟩ := map_int_atR (ns := ns) (j := (0 + (i : Int)) % (ns.length : Int)) (Int.emod_nonneg _ (by omega)) (Int.emod_lt_of_pos _ q')
        refine ⟨_, rfl, _, rfl, .inl ⟨_, rfl, _, rfl, a, _, rfl, .inl ha1, _, _, rfl, rfl, by rw [hL]; exact q', a, _, _, .int z, rfl, rfl, ha1, by rw [hL]; exact hz, .inl ⟨_, rfl, rfl, z, rfl⟩⟩⟩
      · rintro σ' H' ⟨eH, c, rfl⟩
        rw [eH]
        refine ⟨fun σ' H' => H' = H1 ∧ ∃ c : Int, σ' = [some (.ref a), some (.int m), some (.ref r), some (.int (0 + (i : Int))), some (.int c)], ?_, ?_⟩
        · refine ⟨_, rfl, _, _, rfl, rfl, _, rfl, ?_⟩
          refine ite2 (fun q => ?_) (fun q => ⟨rfl, c, rfl⟩)
          exact ⟨_, rfl, _, _, rfl, rfl, .inl ⟨by decide, by decide⟩, _, _, rfl, rfl, rfl, _, rfl⟩
        · rintro σ' H' ⟨eH, c, rfl⟩
          rw [eH]
          refine ⟨fun σ' H' => H' = H1 ∧ ∃ c : Int, σ' = [some (.ref a), some (.int m), some (.ref r), some (.int (0 + (i : Int))), some (.int c)], ?_, ?_⟩
          · refine ⟨_, rfl, _, rfl, a, _, rfl, .inl ha1, _, _, rfl, rfl, _, rfl, ?_⟩
            refine ite2 (fun q => ?_) (fun q => ?_)
            · refine ⟨_, rfl, _, rfl, _, _, rfl, rfl, .inl ⟨by decide, by decide⟩, _, _, rfl, rfl, _, _, rfl, rfl, _, _, rfl, rfl, .inr ⟨by decide, by decide⟩, _, rfl, _, rfl, _, _, rfl, rfl, .inl ⟨by omega, by omega⟩, _, _, rfl, rfl, .inr ⟨by decide, by decide⟩, _, _, rfl, rfl, .inl ⟨_, rfl, _, _, rfl, rfl, (by show (0 : Int) < 1000000007; decide), ?_⟩⟩
              exact ⟨_, rfl, _, rfl, _, _, rfl, rfl, .inl ⟨by decide, by decide⟩, _, _, rfl, rfl, _, _, rfl, rfl, _, _, rfl, rfl, .inr ⟨by decide, by decide⟩, .inl ⟨_, rfl, _, _, rfl, rfl, (by show (0 : Int) < 18446744073709551557; decide), rfl, _, rfl⟩⟩
            · refine ⟨_, rfl, _, _, rfl, rfl, _, rfl, ?_⟩
              refine ite2 (fun q => ?_) (fun q => ⟨rfl, c, rfl⟩)
              refine ⟨_, rfl, _, rfl, _, _, rfl, rfl, .inl ⟨by decide, by decide⟩, _, _, rfl, rfl, _, _, rfl, rfl, _, _, rfl, rfl, .inr ⟨by decide, by decide⟩, _, rfl, _, rfl, _, _, rfl, rfl, .inl ⟨by omega, by omega⟩, _, _, rfl, rfl, .inr ⟨by decide, by decide⟩, _, _, rfl, rfl, .inl ⟨_, rfl, _, _, rfl, rfl, (by show (0 : Int) < 1000000007; decide), ?_⟩⟩
              exact ⟨_, rfl, _, rfl, _, _, rfl, rfl, .inl ⟨by decide, by decide⟩, _, _, rfl, rfl, _, _, rfl, rfl, _, _, rfl, rfl, .inr ⟨by decide, by decide⟩, .inl ⟨_, rfl, _, _, rfl, rfl, (by show (0 : Int) < 18446744073709551557; decide), rfl, _, rfl⟩⟩
          · rintro σ' H' ⟨eH, c, rfl⟩
            rw [eH]
            refine ⟨_, rfl, .inl ⟨rfl, _, SqL.of h1⟩, _, rfl, r, _, _, rfl, rfl, h1, ?_, ?_⟩
            · rw [List.length_map]
              omega
            · refine ⟨zs ++ [c], _, _, fun b o eb => ?_, ?_, by rw [List.length_append, zl]; rfl, rfl⟩
              · rw [upd_ne (ne_of_none eb hr0)]
                exact s1 _ _ eb
              · rw [upd_same, List.map_append]
                rfl
    · rintro σ H1 ⟨zs, y1, y2, s1, h1, zl, rfl⟩
      exact ⟨_, rfl, k r zs H1 s1 hr0 h1 (by omega)⟩
theorem sc__law_attributes : FnScope ["row", "names", "texts", "pairs", "j"] ["row"] (defScope s__law_attributes) := ⟨rfl, rfl, rfl, by decide +kernel, rfl, by decide +kernel, by decide +kernel⟩
theorem ok_lattrs (T : Txt K w mg C) : Cal P w K mg base 1 "_law_attributes" spLAttrs := by
  refine cal_of T.d__law_attributes sc__law_attributes (fun vs H Q E h => ?_) (fun f cdv A outer s H vs Q E hr h => ?_)
  · obtain ⟨r, rfl, _⟩ := h
    rfl
  · obtain ⟨r, rfl, q⟩ := h
    refine ⟨_, (pss_cons (ps_set (i := 1) sc__law_attributes.nd rfl (Or.inl rfl) (pe_lst (pa_cons pe_str (pa_cons pe_str (pa_cons pe_str (pa_cons pe_str (pa_cons pe_str (pa_cons pe_str (pa_cons pe_str pa_nil))))))))) (pss_cons (ps_set (i := 2) sc__law_attributes.nd rfl (Or.inl rfl) (pe_lst (pa_cons pe_str (pa_cons pe_str (pa_cons pe_str (pa_cons pe_str (pa_cons pe_str (pa_cons pe_str (pa_cons pe_str pa_nil))))))))) (pss_cons (ps_set (i := 3) sc__law_attributes.nd rfl (Or.inl rfl) (pe_lst pa_nil)) (pss_cons (ps_for PassesOwn.never rfl (pi_range1 (by rfl) T.z_range (pa_cons pe_int pa_nil)) (pg_name (i := 4) sc__law_attributes.nd rfl (Or.inl rfl)) (pss_one (ps_if (pt_cmpR op_eq (pe_op op_mod (pe_callTy call_int1 (by rfl) T.z_int (by decide +kernel) (pa_cons (pe_op op_fdiv (pv 0) (pe_ix ix_list (pe_lst (pa_cons pe_int (pa_cons pe_int (pa_cons pe_int (pa_cons pe_int (pa_cons pe_int (pa_cons pe_int (pa_cons pe_int pa_nil)))))))) (pv 4) (fun _ _ => rfl))) pa_nil)) pe_int) pe_int (nomark _)) (pss_one (ps_expr (pe_bm PySem.F.plainAttrs_list PySem.F.slot_list_append PySem.F.type_list_append mt_append (pv 3) (pa_cons (pe_tup (pa_cons (pe_ix ix_list (pv 1) (pv 4) (fun _ _ => rfl)) (pa_cons (pe_ix ix_list (pv 2) (pe_op op_mod (pe_callTy call_int1 (by rfl) T.z_int (by decide +kernel) (pa_cons (pe_op op_fdiv (pv 0) (pe_op op_add pe_int (pe_op op_mul pe_int (pv 4)))) pa_nil)) pe_int) (fun _ _ => rfl)) pa_nil))) pa_nil)))) pss_nil))) (pss_one (ps_ret (pe_callTy call_tupleF (by rfl) T.z_tuple (by decide +kernel) (pa_cons (pv 3) pa_nil)))))))), ?_⟩
    refine ⟨by show 7 ≤ sizeLine; decide, fun na hna => ⟨by show 7 ≤ sizeLine; decide, fun ta hta => ⟨by show 0 ≤ sizeLine; decide, fun pa hpa => ?_⟩⟩⟩
    have s1 : Same H (upd (upd (upd H na (.lst (lNames.map V.str))) ta (.lst (lTexts.map V.str))) pa (.lst [])) := Same.trans (Sm.new hna) (Same.trans (Sm.new hta) (Sm.new hpa))
    have h1 : upd (upd (upd H na (.lst (lNames.map V.str))) ta (.lst (lTexts.map V.str))) pa (.lst []) na = some (.lst (lNames.map V.str)) := Sm.new hpa _ _ (Sm.new hta _ _ upd_same)
    have h2 : upd (upd (upd H na (.lst (lNames.map V.str))) ta (.lst (lTexts.map V.str))) pa (.lst []) ta = some (.lst (lTexts.map V.str)) := Sm.new hpa _ _ upd_same
    have h0 : H pa = none := Same.free (Same.trans (Sm.new hna) (Sm.new hta)) hpa
    have hnp : na ≠ pa := ne_of_none (Sm.new hta _ _ upd_same) hpa
    have htp : ta ≠ pa := ne_of_none upd_same hpa
    refine ⟨_, rfl, by decide, by decide, ?_⟩
    refine for_range (lo := 0) (n := 7) (fun i σ H' => Same H H' ∧ H' na = some (.lst (lNames.map V.str)) ∧ H' ta = some (.lst (lTexts.map V.str)) ∧ ∃ (ps : List Addr) (as : List (Str × Str)) (y4 : Option V), H' pa = some (.lst (ps.map V.ref)) ∧ Paired (fun p (x : Str × Str) => H p = none ∧ H' p = some (.tup [.str x.1, .str x.2])) ps as ∧ (as.map (·.1)).Sublist (lNames.take i) ∧
      σ = [some (.int r), some (.ref na), some (.ref ta), some (.ref pa), y4]) ⟨s1, h1, h2, [], [], _, upd_same, .nil, .slnil, rfl⟩ ?_ ?_
    · rintro i σ H1 hi ⟨s2, k1, k2, ps, as, y4, hp, hps, sub, rfl⟩
      obtain ⟨z, hz, z0, z1⟩ := divs_at i hi
      have tk : ∀ u o, H1 u = none → Paired (fun p (x : Str × Str) => H p = none ∧ upd H1 u o p = some (.tup [.str x.1, .str x.2])) ps as := fun u o hu => Paired.mono (fun p x e => ⟨e.1, Sm.new hu _ _ e.2⟩) hps
      refine ⟨_, rfl, by show 7 ≤ sizeLine; decide, fun u hu => ⟨_, rfl, u, _, _, _, rfl, rfl, SqL.of upd_same, hz, _, _, rfl, rfl, ⟨by omega, by omega⟩, .inl ⟨_, rfl, _, _, rfl, rfl, (by show (0 : Int) < 4; decide), rfl, _, rfl, ite2 (fun c => ?_) (fun c => ?_)⟩⟩⟩
      · have su : Same H1 (upd H1 u (.lst [V.int 3, .int 12, .int 48, .int 192, .int 768, .int 3072, .int 12288])) := Sm.new hu
        have t2 := tk u (.lst [V.int 3, .int 12, .int 48, .int 192, .int 768, .int 3072, .int 12288]) hu
        show tDrop _ _ _ (upd H1 u (.lst [V.int 3, .int 12, .int 48, .int 192, .int 768, .int 3072, .int 12288]))
        generalize upd H1 u (.lst [V.int 3, .int 12, .int 48, .int 192, .int 768, .int 3072, .int 12288]) = H2 at su t2 ⊢
        have hi' : i < lNames.length := hi
        have q0 : 0 ≤ r / (5 + 7 * (0 + (i : Int))) % 7 := Int.emod_nonneg _ (by decide)
        have q1 : r / (5 + 7 * (0 + (i : Int))) % 7 < 7 := Int.emod_lt_of_pos _ (by decide)
        obtain ⟨tx, htx, htm⟩ := atI_mem (xs := lTexts.map V.str) q0 (by rw [List.length_map]; exact q1)
        obtain ⟨sx, _, rfl⟩ := List.mem_map.mp htm
        have pn := hps.length
        have al : as.length ≤ i := by
          have := sub.length_le
          rw [List.length_map, List.length_take] at this
          omega
        refine ⟨_, rfl, .inl ⟨rfl, _, SqL.of (su _ _ hp)⟩, _, rfl, _, rfl, na, _, _, _, rfl, rfl, SqL.of (su _ _ k1), strs_at hi', ?_⟩
        refine ⟨_, rfl, _, rfl, _, rfl, _, _, rfl, rfl, .inl ⟨by decide, by decide⟩, _, _, rfl, rfl, _, _, rfl, rfl, ⟨by omega, by omega⟩, .inl ⟨_, rfl, _, _, rfl, rfl, (by show (0 : Int) < 7; decide), ta, _, _, _, rfl, rfl, SqL.of (su _ _ k2), htx, by show 2 ≤ sizeLine; decide, fun t ht => ?_⟩⟩
        have npt : pa ≠ t := ne_of_none (su _ _ hp) ht
        refine ⟨pa, _, _, rfl, rfl, by rw [upd_ne npt]; exact su _ _ hp, by rw [List.length_map, pn]; exact Nat.lt_of_le_of_lt (show as.length ≤ 7 by omega) (by decide), fun b o e => ?_, ?_, ?_, ps ++ [t], as ++ [(lNames[i], sx)], _, ?_, ?_, ?_, rfl⟩
        · rw [upd_ne (ne_of_none e h0), upd_ne (ne_of_none (su _ _ (s2 _ _ e)) ht)]
          exact su _ _ (s2 _ _ e)
        · rw [upd_ne hnp]
          exact Sm.new ht _ _ (su _ _ k1)
        · rw [upd_ne htp]
          exact Sm.new ht _ _ (su _ _ k2)
        · rw [upd_same, List.map_append]
          rfl
        · refine Paired.snoc (Paired.mono (fun p x e => ⟨e.1, ?_⟩) t2) ⟨Same.free s2 (Same.free su ht), by rw [upd_ne (Ne.symm npt)]; exact upd_same⟩
          rw [upd_ne (fun z => by rw [z, su _ _ hp] at e; cases e.2)]
          exact Sm.new ht _ _ e.2
        · rw [List.take_add_one, List.map_append]
          refine sub.append ?_
          rw [List.getElem?_eq_getElem hi']
          exact List.Sublist.refl _
      · refine ⟨Same.trans s2 (Sm.new hu), Sm.new hu _ _ k1, Sm.new hu _ _ k2, ps, as, _, Sm.new hu _ _ hp, tk _ _ hu, sub.trans ?_, rfl⟩
        exact (List.take_prefix_take_left (by omega)).sublist
    · rintro σ H1 ⟨s2, k1, k2, ps, as, y4, hp, hps, sub, rfl⟩
      refine ⟨_, rfl, pa, _, rfl, SqL.of hp, fun l o hl ho => q _ as _ (Same.trans s2 (Sm.new hl)) ⟨l, o, ps, rfl, newer_at (Same.free s2 hl) upd_same, ho, Paired.mono (fun p x e => newer_at e.1 (Sm.new hl _ _ e.2)) hps⟩ ?_⟩
      exact sub.nodup (by decide)
theorem sc__law_attribute : FnScope ["node", "name", "pair"] ["node", "name"] (defScope s__law_attribute) := ⟨rfl, rfl, rfl, by decide +kernel, rfl, by decide +kernel, by decide +kernel⟩
theorem ok_lattr (T : Txt K w mg C) : Cal P w K mg base 1 "_law_attribute" spLAttr := by
  refine cal_of T.d__law_attribute sc__law_attribute (fun vs H Q E h => ?_) (fun f cdv A outer s H vs Q E hr h => ?_)
  · obtain ⟨v, d, x, rfl, _⟩ := h
    rfl
  · obtain ⟨v, d, x, rfl, hd, he, q⟩ := h
    refine ⟨_, (pss_cons (ps_for PassesOwn.never rfl (pi_tup (pe_ix ix_tup (pv 0) pe_int (fun _ _ => rfl))) (pg_name (i := 2) sc__law_attribute.nd rfl (Or.inl rfl)) (pss_one (ps_if (pt_cmpR op_eq (pe_ix ix_tup (pv 2) pe_int (fun _ _ => rfl)) (pv 1) (nomark _)) (pss_one (ps_ret (pe_ix ix_tup (pv 2) pe_int (fun _ _ => rfl)))) pss_nil))) (pss_one (ps_ret pe_non))), ?_⟩
    cases hd with
    | tx h1 => exact nomatch he
    | @el a pk n t va as vs kk h1 ha hk hs =>
      obtain ⟨pa, o, ps, rfl, h2, ho, hps⟩ := ha
      have pl := hps.length
      refine ⟨_, rfl, _, _, _, _, rfl, rfl, SqT.of h1, rfl, ?_⟩
      refine ⟨pa, rfl, ⟨_, .inl (.inr ⟨o, h2⟩)⟩, ?_⟩
      refine for_it (walk_tup (K := K) (a := pa) (xs := ps.map V.ref)) (fun i σ H' => H' = H ∧ (∃ y2, σ = [some (.ref a), some (.str x), y2]) ∧ ∀ j b, j < i → as[j]? = some b → b.1 ≠ x) ⟨rfl, ⟨_, rfl⟩, fun j b hj => absurd hj (Nat.not_lt_zero _)⟩ (fun i σ H' _ z => .inl (.inr ⟨o, by rw [z.1]; exact h2⟩)) ?_ ?_
      · rintro i y σ H1 H2 hi ⟨rfl, ⟨y2, rfl⟩, no⟩ ⟨rfl, hy⟩
        rw [List.getElem?_map] at hy
        obtain ⟨p, hp, rfl⟩ := Option.map_eq_some_iff.mp hy
        obtain ⟨b, hb, hpb⟩ := paired_get hps hp
        refine ⟨_, rfl, _, _, _, _, rfl, rfl, SqT.of hpb, rfl, _, rfl, rfl, _, rfl, ite2 (fun c => ?_) (fun c => ?_)⟩
        · have c' : b.1 = x := by
            have := of_decide_eq_true c
            cases this
            rfl
          refine ⟨_, rfl, _, _, _, _, rfl, rfl, SqT.of hpb, rfl, ?_⟩
          have : attrD (Dn.el n t as kk).as x = .str b.2 := by
            have e : as.find? (fun a => decide (a.1 = x)) = some b := by
              rw [List.find?_eq_some_iff_getElem]
              obtain ⟨hi', eb⟩ := List.getElem?_eq_some_iff.mp hb
              refine ⟨decide_eq_true c', i, hi', eb, fun j hj => ?_⟩
              rw [decide_eq_false (no j _ hj (List.getElem?_eq_getElem (Nat.lt_trans hj hi')))]
              rfl
            unfold attrD
            rw [show (Dn.el n t as kk).as = as from rfl, e]
          rw [← this]
          exact q
        · refine ⟨rfl, ⟨_, rfl⟩, fun j b' hj hb' => ?_⟩
          rcases Nat.lt_succ_iff_lt_or_eq.mp hj with hj | rfl
          · exact no j b' hj hb'
          · rw [hb] at hb'
            cases hb'
            exact fun z => c (decide_eq_true (by rw [z]))
      · rintro σ H1 ⟨rfl, ⟨y2, rfl⟩, no⟩
        have : attrD (Dn.el n t as kk).as x = .non := by
          have e : as.find? (fun a => decide (a.1 = x)) = none := by
            rw [List.find?_eq_none]
            intro b hb c
            obtain ⟨j, hj, rfl⟩ := List.getElem_of_mem hb
            exact no j _ (by rw [List.length_map]; omega) (List.getElem?_eq_getElem hj) (of_decide_eq_true c)
          unfold attrD
          rw [show (Dn.el n t as kk).as = as from rfl, e]
        rw [this] at q
        exact q
end
end VL

set_option Elab.async false
set_option linter.all false
set_option pp.maxSteps 700
set_option maxRecDepth 100000
set_option maxHeartbeats 4000000
namespace VL
open PySem PySem.Spec PyProof.Rows L2
theorem log_ok {i : Int} (h0 : 0 ≤ i) (h1 : i < 10 ^ 30) : i.natAbs.log2 < 1920 := by
  have h2 : i.natAbs < 2 ^ 1920 := by
    have : i.natAbs < 10 ^ 30 := by omega
    exact Nat.lt_trans this (by decide)
  by_cases hz : i.natAbs = 0
  · rw [hz]; decide
  · exact (Nat.log2_lt hz).mpr h2
def wK (a l : Int) (il : Addr) : List (Key × V) := [(.inr "at", .int a), (.inr "left", .int l), (.inr "ids", .ref il)]
theorem dg_at {H : Hp} {d il : Addr} {a l : Int} (h : H d = some (.dK (wK a l il))) : DGet H d (.str "at") (some (.int a)) := DGet.k (k := .inr "at") h
theorem dg_left {H : Hp} {d il : Addr} {a l : Int} (h : H d = some (.dK (wK a l il))) : DGet H d (.str "left") (some (.int l)) := DGet.k (k := .inr "left") h
theorem dg_ids {H : Hp} {d il : Addr} {a l : Int} (h : H d = some (.dK (wK a l il))) : DGet H d (.str "ids") (some (.ref il)) := DGet.k (k := .inr "ids") h
def lTags : List Str := ["input", "area", "select", "option", "box", "div", "form", "input"]
def spFalse : Sp := fun _ _ _ _ => False
def Used (ids : List Int) (l l' : Nat) (ks : List Dn) : Prop := l' ≤ l ∧ ids.take l = ids.take l' ++ (numS ks).reverse
def spLN (n : Nat) : Sp := fun vs H Q _ => ∃ (rl wd il : Addr) (d : Int) (zs ids : List Int) (G : Hp) (M : List (Addr × HO)) (a : Int) (l : Nat), vs = [.ref rl, .ref wd, .int d] ∧ d + n = 4 ∧ Sb G H ((wd, .dK (wK a l il)) :: M) ∧ G rl = some (.lst (zs.map V.int)) ∧ 0 < zs.length ∧ G il = some (.lst (ids.map V.int)) ∧ l ≤ ids.length ∧
  ∀ p xs ks G' H' a' l', Sb G' H' ((wd, .dK (wK a' ((l' : Nat) : Int) il)) :: M) → Same G G' → G' p = some (.tup xs) → NdAs G' xs ks → AllS NamesOk ks → dS ks ≤ n + 1 → Used ids l l' ks → Q (.ref p) H'
section
variable {P : Program} {w : World} {K : PySem.W.Frag} {mg : Str → Option Value} {base : Heap} {C : Ad}
theorem sc__law_nodes : FnScope ["rows", "world", "depth", "nodes", "_law_turn", "row", "number", "tag", "kids"] ["rows", "world", "depth"] (defScope s__law_nodes) := ⟨rfl, rfl, rfl, by decide +kernel, rfl, by decide +kernel, by decide +kernel⟩
theorem ln_0 (T : Txt K w mg C) {k : Nat} : Cal P w K mg base (k + 1) "_law_nodes" spFalse := cal_of T.d__law_nodes sc__law_nodes (fun vs H Q E h => h.elim) (fun f cdv A outer s H vs Q E hr h => h.elim)
theorem ln_S (T : Txt K w mg C) {n : Nat} {sp : Sp} (hsp : ∀ m, m + 1 = n → sp = spLN m) (G_law_nodes : Cal P w K mg base (n + 2) "_law_nodes" sp) : Cal P w K mg base (n + 3) "_law_nodes" (spLN n) := by
  have G_law_attributes := ok_lattrs (P := P) (base := base) T
  refine cal_of T.d__law_nodes sc__law_nodes (fun vs H Q E h => ?_) (fun f cdv A outer s H vs Q E hr h => ?_)
  · obtain ⟨rl, wd, il, d, zs, ids, G, M, a, l, rfl, _⟩ := h
    rfl
  · obtain ⟨rl, wd, il, d, zs, ids, G, M, a, l, rfl, hdn, S, hrl, zl, hil, hl, q⟩ := h
    have hu := hu_of hr
    have big : 100000 < sizeLine := by decide
    have draw : ∀ j : Int, ∃ z, atI (zs.map V.int) (j % ((zs.map V.int).length : Int)) = some (.int z) := fun j => by
      rw [List.length_map]
      exact map_int_atR (Int.emod_nonneg _ (by omega)) (Int.emod_lt_of_pos _ (by omega))
    have L0 : (0 : Int) < ((zs.map V.int).length : Int) := by rw [List.length_map]; omega
    obtain ⟨z0, hz0⟩ := draw a
    have r0 : 0 ≤ z0 % 3 := Int.emod_nonneg _ (by decide)
    have r1 : z0 % 3 < 3 := Int.emod_lt_of_pos _ (by decide)
    refine ⟨_, (pss_cons (ps_set (i := 3) sc__law_nodes.nd rfl (Or.inl rfl) (pe_lst pa_nil)) (pss_cons (ps_for PassesOwn.never rfl (pi_range1 (by rfl) T.z_range (pa_cons (pe_op op_add pe_int (pe_op op_mod (pe_callTy call_int1 (by rfl) T.z_int (by decide +kernel) (pa_cons (pe_ix ix_list (pv 0) (pe_op op_mod (pe_dget hu (pv 1) pe_str (fun _ _ => rfl)) (pe_callB call_len_seq (by rfl) T.z_len PySem.boot_len (pa_cons (pv 0) pa_nil))) (fun _ _ => rfl)) pa_nil)) pe_int)) pa_nil)) (pg_name (i := 4) sc__law_nodes.nd rfl (Or.inl rfl)) (pss_cons (ps_set (i := 5) sc__law_nodes.nd rfl (Or.inl rfl) (pe_op op_fdiv (pe_ix ix_list (pv 0) (pe_op op_mod (pe_dget hu (pv 1) pe_str (fun _ _ => rfl)) (pe_callB call_len_seq (by rfl) T.z_len PySem.boot_len (pa_cons (pv 0) pa_nil))) (fun _ _ => rfl)) pe_int)) (pss_cons (ps_dput hu (pv 1) pe_str (pe_op op_add (pe_dget hu (pv 1) pe_str (fun _ _ => rfl)) pe_int) rfl) (pss_cons (ps_if (pt_cmpR op_le (pe_dget hu (pv 1) pe_str (fun _ _ => rfl)) pe_int (nomark _)) (pss_one ps_break) pss_nil) (pss_cons (ps_dput hu (pv 1) pe_str (pe_op op_sub (pe_dget hu (pv 1) pe_str (fun _ _ => rfl)) pe_int) rfl) (pss_cons (ps_set (i := 6) sc__law_nodes.nd rfl (Or.inl rfl) (pe_ix ix_list (pe_dget hu (pv 1) pe_str (fun _ _ => rfl)) (pe_dget hu (pv 1) pe_str (fun _ _ => rfl)) (fun _ _ => rfl))) (pss_one (ps_if (pt_cmpR op_eq (pe_op op_mod (pv 5) pe_int) pe_int (nomark _)) (pss_one (ps_expr (pe_bm PySem.F.plainAttrs_list PySem.F.slot_list_append PySem.F.type_list_append mt_append (pv 3) (pa_cons (pe_tup (pa_cons pe_str (pa_cons (pv 6) (pa_cons (pe_op op_add_str pe_str (pe_callTy call_str_int (by rfl) T.z_str (by decide +kernel) (pa_cons (pe_op op_mod (pe_callTy call_int1 (by rfl) T.z_int (by decide +kernel) (pa_cons (pe_op op_fdiv (pv 5) pe_int) pa_nil)) pe_int) pa_nil))) pa_nil)))) pa_nil)))) (pss_cons (ps_set (i := 7) sc__law_nodes.nd rfl (Or.inl rfl) (pe_ix ix_list (pe_lst (pa_cons pe_str (pa_cons pe_str (pa_cons pe_str (pa_cons pe_str (pa_cons pe_str (pa_cons pe_str (pa_cons pe_str (pa_cons pe_str pa_nil))))))))) (pe_op op_mod (pe_callTy call_int1 (by rfl) T.z_int (by decide +kernel) (pa_cons (pe_op op_fdiv (pv 5) pe_int) pa_nil)) pe_int) (fun _ _ => rfl))) (pss_cons (ps_set (i := 8) sc__law_nodes.nd rfl (Or.inl rfl) (pe_tup pa_nil)) (C8.pss_cut (ps_if (PW.pt (pw_and (pt_cmpR op_lt (pv 2) pe_int (nomark _)) (pw_and1 (pt_cmpR op_gt (pe_op op_mod (pe_op op_fdiv (pv 5) pe_int) pe_int) pe_int (nomark _))))) (pss_one (ps_set (i := 8) sc__law_nodes.nd rfl (Or.inl rfl) (pe_c G_law_nodes hr (by omega) (by rfl) (pa_cons (pv 0) (pa_cons (pv 1) (pa_cons (pe_op op_add (pv 2) pe_int) pa_nil)))))) pss_nil) (pss_one (ps_expr (pe_bm PySem.F.plainAttrs_list PySem.F.slot_list_append PySem.F.type_list_append mt_append (pv 3) (pa_cons (pe_tup (pa_cons pe_str (pa_cons (pv 6) (pa_cons (pv 7) (pa_cons (pe_c G_law_attributes hr (by omega) (by rfl) (pa_cons (pe_callTy call_int1 (by rfl) T.z_int (by decide +kernel) (pa_cons (pe_op op_fdiv (pv 5) pe_int) pa_nil)) pa_nil)) (pa_cons (pv 8) pa_nil)))))) pa_nil))))))))))))))) (pss_one (ps_ret (pe_callTy call_tuple_of (by rfl) T.z_tuple (by decide +kernel) (pa_cons (pv 3) pa_nil)))))), ?_⟩
    refine ⟨by show 0 ≤ sizeLine; decide, fun p hp => ?_⟩
    have S1 := S.add (o := .lst []) hp
    have hrl1 := S1.s _ _ hrl
    refine ⟨_, rfl, _, rfl, wd, _, rfl, dg_at S1.hd2, _, rfl, rl, _, rfl, .inl (SqL.of hrl1), _, _, rfl, rfl, L0, rl, _, _, _, rfl, rfl, SqL.of hrl1, hz0, .inl ⟨_, rfl, _, _, rfl, rfl, (by show (0 : Int) < 3; decide), _, _, rfl, rfl, _, rfl, by omega, by omega, ?_⟩⟩
    have fin : ∀ (G1 H1 : Hp) (ks : List Dn) (xs : List V) (a1 : Int) (l1 : Nat) (σ : L2.St), Sb G1 H1 ((p, .lst xs) :: (wd, .dK (wK a1 l1 il)) :: M) → Same G G1 → NdAs G1 xs ks → AllS NamesOk ks → dS ks ≤ n + 1 → Used ids l l1 ks → σ[3]? = some (some (V.ref p)) → tRet (tCB (fun xs H Q => ∃ p ys, xs = [.ref p] ∧ ((SqL K H p ys ∧ ∀ l, H l = none → Q (.ref l) (upd H l (.tup ys))) ∨ (SqT K H p ys ∧ Q (.ref p) H))) (tCons (tVar 3) tNil)) { nx := fun _ H' => Q .non H', rt := Q } σ H1 := by
      intro G1 H1 ks xs a1 l1 σ S1 g1 dk ak bk us e3
      refine ⟨_, e3, p, xs, rfl, .inl ⟨SqL.of S1.hd, fun t ht => ?_⟩⟩
      obtain ⟨S2, g2⟩ := S1.drop
      have S3 := S2.alloc (o := .tup xs) ht
      have g3 := S2.grow (o := .tup xs) ht
      exact q t xs ks _ _ a1 l1 S3 (Same.trans g1 (Same.trans g2 g3)) upd_same (dk.same (Same.trans g2 g3)) ak bk us
    refine for_it (walk_range (lo := 0) (n := (1 + z0 % 3).toNat)) (fun i σ H' => ∃ (G1 : Hp) (ks : List Dn) (xs : List V) (a1 : Int) (l1 : Nat) (y4 y5 y6 y7 y8 : Option V), Sb G1 H' ((p, .lst xs) :: (wd, .dK (wK a1 l1 il)) :: M) ∧ Same G G1 ∧ NdAs G1 xs ks ∧ AllS NamesOk ks ∧ dS ks ≤ n + 1 ∧ ks.length ≤ i ∧ Used ids l l1 ks ∧
      σ = [some (.ref rl), some (.ref wd), some (.int d), some (.ref p), y4, y5, y6, y7, y8]) ⟨G, [], [], a, l, none, none, none, none, none, S1, Same.refl _, .nil, trivial, Nat.zero_le _, Nat.le_refl _, ⟨Nat.le_refl _, by simp [numS]⟩, rfl⟩ (fun _ _ _ _ _ => trivial) ?_ ?_
    · rintro i x σ H1 H2 hi ⟨G1, ks, xs, a1, l1, y4, y5, y6, y7, y8, S2, g1, dk, ak, bk, kl, us, rfl⟩ ⟨rfl, rfl⟩
      obtain ⟨z, hz⟩ := draw a1
      have hrl2 := S2.s _ _ (g1 _ _ hrl)
      have S3 := S2.put2 (u := .dK (wK (a1 + 1) l1 il))
      refine ⟨_, rfl, _, rfl, wd, _, rfl, dg_at S2.hd2, _, rfl, rl, _, rfl, .inl (SqL.of hrl2), _, _, rfl, rfl, L0, rl, _, _, _, rfl, rfl, SqL.of hrl2, hz, _, _, rfl, rfl, ⟨by decide, by decide⟩, ?_⟩
      refine ⟨_, rfl, wd, _, rfl, dg_at S2.hd2, _, _, rfl, rfl, _, rfl, wd, upd H2 wd (.dK (wK (a1 + 1) l1 il)), rfl, DPut.k (k := .inr "at") S2.hd2 (by show 3 < _; decide), ?_⟩
      show _
      refine ⟨_, rfl, wd, _, rfl, dg_left S3.hd2, _, _, rfl, rfl, _, rfl, ite2 (fun cb => ?_) (fun cb => ?_)⟩
      · exact fin G1 _ ks xs (a1 + 1) l1 _ S3 g1 dk ak bk us rfl
      have l0 : 0 < l1 := by
        have : ¬ ((l1 : Int) ≤ 0) := fun z => cb (decide_eq_true z)
        omega
      obtain ⟨l2, rfl⟩ : ∃ l2, l1 = l2 + 1 := ⟨l1 - 1, by omega⟩
      have S4 := S3.put2 (u := .dK (wK (a1 + 1) l2 il))
      have e2 : putK (wK (a1 + 1) ((l2 + 1 : Nat) : Int) il) (.inr "left") (.int (((l2 + 1 : Nat) : Int) - 1)) = wK (a1 + 1) l2 il := by
        rw [show (((l2 + 1 : Nat) : Int) - 1) = (l2 : Int) by omega]
        rfl
      have dp := DPut.k (k := .inr "left") (v := .int (((l2 + 1 : Nat) : Int) - 1)) S3.hd2 (by show 3 < _; decide)
      rw [e2] at dp
      refine ⟨_, rfl, wd, _, rfl, dg_left S3.hd2, _, _, rfl, rfl, _, rfl, wd, upd (upd H2 wd (.dK (wK (a1 + 1) ((l2 + 1 : Nat) : Int) il))) wd (.dK (wK (a1 + 1) l2 il)), rfl, dp, ?_⟩
      generalize upd (upd H2 wd (.dK (wK (a1 + 1) ((l2 + 1 : Nat) : Int) il))) wd (.dK (wK (a1 + 1) l2 il)) = H4 at S4 ⊢
      obtain ⟨us1, us2⟩ := us
      have hl2 : l2 < ids.length := by omega
      have hnum : atI (ids.map V.int) (l2 : Int) = some (.int ids[l2]) := by
        unfold atI ixN
        rw [if_pos (by omega), if_pos (by rw [List.length_map]; omega)]
        rw [show ((l2 : Nat) : Int).toNat = l2 by omega]
        simp [hl2]
      have etk : ids.take (l2 + 1) = ids.take l2 ++ [ids[l2]] := by
        rw [List.take_add_one, List.getElem?_eq_getElem hl2]
        rfl
      generalize ids[l2] = num at hnum etk
      have i3 : i < 3 := by omega
      have step : ∀ (d' : Dn) (v : V) (G3 H3 : Hp) (l3 : Nat) (a3 : Int) (y4 y5 y6 y7 y8 : Option V), Sb G3 H3 ((p, .lst xs) :: (wd, .dK (wK a3 l3 il)) :: M) → Same G1 G3 → NdA G3 v d' → AllD NamesOk d' → dN d' ≤ n + 1 → l3 ≤ l2 → ids.take (l2 + 1) = ids.take l3 ++ (numN d').reverse →
          ∃ l' xs' v', V.ref p = .ref l' ∧ [v] = [v'] ∧ H3 l' = some (.lst xs') ∧ xs'.length < sizeLine ∧ (∃ (G1 : Hp) (ks : List Dn) (xs : List V) (a1 : Int) (l1 : Nat) (z4 z5 z6 z7 z8 : Option V), Sb G1 (upd H3 l' (.lst (xs' ++ [v']))) ((p, .lst xs) :: (wd, .dK (wK a1 l1 il)) :: M) ∧ Same G G1 ∧ NdAs G1 xs ks ∧ AllS NamesOk ks ∧ dS ks ≤ n + 1 ∧ ks.length ≤ i + 1 ∧ Used ids l l1 ks ∧
      [some (V.ref rl), some (.ref wd), some (.int d), some (.ref p), y4, y5, y6, y7, y8] = [some (.ref rl), some (.ref wd), some (.int d), some (.ref p), z4, z5, z6, z7, z8]) := by
        intro d' v G3 H3 l3 a3 y4 y5 y6 y7 y8 S3 g3 dv ad bd l32 eu
        have xl := dk.len
        refine ⟨p, xs, v, rfl, rfl, S3.hd, by omega, G3, ks ++ [d'], xs ++ [v], a3, l3, y4, y5, y6, y7, y8, S3.put, Same.trans g1 g3, (dk.same g3).app (.cons dv .nil), AllS_app ak (AllS_one ad), by rw [dS_app, dS_one]; omega, by rw [List.length_append, List.length_singleton]; omega, ⟨by omega, ?_⟩, rfl⟩
        rw [us2, eu, numS_app, numS_one, List.reverse_append, List.append_assoc]
      refine ⟨_, rfl, wd, _, rfl, dg_ids S4.hd2, _, rfl, wd, _, rfl, dg_left S4.hd2, il, _, _, _, rfl, rfl, SqL.of (S4.s _ _ (g1 _ _ hil)), hnum, ?_⟩
      refine ⟨_, rfl, _, _, rfl, rfl, (by show (0 : Int) < 4; decide), rfl, _, rfl, ite2 (fun c4 => ?_) (fun c4 => ?_)⟩
      · have q0 : 0 ≤ z / 3 / 4 % 50 := Int.emod_nonneg _ (by decide)
        have q1 : z / 3 / 4 % 50 < 50 := Int.emod_lt_of_pos _ (by decide)
        refine ⟨_, rfl, .inl ⟨rfl, _, SqL.of S4.hd⟩, _, rfl, _, rfl, _, _, rfl, rfl, ⟨by decide, by decide⟩, .inl ⟨_, rfl, _, _, rfl, rfl, (by show (0 : Int) < 50; decide), _, rfl, log_ok q0 (by omega), _, _, rfl, rfl, ?_, by show 3 ≤ sizeLine; decide, fun t ht => ?_⟩⟩
        · have := toString_length_le (k := 2) q0 (by decide) (by omega)
          have h1 : ("t" : Str).length = 1 := by decide
          rw [h1]
          exact Nat.le_trans (show _ ≤ 3 by omega) (by decide)
        · have S5 := S4.alloc (o := .tup [.str "text", .int num, .str ("t" ++ Str.ofString (toString (z / 3 / 4 % 50)))]) ht
          have g5 := S4.grow (o := .tup [.str "text", .int num, .str ("t" ++ Str.ofString (toString (z / 3 / 4 % 50)))]) ht
          exact step (.tx num _) (.ref t) _ _ l2 (a1 + 1) _ _ _ _ _ S5 g5 (.tx upd_same) (by simp only [AllD]; exact List.nodup_nil) (Nat.zero_le _) (Nat.le_refl _) (by rw [etk]; simp [numN])
      · have q0 : 0 ≤ z / 3 / 4 % 8 := Int.emod_nonneg _ (by decide)
        have q1 : z / 3 / 4 % 8 < 8 := Int.emod_lt_of_pos _ (by decide)
        obtain ⟨tg, htg, htm⟩ := atI_mem (xs := lTags.map V.str) q0 q1
        obtain ⟨tag, _, rfl⟩ := List.mem_map.mp htm
        refine ⟨by show 8 ≤ sizeLine; decide, fun u hu0 => ⟨_, rfl, _, _, rfl, rfl, ⟨by decide, by decide⟩, .inl ⟨_, rfl, _, _, rfl, rfl, (by show (0 : Int) < 8; decide), u, _, _, _, rfl, rfl, SqL.of upd_same, htg, ?_⟩⟩⟩
        have S5 := S4.alloc (o := .lst (lTags.map V.str)) hu0
        have g5 := S4.grow (o := .lst (lTags.map V.str)) hu0
        refine ⟨by show 0 ≤ sizeLine; decide, fun pk hpk => ?_⟩
        have S7 := S5.alloc (o := .tup []) hpk
        have g7 := Same.trans g5 (S5.grow (o := .tup []) hpk)
        have hpk7 : upd (upd G1 u (.lst (lTags.map V.str))) pk (.tup []) pk = some (.tup []) := upd_same
        generalize upd (upd G1 u (.lst (lTags.map V.str))) pk (.tup []) = G7 at S7 g7 hpk7
        refine ⟨fun σ' H' => ∃ (G8 : Hp) (kk : List Dn) (kxs : List V) (pk' : Addr) (a8 : Int) (l8 : Nat), Sb G8 H' ((p, .lst xs) :: (wd, .dK (wK a8 l8 il)) :: M) ∧ Same G7 G8 ∧ G8 pk' = some (.tup kxs) ∧ NdAs G8 kxs kk ∧ AllS NamesOk kk ∧ dS kk ≤ n ∧ Used ids l2 l8 kk ∧
          σ' = [some (.ref rl), some (.ref wd), some (.int d), some (.ref p), some (.int (0 + (i : Int))), some (.int (z / 3)), some (.int num), some (.str tag), some (.ref pk')], ?_, ?_⟩
        · have none_ : ∃ (G8 : Hp) (kk : List Dn) (kxs : List V) (pk' : Addr) (a8 : Int) (l8 : Nat), Sb G8 (upd (upd H4 u (.lst (lTags.map V.str))) pk (.tup [])) ((p, .lst xs) :: (wd, .dK (wK a8 l8 il)) :: M) ∧ Same G7 G8 ∧ G8 pk' = some (.tup kxs) ∧ NdAs G8 kxs kk ∧ AllS NamesOk kk ∧ dS kk ≤ n ∧ Used ids l2 l8 kk ∧
            [some (V.ref rl), some (.ref wd), some (.int d), some (.ref p), some (.int (0 + (i : Int))), some (.int (z / 3)), some (.int num), some (.str tag), some (.ref pk)] = [some (.ref rl), some (.ref wd), some (.int d), some (.ref p), some (.int (0 + (i : Int))), some (.int (z / 3)), some (.int num), some (.str tag), some (.ref pk')] :=
              ⟨G7, [], [], pk, _, l2, S7, Same.refl _, hpk7, .nil, trivial, Nat.zero_le _, ⟨Nat.le_refl _, by simp [numS]⟩, rfl⟩
          refine ⟨_, rfl, _, _, rfl, rfl, _, rfl, ite2 (fun k1 => ⟨_, rfl, _, _, rfl, rfl, ⟨by decide, by decide⟩, _, _, rfl, rfl, (by show (0 : Int) < 3; decide), _, _, rfl, rfl, _, rfl, ite2 (fun k2 => ?_) (fun k2 => ?_)⟩) (fun k1 => iteF ?_)⟩
          · have d4 : d < 4 := of_decide_eq_true k1
            obtain ⟨m, rfl⟩ : ∃ m, n = m + 1 := ⟨n - 1, by omega⟩
            have e := hsp m rfl
            subst e
            refine ⟨_, rfl, _, rfl, _, rfl, _, _, rfl, rfl, rl, wd, il, d + 1, zs, ids, G7, (p, .lst xs) :: M, a1 + 1, l2, rfl, by omega, S7.swap, g7 _ _ (g1 _ _ hrl), zl, g7 _ _ (g1 _ _ hil), by omega, fun pk' kxs kk G8 H8 a8 l8 S8 g8 h8 nk8 ak8 dk8 us8 => ?_⟩
            exact ⟨G8, kk, kxs, pk', a8, l8, S8.swap, g8, h8, nk8, ak8, dk8, us8, rfl⟩
          · exact none_
          · exact none_
        · rintro σ' H8 ⟨G8, kk, kxs, pk', a8, l8, S8, g8, h8, nk8, ak8, dk8, ⟨u81, u82⟩, rfl⟩
          refine ⟨_, rfl, .inl ⟨rfl, _, SqL.of S8.hd⟩, _, rfl, _, rfl, _, rfl, _, _, rfl, rfl, ⟨by decide, by decide⟩, .inl ⟨_, rfl, _, rfl, fun va as H9 s9 hva hnd => ⟨_, rfl, by show 5 ≤ sizeLine; decide, fun t ht => ?_⟩⟩⟩
          have S9 := S8.call s9
          have g9 : Same G8 (joinH G8 (newer H8 H9)) := joinH_l
          have hva9 := hva.same (joinH_r (G := G8) S8.s)
          have S10 := S9.alloc (o := .tup [.str "element", .int num, .str tag, va, .ref pk']) ht
          have g10 := S9.grow (o := .tup [.str "element", .int num, .str tag, va, .ref pk']) ht
          have g810 := Same.trans g9 g10
          refine step (.el num tag as kk) (.ref t) _ _ l8 a8 _ _ _ _ _ S10 (Same.trans g7 (Same.trans g8 g810)) (.el upd_same (hva9.same g10) (g810 _ _ h8) (nk8.same g810)) (by simp only [AllD]; exact ⟨hnd, ak8⟩) (by simp only [dN]; omega) u81 ?_
          rw [etk, u82]
          simp [numN]
    · rintro σ H1 ⟨G1, ks, xs, a1, l1, y4, y5, y6, y7, y8, S2, g1, dk, ak, bk, kl, us, rfl⟩
      exact fin G1 H1 ks xs a1 l1 _ S2 g1 dk ak bk us rfl
theorem ln_N (T : Txt K w mg C) : ∀ n : Nat, Cal P w K mg base (n + 3) "_law_nodes" (spLN n)
  | 0 => ln_S T (n := 0) (sp := spFalse) (fun m h => by omega) (ln_0 T)
  | n + 1 => ln_S T (n := n + 1) (sp := spLN n) (fun m h => by rw [Nat.succ.inj h]) (ln_N T n)
end
end VL

set_option Elab.async false
set_option linter.all false
set_option pp.maxSteps 700
set_option maxRecDepth 100000
set_option maxHeartbeats 4000000
namespace VL
open PySem PySem.Spec PyProof.Rows L2
def spDoc : Sp := fun vs H Q _ => ∃ (rl : Addr) (zs : List Int) (sd : Int) (m : Nat) (G : Hp) (M : List (Addr × HO)), vs = [.ref rl, .int sd, .int m] ∧ Sb G H M ∧ G rl = some (.lst (zs.map V.int)) ∧ 0 < zs.length ∧ m ≤ 22 ∧
  ∀ p xs ks G' H', Sb G' H' M → Same G G' → G' p = some (.tup xs) → NdAs G' xs ks → AllS NamesOk ks → dS ks ≤ 5 → (numS ks).Nodup → (numS ks).length ≤ 22 → (∀ x ∈ numS ks, x ≤ (m : Int)) → Q (.ref p) H'
theorem Sb.tl {G H : Hp} {M : List (Addr × HO)} {p : Addr × HO} (S : Sb G H (p :: M)) : Sb G H M := by
  have nd := S.nd
  rw [List.map_cons, List.nodup_cons] at nd
  exact ⟨S.s, fun x hx => S.m x (List.mem_cons_of_mem _ hx), nd.2⟩
def KnA (H : Hp) (v : V) (x : Dn × List Dn) : Prop := ∃ t u al us, v = .ref t ∧ H t = some (.tup [u, .ref al]) ∧ NdA H u x.1 ∧ H al = some (.lst us) ∧ NdAs H us x.2
theorem KnA.same {H H' : Hp} {v : V} {x : Dn × List Dn} (h : KnA H v x) (s : Same H H') : KnA H' v x := by
  obtain ⟨t, u, al, us, e, h1, h2, h3, h4⟩ := h
  exact ⟨t, u, al, us, e, s _ _ h1, h2.same s, s _ _ h3, h4.same s⟩
def KnAs (H : Hp) (vs : List V) (xs : List (Dn × List Dn)) : Prop := Paired (KnA H) vs xs
theorem KnAs.same {H H' : Hp} {vs : List V} {xs : List (Dn × List Dn)} (h : KnAs H vs xs) (s : Same H H') : KnAs H' vs xs := Paired.mono (fun _ _ k => k.same s) h
def spLAll (n : Nat) : Sp := fun vs H Q _ => ∃ (a ar : Addr) (G : Hp) (M : List (Addr × HO)) (xs us : List V) (ks AR : List Dn), vs = [.ref a, .ref ar] ∧ Sb G H M ∧ G a = some (.tup xs) ∧ NdAs G xs ks ∧ G ar = some (.lst us) ∧ NdAs G us AR ∧ dS ks ≤ n ∧ us.length + n ≤ 10 ∧ (numS ks).length ≤ 22 ∧
  ∀ p rs G' H', Sb G' H' M → Same G G' → G' p = some (.lst rs) → KnAs G' rs (anS AR ks) → Q (.ref p) H'
section
variable {P : Program} {w : World} {K : PySem.W.Frag} {mg : Str → Option Value} {base : Heap} {C : Ad}
theorem sc__law_document : FnScope ["rows", "seed", "many", "ids", "k"] ["rows", "seed", "many"] (defScope s__law_document) := ⟨rfl, rfl, rfl, by decide +kernel, rfl, by decide +kernel, by decide +kernel⟩
theorem ok_doc (T : Txt K w mg C) : Cal P w K mg base 10 "_law_document" spDoc := by
  have G_law_nodes := ln_N (P := P) (base := base) T 4
  refine cal_of T.d__law_document sc__law_document (fun vs H Q E h => ?_) (fun f cdv A outer s H vs Q E hr h => ?_)
  · obtain ⟨rl, zs, sd, m, G, M, rfl, _⟩ := h
    rfl
  · obtain ⟨rl, zs, sd, m, G, M, rfl, S, hrl, zl, hm, q⟩ := h
    have draw : ∀ j : Int, ∃ z, atI (zs.map V.int) (j % ((zs.map V.int).length : Int)) = some (.int z) := fun j => by
      rw [List.length_map]
      exact map_int_atR (Int.emod_nonneg _ (by omega)) (Int.emod_lt_of_pos _ (by omega))
    have L0 : (0 : Int) < ((zs.map V.int).length : Int) := by rw [List.length_map]; omega
    refine ⟨_, (pss_cons (ps_set (i := 3) sc__law_document.nd rfl (Or.inl rfl) (pe_lst pa_nil)) (pss_cons (ps_for PassesOwn.never rfl (pi_range1 (by rfl) T.z_range (pa_cons (pv 2) pa_nil)) (pg_name (i := 4) sc__law_document.nd rfl (Or.inl rfl)) (pss_one (ps_expr (pe_bm PySem.F.plainAttrs_list PySem.F.slot_list_insert PySem.F.type_list_insert mt_insert (pv 3) (pa_cons (pe_op op_mod (pe_callTy call_int1 (by rfl) T.z_int (by decide +kernel) (pa_cons (pe_op op_fdiv (pe_ix ix_list (pv 0) (pe_op op_mod (pe_op op_add (pv 1) (pv 4)) (pe_callB call_len_seq (by rfl) T.z_len PySem.boot_len (pa_cons (pv 0) pa_nil))) (fun _ _ => rfl)) pe_int) pa_nil)) (pe_op op_add (pe_callB call_len_seq (by rfl) T.z_len PySem.boot_len (pa_cons (pv 3) pa_nil)) pe_int)) (pa_cons (pe_op op_add (pv 4) pe_int) pa_nil)))))) (pss_one (ps_ret (pe_c G_law_nodes hr (by decide) (by rfl) (pa_cons (pv 0) (pa_cons (pe_disp (pps_cons pe_str (pv 1) (pps_cons pe_str (pv 2) (pps_cons pe_str (pv 3) pps_nil))) (by rfl) (by rfl) (fun z => by cases z) (by decide)) (pa_cons pe_int pa_nil)))))))), ?_⟩
    refine ⟨by show 0 ≤ sizeLine; decide, fun p hp => ?_⟩
    refine ⟨_, rfl, _, rfl, by omega, by omega, ?_⟩
    refine for_range (lo := 0) (n := ((m : Nat) : Int).toNat) (fun i σ H' => ∃ (ids : List Int) (y4 : Option V), Sb G H' ((p, .lst (ids.map V.int)) :: M) ∧ ids.length = i ∧ ids.Nodup ∧ (∀ x ∈ ids, x ≤ i) ∧ σ = [some (.ref rl), some (.int sd), some (.int m), some (.ref p), y4]) ⟨[], _, S.add hp, rfl, List.nodup_nil, (fun _ h => nomatch h), rfl⟩ ?_ ?_
    · rintro i σ H1 hi ⟨ids, y4, S1, il, nd, hb, rfl⟩
      have hi1 : H1 p = some (.lst (ids.map V.int)) := S1.hd
      obtain ⟨z, hz⟩ := draw (sd + (0 + (i : Int)))
      have hrl1 := S1.s _ _ hrl
      have k0 : 0 ≤ z / 11 % ((ids.length : Int) + 1) := Int.emod_nonneg _ (by omega)
      have k1 : z / 11 % ((ids.length : Int) + 1) < (ids.length : Int) + 1 := Int.emod_lt_of_pos _ (by omega)
      have big : 100000 < sizeLine := by decide
      refine ⟨_, rfl, .inl ⟨rfl, _, SqL.of hi1⟩, _, rfl, _, rfl, _, rfl, _, _, rfl, rfl, _, rfl, rl, _, rfl, .inl (SqL.of hrl1), _, _, rfl, rfl, L0, rl, _, _, _, rfl, rfl, SqL.of hrl1, hz, _, _, rfl, rfl, ⟨by decide, by decide⟩, .inl ⟨_, rfl, _, rfl, p, _, rfl, .inl (SqL.of hi1), _, _, rfl, rfl, _, _, rfl, rfl, (by rw [List.length_map]; omega), ?_⟩⟩
      rw [List.length_map]
      refine ⟨_, rfl, _, _, rfl, rfl, p, _, _, _, rfl, rfl, hi1, by rw [List.length_map]; omega, k0, ?_, ?_⟩
      · exact Int.lt_trans k1 (by omega)
      · generalize (z / 11 % ((ids.length : Int) + 1)).toNat = j
        have pm : (ids.take j ++ [(i : Int) + 1] ++ ids.drop j).Perm (((i : Int) + 1) :: ids) := by
          have := List.perm_middle (a := (i : Int) + 1) (l₁ := ids.take j) (l₂ := ids.drop j)
          rw [List.take_append_drop] at this
          rwa [List.append_assoc, List.singleton_append]
        refine ⟨ids.take j ++ [(i : Int) + 1] ++ ids.drop j, _, ?_, ?_, ?_, fun x hx => ?_, rfl⟩
        · rw [List.map_append, List.map_append, List.map_take, List.map_drop]
          have S2 := S1.put (u := .lst ((ids.map V.int).take j ++ [V.int (i : Int)  |> fun _ => V.int ((i : Int) + 1)] ++ (ids.map V.int).drop j))
          rw [show (0 : Int) + (i : Int) = (i : Int) by omega]
          exact S2
        · rw [pm.length_eq, List.length_cons, il]
        · rw [pm.nodup_iff, List.nodup_cons]
          exact ⟨fun hm => by have := hb _ hm; omega, nd⟩
        · rcases List.mem_cons.mp (pm.mem_iff.mp hx) with rfl | hx
          · omega
          · have := hb x hx
            omega
    · rintro σ H1 ⟨ids, y4, S1, il, nd, hb, rfl⟩
      obtain ⟨S2, g2⟩ := S1.drop
      have il' : ids.length = m := by omega
      refine ⟨_, rfl, fun d hd => ?_⟩
      refine ⟨_, rfl, _, rfl, _, rfl, upd_same, wK sd m p, rfl, (by show 3 ≤ 15; decide), ?_⟩
      have e : mergeK [] (wK sd m p) = wK sd m p := rfl
      rw [e]
      have S3 := S2.add (o := .dK (wK sd m p)) hd
      have eu : upd (upd H1 d (.dK [])) d (.dK (wK sd m p)) = upd H1 d (.dK (wK sd m p)) := by
        funext b
        by_cases z : b = d
        · subst z; rw [upd_same, upd_same]
        · rw [upd_ne z, upd_ne z, upd_ne z]
      rw [eu]
      refine ⟨rl, d, p, 0, zs, ids, _, M, sd, m, rfl, by decide, S3, g2 _ _ hrl, zl, upd_same, by omega, fun pt xs ks G' H' a' l' S' g' hpt nk ak dk us => ?_⟩
      obtain ⟨u1, u2⟩ := us
      rw [List.take_of_length_le (by omega)] at u2
      refine q pt xs ks G' H' S'.tl (Same.trans g2 g') hpt nk ak dk ?_ ?_ (fun x hx => ?_)
      · rw [u2, List.nodup_append] at nd
        exact (List.reverse_perm _).nodup_iff.mp nd.2.1
      · have := congrArg List.length u2
        rw [List.length_append, List.length_reverse] at this
        omega
      · have hx2 : x ∈ ids := by
          rw [u2]
          exact List.mem_append_right _ (List.mem_reverse.mpr hx)
        have := hb x hx2
        omega
theorem sc__law_all : FnScope ["nodes", "around", "found", "node"] ["nodes", "around"] (defScope s__law_all) := ⟨rfl, rfl, rfl, by decide +kernel, rfl, by decide +kernel, by decide +kernel⟩
theorem lall_0 (T : Txt K w mg C) {k : Nat} : Cal P w K mg base (k + 1) "_law_all" spFalse := cal_of T.d__law_all sc__law_all (fun vs H Q E h => h.elim) (fun f cdv A outer s H vs Q E hr h => h.elim)
theorem lall_S (T : Txt K w mg C) {n : Nat} {sp : Sp} (hsp : ∀ m, m + 1 = n → sp = spLAll m) (G_law_all : Cal P w K mg base (n + 2) "_law_all" sp) : Cal P w K mg base (n + 3) "_law_all" (spLAll n) := by
  refine cal_of T.d__law_all sc__law_all (fun vs H Q E h => ?_) (fun f cdv A outer s H vs Q E hr h => ?_)
  · obtain ⟨a, ar, G, M, xs, us, ks, AR, rfl, _⟩ := h
    rfl
  · obtain ⟨a, ar, G, M, xs, us, ks, AR, rfl, S, ha, hn, har, hus, hd, hul, hnl, q⟩ := h
    refine ⟨_, (pss_cons (ps_set (i := 2) sc__law_all.nd rfl (Or.inl rfl) (pe_lst pa_nil)) (pss_cons (ps_for PassesOwn.never rfl (pi_tup (pv 0)) (pg_name (i := 3) sc__law_all.nd rfl (Or.inl rfl)) (pss_cons (ps_expr (pe_bm PySem.F.plainAttrs_list PySem.F.slot_list_append PySem.F.type_list_append mt_append (pv 2) (pa_cons (pe_tup (pa_cons (pv 3) (pa_cons (pv 1) pa_nil))) pa_nil))) (pss_one (ps_if (pt_cmpR op_eq (pe_ix ix_tup (pv 3) pe_int (fun _ _ => rfl)) pe_str (nomark _)) (pss_one (ps_set (i := 2) sc__law_all.nd rfl (Or.inl rfl) (pe_op op_cat (pv 2) (pe_c G_law_all hr (by omega) (by rfl) (pa_cons (pe_ix ix_tup (pv 3) pe_int (fun _ _ => rfl)) (pa_cons (pe_op op_cat (pv 1) (pe_lst (pa_cons (pv 3) pa_nil))) pa_nil)))))) pss_nil)))) (pss_one (ps_ret (pv 2))))), ?_⟩
    refine ⟨by show 0 ≤ sizeLine; decide, fun p hp => ?_⟩
    have big : 100000 < sizeLine := by decide
    have lenT : ∀ i, (anS AR (ks.take i)).length ≤ 22 := fun i => by
      rw [anS_num]
      have := congrArg List.length (numS_app (ks.take i) (ks.drop i))
      rw [List.take_append_drop, List.length_append] at this
      omega
    refine ⟨_, rfl, a, rfl, ⟨_, SqT.of (S.add (o := .lst []) hp |>.s _ _ ha)⟩, ?_⟩
    refine for_it (walk_tup (K := K) (a := a) (xs := xs)) (fun i σ H' => ∃ (G1 : Hp) (p1 : Addr) (rs : List V) (y3 : Option V), Sb G1 H' ((p1, .lst rs) :: M) ∧ Same G G1 ∧ KnAs G1 rs (anS AR (ks.take i)) ∧ σ = [some (.ref a), some (.ref ar), some (.ref p1), y3])
      ⟨G, p, [], _, S.add hp, Same.refl _, .nil, rfl⟩ (fun i σ H' _ z => by obtain ⟨G1, p1, rs, y3, S1, g1, _⟩ := z; exact SqT.of (S1.s _ _ (g1 _ _ ha))) ?_ ?_
    · rintro i x σ H1 H2 hi ⟨G1, p1, rs, y3, S1, g1, kn, rfl⟩ ⟨rfl, hx⟩
      obtain ⟨d, hd', hxd⟩ := hn.get hx
      have rl := kn.length
      have l22 := lenT i
      have eT : ks.take (i + 1) = ks.take i ++ [d] := by
        rw [List.take_add_one, hd']
        rfl
      have l22' := lenT (i + 1)
      refine ⟨_, rfl, .inl ⟨rfl, _, SqL.of S1.hd⟩, _, rfl, _, rfl, by show 2 ≤ sizeLine; decide, fun t ht => ?_⟩
      have S2 := S1.alloc (o := .tup [x, .ref ar]) ht
      have g2 := S1.grow (o := .tup [x, .ref ar]) ht
      refine ⟨p1, rs, _, rfl, rfl, S2.hd, by omega, ?_⟩
      have S3 := S2.put (u := .lst (rs ++ [.ref t]))
      have g12 := Same.trans g1 g2
      have kn3 : KnAs (upd G1 t (.tup [x, .ref ar])) (rs ++ [.ref t]) (anS AR (ks.take i) ++ [(d, AR)]) := Paired.snoc (kn.same g2) ⟨t, x, ar, us, rfl, upd_same, hxd.same g12, g12 _ _ har, hus.same g12⟩
      generalize upd (upd H2 t (.tup [x, .ref ar])) p1 (.lst (rs ++ [.ref t])) = H3 at S3 ⊢
      generalize upd G1 t (.tup [x, .ref ar]) = G3 at S3 kn3 g12
      cases hxd with
      | @tx b m y h1 =>
        refine ⟨_, rfl, _, _, _, _, rfl, rfl, SqT.of (S3.s _ _ (g12 _ _ h1)), at_0, rfl, _, rfl, ite2 (fun q => absurd (of_decide_eq_true q) (by decide)) (fun _ => ?_)⟩
        refine ⟨G3, p1, _, _, S3, g12, ?_, rfl⟩
        rw [eT, anS_app]
        simpa [anS, an] using kn3
      | @el b pk m tg va as vs kk h1 hA hk hs =>
        have h13 := S3.s _ _ (g12 _ _ h1)
        refine ⟨_, rfl, _, _, _, _, rfl, rfl, SqT.of h13, at_0, rfl, _, rfl, ite2 (fun _ => ?_) (fun q => absurd (decide_eq_true rfl) q)⟩
        have dk : dS kk + 1 ≤ n := Nat.le_trans (dS_get hd') hd
        obtain ⟨m', rfl⟩ : ∃ m', n = m' + 1 := ⟨n - 1, by omega⟩
        have e := hsp m' rfl
        subst e
        refine ⟨_, rfl, _, rfl, _, _, _, _, rfl, rfl, SqT.of h13, rfl, _, rfl, _, rfl, by show 1 ≤ sizeLine; decide, fun e he => ?_⟩
        have S4 := S3.alloc (o := .lst [.ref b]) he
        have g4 := S3.grow (o := .lst [.ref b]) he
        have he4 : upd G3 e (.lst [.ref b]) e = some (.lst [.ref b]) := upd_same
        have har4 := g4 _ _ (g12 _ _ har)
        generalize upd H3 e (.lst [.ref b]) = H4 at S4 ⊢
        generalize upd G3 e (.lst [.ref b]) = G4 at S4 g4 he4 har4
        refine ⟨ar, e, us, [.ref b], rfl, rfl, S4.s _ _ har4, S4.s _ _ he4, ?_, fun al hal => ?_⟩
        · show us.length + 1 ≤ _
          omega
        have S5 := S4.alloc (o := .lst (us ++ [.ref b])) hal
        have g5 := S4.grow (o := .lst (us ++ [.ref b])) hal
        have hal5 : upd G4 al (.lst (us ++ [.ref b])) al = some (.lst (us ++ [.ref b])) := upd_same
        generalize upd H4 al (.lst (us ++ [.ref b])) = H5 at S5 ⊢
        generalize upd G4 al (.lst (us ++ [.ref b])) = G5 at S5 g5 hal5
        have g35 := Same.trans g4 g5
        have g15 := Same.trans g12 g35
        refine ⟨pk, al, G5, (p1, .lst (rs ++ [.ref t])) :: M, vs, us ++ [.ref b], kk, AR ++ [.el m tg as kk], rfl, S5, g15 _ _ hk, hs.same g15, hal5, (hus.same g15).app (.cons ((NdA.el h1 hA hk hs).same g15) .nil), by omega, by rw [List.length_append, List.length_singleton]; omega, ?_, fun q5 rs5 G6 H6 S6 g6 hq6 kn6 => ?_⟩
        · rw [anS_num] at l22'
          rw [eT, numS_app, numS_one, List.length_append] at l22'
          simp only [numN, List.length_cons] at l22'
          omega
        · have l5 := kn6.length
          have eA : anS AR (ks.take (i + 1)) = anS AR (ks.take i) ++ (.el m tg as kk, AR) :: anS (AR ++ [.el m tg as kk]) kk := by
            rw [eT, anS_app]
            simp [anS, an]
          have l6 : (anS (AR ++ [Dn.el m tg as kk]) kk).length ≤ 22 := by
            rw [eA, List.length_append, List.length_cons] at l22'
            omega
          refine ⟨p1, q5, _, rs5, rfl, rfl, S6.hd, S6.s _ _ hq6, ?_, fun p2 hp2 => ?_⟩
          · rw [List.length_append, List.length_singleton]
            omega
          · have S7 := (S6.add (o := .lst (rs ++ [.ref t] ++ rs5)) hp2).swap
            obtain ⟨S8, g8⟩ := S7.drop
            have g38 := Same.trans g35 (Same.trans g6 g8)
            refine ⟨_, p2, _, _, S8, Same.trans g12 g38, ?_, rfl⟩
            have k1 := paired_app (kn3.same g38) (kn6.same g8)
            rw [eA]
            rw [show anS AR (ks.take i) ++ (Dn.el m tg as kk, AR) :: anS (AR ++ [Dn.el m tg as kk]) kk = anS AR (ks.take i) ++ [(Dn.el m tg as kk, AR)] ++ anS (AR ++ [Dn.el m tg as kk]) kk by simp]
            exact k1
    · rintro σ H1 ⟨G1, p1, rs, y3, S1, g1, kn, rfl⟩
      have nl := hn.len
      rw [List.take_of_length_le (by omega)] at kn
      obtain ⟨S2, g2⟩ := S1.drop
      exact ⟨_, rfl, q p1 rs _ H1 S2 (Same.trans g1 g2) upd_same (kn.same g2)⟩
theorem lall_N (T : Txt K w mg C) : ∀ n : Nat, Cal P w K mg base (n + 3) "_law_all" (spLAll n)
  | 0 => lall_S T (n := 0) (sp := spFalse) (fun m h => by omega) (lall_0 T)
  | n + 1 => lall_S T (n := n + 1) (sp := spLAll n) (fun m h => by rw [Nat.succ.inj h]) (lall_N T n)
end
end VL

set_option Elab.async false
set_option linter.all false
set_option pp.maxSteps 700
set_option maxRecDepth 100000
set_option maxHeartbeats 4000000
namespace VL
open PySem PySem.Spec PyProof.Rows L2
def Dn.tag : Dn → Str
  | .tx _ _ => ""
  | .el _ t _ _ => t
/-- none: no control -/
def kindD (d : Dn) : Option Str :=
  if d.isE && decide (d.tag ∈ [("input" : Str), "area", "select"]) then
    some (if d.tag = "select" then "select" else if d.tag = "input" ∧ attrD d.as "kind" = .str "box" then "box" else "field")
  else none
def kV' : Option Str → V
  | some k => .str k
  | none => .non
def isOpt (d : Dn) : Bool := d.isE && decide (d.tag = "option")
def optV (d : Dn) : Str := match attrD d.as "value" with
  | .str x => x
  | _ => ""
def boundD (d : Dn) (k : Str) : V := attrD d.as (if k = "box" then "checked" else "value")
def shownV (v : V) (k : Str) : V := if k = "box" then .bl (decide (v = .str "true")) else match v with
  | .str x => .str x
  | _ => .str ""
theorem attrD_cases (as : List (Str × Str)) (x : Str) : attrD as x = .non ∨ ∃ y, attrD as x = .str y := by
  unfold attrD
  split
  · exact .inr ⟨_, rfl⟩
  · exact .inl rfl
theorem kind_no {m : Int} {tg : Str} {as : List (Str × Str)} {kk : List Dn} (h : ¬ tg ∈ [("input" : Str), "area", "select"]) : kindD (.el m tg as kk) = none := by
  unfold kindD
  rw [if_neg]
  show ¬ (true && decide (tg ∈ [("input" : Str), "area", "select"])) = true
  rw [decide_eq_false h]
  decide
theorem kind_in {m : Int} {tg : Str} {as : List (Str × Str)} {kk : List Dn} (h : tg ∈ [("input" : Str), "area", "select"]) : kindD (.el m tg as kk) = some (if tg = "select" then ("select" : Str) else if tg = "input" ∧ attrD as "kind" = .str "box" then ("box" : Str) else ("field" : Str)) := by
  unfold kindD
  rw [if_pos]
  · rfl
  · show (true && decide (tg ∈ [("input" : Str), "area", "select"])) = true
    rw [decide_eq_true h]
    rfl
theorem str_ne {x y : Str} (h : ¬ x = y) : ¬ V.str x = V.str y := fun z => h (V.str.inj z)
theorem inV_s (x : Str) : ∀ l : List Str, inV (.str x) (l.map V.str) = decide (x ∈ l)
  | [] => rfl
  | y :: l => by
    have ih := inV_s x l
    unfold inV at ih ⊢
    rw [List.map_cons, List.any_cons, ih]
    by_cases e : y = x
    · subst e
      simp [eqV]
    · have e2 : ¬ x = y := fun z => e z.symm
      simp [eqV, e, e2]
theorem flat_s (l : List Str) : (l.map V.str).all flatV = true := List.all_eq_true.mpr fun y hy => by
  obtain ⟨x, _, rfl⟩ := List.mem_map.mp hy
  rfl
def spKind : Sp := fun vs H Q _ => ∃ (v : V) (d : Dn), vs = [v] ∧ NdA H v d ∧ NamesOk d ∧ ∀ H', Same H H' → Q (kV' (kindD d)) H'
def spLKind : Sp := fun vs H Q _ => ∃ (v : V) (d : Dn), vs = [v] ∧ NdA H v d ∧ ∀ H', Same H H' → Q (kV' (kindD d)) H'
def spIsOpt : Sp := fun vs H Q _ => ∃ (v : V) (d : Dn), vs = [v] ∧ NdA H v d ∧ Q (.bl (isOpt d)) H
def spOptV : Sp := fun vs H Q _ => ∃ (v : V) (d : Dn), vs = [v] ∧ NdA H v d ∧ d.isE = true ∧ NamesOk d ∧ ∀ H', Same H H' → Q (.str (optV d)) H'
def spBound : Sp := fun vs H Q _ => ∃ (v : V) (d : Dn) (k : Str), vs = [v, .str k] ∧ NdA H v d ∧ d.isE = true ∧ NamesOk d ∧ ∀ H', Same H H' → Q (boundD d k) H'
def spShownFor : Sp := fun vs H Q _ => ∃ (v : V) (k : Str), vs = [v, .str k] ∧ (v = .non ∨ ∃ y, v = .str y) ∧ Q (shownV v k) H
section
variable {P : Program} {w : World} {K : PySem.W.Frag} {mg : Str → Option Value} {base : Heap} {C : Ad}
theorem sc_is_option : FnScope ["node"] ["node"] (defScope s_is_option) := ⟨rfl, rfl, rfl, by decide +kernel, rfl, by decide +kernel, by decide +kernel⟩
theorem ok_isOpt (T : Txt K w mg C) : Cal P w K mg base 1 "is_option" spIsOpt := by
  refine cal_of T.d_is_option sc_is_option (fun vs H Q E h => ?_) (fun f cdv A outer s H vs Q E hr h => ?_)
  · obtain ⟨v, d, rfl, _⟩ := h
    rfl
  · obtain ⟨v, d, rfl, hd, q⟩ := h
    refine ⟨_, (pss_one (ps_ret (pe_and (pe_cmpR op_eq (pe_ix ix_tup (pv 0) pe_int (fun _ _ => rfl)) pe_str (nomark _)) (pe_one (pe_cmpR op_eq (pe_ix ix_tup (pv 0) pe_int (fun _ _ => rfl)) pe_str (nomark _)))))), ?_⟩
    cases hd with
    | @tx b m y h1 =>
      exact ⟨_, rfl, _, _, _, _, rfl, rfl, SqT.of h1, rfl, rfl, _, rfl, ite2 (fun c => absurd c (by decide)) (fun _ => q)⟩
    | @el b pk m tg va as vs kk h1 hA hk hs =>
      refine ⟨_, rfl, _, _, _, _, rfl, rfl, SqT.of h1, rfl, rfl, _, rfl, ite2 (fun _ => ?_) (fun c => absurd (by decide) c)⟩
      refine ⟨_, rfl, _, _, _, _, rfl, rfl, SqT.of h1, rfl, rfl, ?_⟩
      have : isOpt (.el m tg as kk) = decide (V.str tg = V.str "option") := by
        show (true && decide (tg = "option")) = _
        rw [Bool.true_and]
        by_cases c : tg = "option"
        · rw [decide_eq_true c, c]
          exact (decide_eq_true rfl).symm
        · rw [decide_eq_false c]
          exact (decide_eq_false (str_ne c)).symm
      rw [← this]
      exact q
theorem sc_value_of_option : FnScope ["node", "value"] ["node"] (defScope s_value_of_option) := ⟨rfl, rfl, rfl, by decide +kernel, rfl, by decide +kernel, by decide +kernel⟩
theorem ok_optV (T : Txt K w mg C) : Cal P w K mg base 4 "value_of_option" spOptV := by
  have Gattribute_in := ok_attr (P := P) (base := base) T
  refine cal_of T.d_value_of_option sc_value_of_option (fun vs H Q E h => ?_) (fun f cdv A outer s H vs Q E hr h => ?_)
  · obtain ⟨v, d, rfl, _⟩ := h
    rfl
  · obtain ⟨v, d, rfl, hd, he, hn, q⟩ := h
    refine ⟨_, (pss_cons (ps_set (i := 1) sc_value_of_option.nd rfl (Or.inl rfl) (pe_c Gattribute_in hr (by decide) (by rfl) (pa_cons (pv 0) (pa_cons pe_str pa_nil)))) (pss_one (ps_ret (pe_ifExp (pt_cmp (pc_isN (pv 1))) pe_str (pv 1))))), ?_⟩
    refine ⟨_, rfl, v, d, "value", rfl, hd, he, hn, fun H1 s1 => ?_⟩
    have qq := q H1 s1
    unfold optV at qq
    rcases attrD_cases d.as "value" with e | ⟨y, e⟩
    · rw [e] at qq ⊢
      exact ⟨_, rfl, true, rfl, iteT qq⟩
    · rw [e] at qq ⊢
      exact ⟨_, rfl, false, rfl, iteF ⟨_, rfl, qq⟩⟩
theorem sc_bound_text : FnScope ["node", "kind"] ["node", "kind"] (defScope s_bound_text) := ⟨rfl, rfl, rfl, by decide +kernel, rfl, by decide +kernel, by decide +kernel⟩
theorem ok_bound (T : Txt K w mg C) : Cal P w K mg base 4 "bound_text" spBound := by
  have Gattribute_in := ok_attr (P := P) (base := base) T
  refine cal_of T.d_bound_text sc_bound_text (fun vs H Q E h => ?_) (fun f cdv A outer s H vs Q E hr h => ?_)
  · obtain ⟨v, d, k, rfl, _⟩ := h
    rfl
  · obtain ⟨v, d, k, rfl, hd, he, hn, q⟩ := h
    refine ⟨_, (pss_one (ps_ret (pe_c Gattribute_in hr (by decide) (by rfl) (pa_cons (pv 0) (pa_cons (pe_ifExp (pt_cmpR op_eq (pv 1) pe_str (nomark _)) pe_str pe_str) pa_nil))))), ?_⟩
    refine ⟨_, rfl, ?_⟩
    have qq : ∀ H', Same H H' → Q (attrD d.as (if k = "box" then "checked" else "value")) H' := q
    by_cases c : k = "box"
    · rw [if_pos c] at qq
      exact ⟨_, rfl, rfl, _, rfl, ite2 (fun _ => ⟨v, d, "checked", rfl, hd, he, hn, qq⟩) (fun z => absurd (decide_eq_true (by rw [c])) z)⟩
    · rw [if_neg c] at qq
      exact ⟨_, rfl, rfl, _, rfl, ite2 (fun z => absurd (of_decide_eq_true z) (str_ne c)) (fun _ => ⟨v, d, "value", rfl, hd, he, hn, qq⟩)⟩
theorem sc_shown_for : FnScope ["text", "kind"] ["text", "kind"] (defScope s_shown_for) := ⟨rfl, rfl, rfl, by decide +kernel, rfl, by decide +kernel, by decide +kernel⟩
theorem ok_shownFor (T : Txt K w mg C) : Cal P w K mg base 1 "shown_for" spShownFor := by
  refine cal_of T.d_shown_for sc_shown_for (fun vs H Q E h => ?_) (fun f cdv A outer s H vs Q E hr h => ?_)
  · obtain ⟨v, k, rfl, _⟩ := h
    rfl
  · obtain ⟨v, k, rfl, hv, q⟩ := h
    refine ⟨_, (pss_cons (ps_if (pt_cmpR op_eq (pv 1) pe_str (nomark _)) (pss_one (ps_ret (pe_cmpR op_eq (pv 0) pe_str (nomark _)))) pss_nil) (pss_one (ps_ret (pe_ifExp (pt_cmp (pc_isN (pv 0))) pe_str (pv 0))))), ?_⟩
    refine ⟨_, rfl, rfl, _, rfl, ?_⟩
    unfold shownV at q
    by_cases c : k = "box"
    · rw [if_pos c] at q
      subst c
      refine ite2 (fun _ => ⟨_, rfl, ?_, q⟩) (fun z => absurd (decide_eq_true rfl) z)
      rcases hv with rfl | ⟨y, rfl⟩ <;> rfl
    · rw [if_neg c] at q
      refine ite2 (fun z => absurd (of_decide_eq_true z) (str_ne c)) (fun _ => ?_)
      rcases hv with rfl | ⟨y, rfl⟩
      · exact ⟨_, rfl, true, rfl, iteT q⟩
      · exact ⟨_, rfl, false, rfl, iteF ⟨_, rfl, q⟩⟩
theorem sc_kind_of_control : FnScope ["node"] ["node"] (defScope s_kind_of_control) := ⟨rfl, rfl, rfl, by decide +kernel, rfl, by decide +kernel, by decide +kernel⟩
theorem ok_kind (T : Txt K w mg C) : Cal P w K mg base 4 "kind_of_control" spKind := by
  have Gattribute_in := ok_attr (P := P) (base := base) T
  refine cal_of T.d_kind_of_control sc_kind_of_control (fun vs H Q E h => ?_) (fun f cdv A outer s H vs Q E hr h => ?_)
  · obtain ⟨v, d, rfl, _⟩ := h
    rfl
  · obtain ⟨v, d, rfl, hd, hn, q⟩ := h
    obtain ⟨ta, tg, ts, _⟩ := T.g_CONTROLS
    refine ⟨_, (pss_cons (ps_if (PW.pt (pw_or (pt_cmpR op_ne (pe_ix ix_tup (pv 0) pe_int (fun _ _ => rfl)) pe_str (nomark _)) (pw_or1 (pt_cmpR op_notIn_seq (pe_ix ix_tup (pv 0) pe_int (fun _ _ => rfl)) (C8.pe_gc (by rfl) tg) rfl)))) (pss_one (ps_ret pe_non)) pss_nil) (pss_cons (ps_if (pt_cmpR op_eq (pe_ix ix_tup (pv 0) pe_int (fun _ _ => rfl)) pe_str (nomark _)) (pss_one (ps_ret pe_str)) pss_nil) (pss_cons (ps_if (PW.pt (pw_and (pt_cmpR op_eq (pe_ix ix_tup (pv 0) pe_int (fun _ _ => rfl)) pe_str (nomark _)) (pw_and1 (pt_cmpR op_eq (pe_c Gattribute_in hr (by decide) (by rfl) (pa_cons (pv 0) (pa_cons pe_str pa_nil))) pe_str (nomark _))))) (pss_one (ps_ret pe_str)) pss_nil) (pss_one (ps_ret pe_str))))), ?_⟩
    have hd0 := hd
    cases hd with
    | @tx b m y h1 =>
      exact ⟨_, rfl, _, _, _, _, rfl, rfl, SqT.of h1, rfl, rfl, _, rfl, ite2 (fun _ => iteT (q H (Same.refl _))) (fun c => absurd (by decide) c)⟩
    | @el b pk m tn va as vs kk h1 hA hk hs =>
      refine ⟨_, rfl, _, _, _, _, rfl, rfl, SqT.of h1, rfl, rfl, _, rfl, ite2 (fun c => absurd c (by decide)) (fun _ => ?_)⟩
      refine ⟨_, rfl, _, _, _, _, rfl, rfl, SqT.of h1, rfl, ta, _, rfl, .inr (ts _), rfl, flat_s [("input" : Str), "area", "select"], _, rfl, ?_⟩
      rw [show inV (.str tn) t_CONTROLS = decide (tn ∈ [("input" : Str), "area", "select"]) from inV_s tn [("input" : Str), "area", "select"]]
      by_cases c : tn ∈ [("input" : Str), "area", "select"]
      · rw [decide_eq_true c]
        rw [kind_in c] at q
        refine iteF ?_
        refine ⟨_, rfl, _, _, _, _, rfl, rfl, SqT.of h1, rfl, rfl, _, rfl, ite2 (fun c1 => ?_) (fun c1 => ?_)⟩
        · rw [if_pos (V.str.inj (of_decide_eq_true c1))] at q
          exact q H (Same.refl _)
        · have n1 : ¬ tn = "select" := fun z => c1 (decide_eq_true (by rw [z]))
          rw [if_neg n1] at q
          refine ⟨_, rfl, _, _, _, _, rfl, rfl, SqT.of h1, rfl, rfl, _, rfl, ite2 (fun c2 => ?_) (fun c2 => iteF ?_)⟩
          · have e2 := V.str.inj (of_decide_eq_true c2)
            refine ⟨_, rfl, .ref b, _, "kind", rfl, hd0, rfl, hn, fun H1 s1 => ⟨?_, _, rfl, ite2 (fun c3 => ?_) (fun c3 => ?_)⟩⟩
            · rcases attrD_cases (Dn.el m tn as kk).as "kind" with e | ⟨y, e⟩ <;> rw [e] <;> rfl
            · rw [if_pos ⟨e2, of_decide_eq_true c3⟩] at q
              exact q H1 s1
            · rw [if_neg (fun z => c3 (decide_eq_true z.2))] at q
              exact q H1 s1
          · rw [if_neg (fun z => c2 (decide_eq_true (by rw [z.1])))] at q
            exact q H (Same.refl _)
      · rw [decide_eq_false c]
        rw [kind_no c] at q
        exact iteT (q H (Same.refl _))
theorem sc__law_kind : FnScope ["node"] ["node"] (defScope s__law_kind) := ⟨rfl, rfl, rfl, by decide +kernel, rfl, by decide +kernel, by decide +kernel⟩
theorem ok_lkind (T : Txt K w mg C) : Cal P w K mg base 3 "_law_kind" spLKind := by
  have G_law_attribute := ok_lattr (P := P) (base := base) T
  refine cal_of T.d__law_kind sc__law_kind (fun vs H Q E h => ?_) (fun f cdv A outer s H vs Q E hr h => ?_)
  · obtain ⟨v, d, rfl, _⟩ := h
    rfl
  · obtain ⟨v, d, rfl, hd, q⟩ := h
    refine ⟨_, (pss_cons (ps_if (PW.pt (pw_or (pt_cmpR op_ne (pe_ix ix_tup (pv 0) pe_int (fun _ _ => rfl)) pe_str (nomark _)) (pw_or1 (pt_cmpR op_notIn_seq (pe_ix ix_tup (pv 0) pe_int (fun _ _ => rfl)) (pe_lst (pa_cons pe_str (pa_cons pe_str (pa_cons pe_str pa_nil)))) rfl)))) (pss_one (ps_ret pe_non)) pss_nil) (pss_cons (ps_if (pt_cmpR op_eq (pe_ix ix_tup (pv 0) pe_int (fun _ _ => rfl)) pe_str (nomark _)) (pss_one (ps_ret pe_str)) pss_nil) (pss_one (ps_ret (pe_ifExp (PW.pt (pw_and (pt_cmpR op_eq (pe_ix ix_tup (pv 0) pe_int (fun _ _ => rfl)) pe_str (nomark _)) (pw_and1 (pt_cmpR op_eq (pe_c G_law_attribute hr (by decide) (by rfl) (pa_cons (pv 0) (pa_cons pe_str pa_nil))) pe_str (nomark _))))) pe_str pe_str))))), ?_⟩
    have hd0 := hd
    cases hd with
    | @tx b m y h1 =>
      exact ⟨_, rfl, _, _, _, _, rfl, rfl, SqT.of h1, rfl, rfl, _, rfl, ite2 (fun _ => iteT (q H (Same.refl _))) (fun c => absurd (by decide) c)⟩
    | @el b pk m tn va as vs kk h1 hA hk hs =>
      refine ⟨_, rfl, _, _, _, _, rfl, rfl, SqT.of h1, rfl, rfl, _, rfl, ite2 (fun c => absurd c (by decide)) (fun _ => ?_)⟩
      refine ⟨_, rfl, _, _, _, _, rfl, rfl, SqT.of h1, rfl, by show 3 ≤ sizeLine; decide, fun ta hta => ?_⟩
      have su : Same H (upd H ta (.lst ([("input" : Str), "area", "select"].map V.str))) := Sm.new hta
      have hta' : upd H ta (.lst ([("input" : Str), "area", "select"].map V.str)) ta = some (.lst ([("input" : Str), "area", "select"].map V.str)) := upd_same
      refine ⟨ta, _, rfl, .inl (SqL.of hta'), rfl, flat_s [("input" : Str), "area", "select"], _, rfl, ?_⟩
      rw [inV_s tn [("input" : Str), "area", "select"]]
      have h1' := su _ _ h1
      have hd1 := hd0.same su
      show ite _ (tRet (tC .non) _ _ (upd H ta (.lst ([("input" : Str), "area", "select"].map V.str)))) (tNext _ _ (upd H ta (.lst ([("input" : Str), "area", "select"].map V.str))))
      generalize upd H ta (.lst ([("input" : Str), "area", "select"].map V.str)) = H2 at su h1' hd1 ⊢
      by_cases c : tn ∈ [("input" : Str), "area", "select"]
      · rw [decide_eq_true c]
        rw [kind_in c] at q
        refine iteF ?_
        refine ⟨_, rfl, _, _, _, _, rfl, rfl, SqT.of h1', rfl, rfl, _, rfl, ite2 (fun c1 => ?_) (fun c1 => ?_)⟩
        · rw [if_pos (V.str.inj (of_decide_eq_true c1))] at q
          exact q _ su
        · have n1 : ¬ tn = "select" := fun z => c1 (decide_eq_true (by rw [z]))
          rw [if_neg n1] at q
          refine ⟨_, rfl, _, _, _, _, rfl, rfl, SqT.of h1', rfl, rfl, _, rfl, ite2 (fun c2 => ?_) (fun c2 => iteF ?_)⟩
          · have e2 := V.str.inj (of_decide_eq_true c2)
            refine ⟨_, rfl, .ref b, _, "kind", rfl, hd1, rfl, ?_⟩
            refine ⟨?_, _, rfl, ite2 (fun c3 => ?_) (fun c3 => ?_)⟩
            · rcases attrD_cases (Dn.el m tn as kk).as "kind" with e | ⟨y, e⟩ <;> rw [e] <;> rfl
            · rw [if_pos ⟨e2, of_decide_eq_true c3⟩] at q
              exact q _ su
            · rw [if_neg (fun z => c3 (decide_eq_true z.2))] at q
              exact q _ su
          · rw [if_neg (fun z => c2 (decide_eq_true (by rw [z.1])))] at q
            exact q _ su
      · rw [decide_eq_false c]
        rw [kind_no c] at q
        exact iteT (q _ su)
end
end VL

set_option Elab.async false
set_option linter.all false
set_option maxRecDepth 100000
set_option maxHeartbeats 4000000
/-! parts of documents -/
namespace VL
open PySem PySem.Spec PyProof.Rows L2
mutual
theorem an_sub (ar : List Dn) : ∀ d : Dn, ∀ p ∈ an ar d, ∀ x ∈ an p.2 p.1, x ∈ an ar d
  | .tx n y, p, hp, x, hx => by
    simp only [an, List.mem_singleton] at hp
    subst hp
    exact hx
  | .el n t as ks, p, hp, x, hx => by
    have hp' := hp
    simp only [an, List.mem_cons] at hp'
    rcases hp' with rfl | hp'
    · exact hx
    · simp only [an, List.mem_cons]
      exact .inr (anS_sub (ar ++ [.el n t as ks]) ks p hp' x hx)
theorem anS_sub (ar : List Dn) : ∀ ks : List Dn, ∀ p ∈ anS ar ks, ∀ x ∈ an p.2 p.1, x ∈ anS ar ks
  | [], p, hp, _, _ => by simp [anS] at hp
  | d :: r, p, hp, x, hx => by
    simp only [anS, List.mem_append] at hp ⊢
    rcases hp with hp | hp
    · exact .inl (an_sub ar d p hp x hx)
    · exact .inr (anS_sub ar r p hp x hx)
end
mutual
theorem an_cat (a b : List Dn) : ∀ d : Dn, an (a ++ b) d = (an b d).map fun p => (p.1, a ++ p.2)
  | .tx n y => by simp only [an, List.map_cons, List.map_nil]
  | .el n t as ks => by
    have h := anS_cat a (b ++ [Dn.el n t as ks]) ks
    rw [← List.append_assoc] at h
    simp only [an, List.map_cons]
    exact congrArg (List.cons _) h
theorem anS_cat (a b : List Dn) : ∀ ks : List Dn, anS (a ++ b) ks = (anS b ks).map fun p => (p.1, a ++ p.2)
  | [] => by simp only [anS, List.map_nil]
  | d :: r => by
    simp only [anS, List.map_append]
    rw [an_cat a b d, anS_cat a b r]
end
mutual
def flN : Dn → List Dn
  | .tx n x => [.tx n x]
  | .el n t as ks => .el n t as ks :: flS ks
def flS : List Dn → List Dn
  | [] => []
  | d :: r => flN d ++ flS r
end
mutual
theorem it_fl (l : Int) : ∀ d : Dn, (it l d).map (·.2) = flN d
  | .tx n x => by simp only [it, flN, List.map_cons, List.map_nil]
  | .el n t as ks => by
    simp only [it, flN, List.map_cons]
    rw [itS_fl (l + 1) ks]
theorem itS_fl (l : Int) : ∀ ks : List Dn, (itS l ks).map (·.2) = flS ks
  | [] => by simp only [itS, flS, List.map_nil]
  | d :: r => by
    simp only [itS, flS, List.map_append]
    rw [it_fl l d, itS_fl l r]
end
theorem anS_fl (ar : List Dn) (ks : List Dn) : (anS ar ks).map (·.1) = flS ks := by
  have h := congrArg (List.map fun p : Int × Dn => p.2) (itS_an ar ks)
  rw [itS_fl, List.map_map] at h
  rw [h]
  rfl
/-- what stands in an element stands in the document -/
theorem kid_in {ks : List Dn} {n : Int} {t : Str} {as : List (Str × Str)} {kk AR : List Dn} (h : (Dn.el n t as kk, AR) ∈ anS [] ks) {p : Dn × List Dn} (hp : p ∈ anS [.el n t as kk] kk) : (p.1, AR ++ p.2) ∈ anS [] ks := by
  refine anS_sub [] ks _ h _ ?_
  simp only [an, List.mem_cons]
  refine .inr ?_
  rw [anS_cat]
  exact List.mem_map.mpr ⟨p, hp, rfl⟩
theorem flS_in {ks : List Dn} {n : Int} {t : Str} {as : List (Str × Str)} {kk AR : List Dn} (h : (Dn.el n t as kk, AR) ∈ anS [] ks) {e : Dn} (he : e ∈ flS kk) : ∃ B, (e, B) ∈ anS [] ks := by
  rw [← anS_fl [.el n t as kk]] at he
  obtain ⟨p, hp, rfl⟩ := List.mem_map.mp he
  exact ⟨_, kid_in h hp⟩
theorem flS_len (ks : List Dn) : (flS ks).length = (numS ks).length := by
  rw [← itS_fl 1 ks, ← itS_num 1 ks, List.length_map, List.length_map]
mutual
theorem numN_sub (n' : Int) : ∀ d : Dn, ∀ e ∈ flN d, (numN e).length ≤ (numN d).length
  | .tx n x, e, he => by
    simp only [flN, List.mem_singleton] at he
    rw [he]
    exact Nat.le_refl _
  | .el n t as ks, e, he => by
    simp only [flN, List.mem_cons] at he
    rcases he with rfl | he
    · exact Nat.le_refl _
    · have := numS_sub n' ks e he
      simp only [numN, List.length_cons]
      omega
theorem numS_sub (n' : Int) : ∀ ks : List Dn, ∀ e ∈ flS ks, (numN e).length ≤ (numS ks).length
  | [], e, he => by simp [flS] at he
  | d :: r, e, he => by
    simp only [flS, List.mem_append] at he
    simp only [numS, List.length_append]
    rcases he with he | he
    · have := numN_sub n' d e he
      omega
    · have := numS_sub n' r e he
      omega
end
end VL

set_option Elab.async false
set_option linter.all false
set_option pp.maxSteps 700
set_option maxRecDepth 100000
set_option maxHeartbeats 4000000
namespace VL
open PySem PySem.Spec PyProof.Rows L2
theorem zW_upd {H0 : Hp} {a D : Addr} {ks : List Dn} {i : Nat} {σ : L2.St} {H H' : Hp} {us : List V} (h : zW H0 a ks (i + 1) σ H) (k : ∀ b o, H b = some o → b ≠ D → H' b = some o) (d0 : H0 D = none) (hD : H D = some (.lst us)) (ne : σ[2]? ≠ some (some (.ref D))) : zW H0 a ks (i + 1) σ H' := by
  obtain ⟨wl, ws, st, lv, d, v, y4, e, h1, h2, h3, h4, h5, h6⟩ := h
  have nw : wl ≠ D := fun z => ne (by rw [e, z]; rfl)
  exact ⟨wl, ws, st, lv, d, v, y4, e, fun b o e' => k _ _ (h1 _ _ e') fun z => by rw [z, d0] at e'; (cases e'), h2, k _ _ h3 nw, h4.keep fun b xs e' => k _ _ e' fun z => by rw [z, hD] at e'; (cases e'), h5, h6⟩
def openL (ks kk : List Dn) : List Str := (((flS kk).filter isOpt).filter fun e => !disD ks e.num).map optV
def spOpen : Sp := fun vs H Q _ => ∃ (vd vn : V) (ks : List Dn) (d : Dn), vs = [vd, vn] ∧ DocA H vd ks ∧ AllS NamesOk ks ∧ NdA H vn d ∧ d.isE = true ∧ (∀ e ∈ flS d.kids, NamesOk e) ∧ (flS d.kids).length ≤ 1000 ∧
  ∀ p H', Same H H' → H p = none → H' p = some (.lst ((openL ks d.kids).map V.str)) → Q (.ref p) H'
section
variable {P : Program} {w : World} {K : PySem.W.Frag} {mg : Str → Option Value} {base : Heap} {C : Ad}
theorem sc_open_values : FnScope ["document", "select", "options", "_", "node"] ["document", "select"] (defScope s_open_values) := ⟨rfl, rfl, rfl, by decide +kernel, rfl, by decide +kernel, by decide +kernel⟩
theorem ok_open (T : Txt K w mg C) : Cal P w K mg base 10 "open_values" spOpen := by
  have Gwalk := ok_walk (P := P) (base := base) T
  have Gis_option := ok_isOpt (P := P) (base := base) T
  have Gis_disabled := ok_dis (P := P) (base := base) T
  have Gvalue_of_option := ok_optV (P := P) (base := base) T
  refine cal_of T.d_open_values sc_open_values (fun vs H Q E h => ?_) (fun f cdv A outer s H vs Q E hr h => ?_)
  · obtain ⟨vd, vn, ks, d, rfl, _⟩ := h
    rfl
  · obtain ⟨vd, vn, ks, d, rfl, hD, hA, hd, he, hnk, hlen, q⟩ := h
    refine ⟨_, (pss_cons (VG.ps_setLcG (i := 2) (own_ := [("_", 3), ("node", 4)]) (g := gTup K 2 (gCons (gName 3) (gCons (gName 4) (gNil)))) (tt := _) sc_open_values.nd hr.hd rfl rfl (sw_true rfl rfl rfl (by decide +kernel)) Gwalk hr (by decide) (by rfl) (pa_cons (pe_ix ix_tup (pv 1) pe_int (fun _ _ => rfl)) pa_nil) (blkOk_by (N := ["document", "select", "options", "_", "node"]) (sc := (defScope s_open_values)) (by decide +kernel)) (fun _ _ _ _ _ => pg_tupS (K := K) rfl rfl (pgs_cons (pg_name (i := 3) sc_open_values.nd rfl (Or.inl rfl)) (pgs_cons (pg_name (i := 4) sc_open_values.nd rfl (Or.inl rfl)) pgs_nil))) (fun _ _ _ _ _ => pts_one (pt_val (pe_c Gis_option hr (by decide) (by rfl) (pa_cons (pv 4) pa_nil)))) (fun _ _ _ _ _ => (pv 4))) (pss_one (ps_ret (pe_lc (own := [("node", 4)]) (g := gName 4) (tt := _) rfl sc_open_values.nd (pi_list (pv 2)) (blkOk_by (N := ["document", "select", "options", "_", "node"]) (sc := (defScope s_open_values)) (by decide +kernel)) (fun _ _ _ _ _ => pg_name (i := 4) sc_open_values.nd rfl (Or.inl rfl)) (fun _ _ _ _ _ => pts_one (pt_not (pt_val (pe_c Gis_disabled hr (by decide) (by rfl) (pa_cons (pv 0) (pa_cons (pe_ix (ix_tupS (K := K) rfl) (pv 4) pe_int (fun _ _ => rfl)) pa_nil)))))) (fun _ _ _ _ _ => (pe_c Gvalue_of_option hr (by decide) (by rfl) (pa_cons (pv 4) pa_nil))))))), ?_⟩
    cases hd with
    | tx h1 => exact nomatch he
    | @el b pk m tg va as vs kk h1 hA' hk hs =>
      have el : (itS 1 kk).length = (flS kk).length := by rw [← itS_fl 1 kk, List.length_map]
      have hlen' : (flS kk).length ≤ 1000 := hlen
      refine ⟨_, rfl, _, _, _, _, rfl, rfl, SqT.of h1, rfl, _, _, _, _, ⟨pk, vs, kk, _, rfl, Same.refl _, hk, hs, by omega, rfl, rfl, rfl, rfl⟩, fun L D hL hDn hDL => ?_⟩
      refine ⟨fun i σp H' => Same H (VG.drop L H') ∧ (∃ us, VG.drop L H' D = some (.lst us) ∧ us.length ≤ i ∧ NdAs H us (((flS kk).take i).filter isOpt)) ∧ (0 < i → σp[2]? ≠ some (some (.ref D))), fun Hf σp z => ?_, ?_, ?_⟩
      · have n0 : ∀ b ∈ L, upd H D (.lst []) b = none := fun b hb => by
          rw [upd_ne (fun z => hDL (by rw [← z]; exact hb))]
          exact hL b hb
        have ed := VG.drop_fz z n0
        exact ⟨by rw [ed]; exact Sm.new hDn, ⟨[], by rw [ed]; exact upd_same, Nat.le_refl _, .nil⟩, fun h => absurd h (Nat.lt_irrefl _)⟩
      · rintro i σp H1 x Ho Hf σg ⟨s1, ⟨us, hus, ul, nus⟩, c1⟩ fr ⟨hi, wl, t, u, lv, e, rfl, ht, hu, hid, kb, w0, g2, p2, i0, sm⟩ hz fz hn0
        have ed := VG.drop_fz fz hn0
        have sf := fz_same fz hn0
        have nw : D ≠ wl := fun z => by
          rcases Nat.eq_zero_or_pos i with h0 | h0
          · rw [z, i0 h0] at hus
            cases hus
          · exact c1 h0 (by rw [z]; exact p2 h0)
        have hoD : Ho D = some (.lst us) := kb D _ hus nw
        have hfl : (flS kk)[i]? = some e := by
          rw [← itS_fl 1 kk, List.getElem?_map, hid]
          rfl
        have eF : (((flS kk).take (i + 1)).filter isOpt) = (((flS kk).take i).filter isOpt) ++ (if isOpt e then [e] else []) := by
          rw [List.take_add_one, hfl, List.filter_append]
          show _ = _ ++ _
          rw [show ((some e).toList.filter isOpt) = if isOpt e then [e] else [] from by cases h : isOpt e <;> simp [h]]
        refine ⟨t, [.int lv, u], rfl, SqT.of (sf _ _ ht), rfl, _, _, rfl, _, _, rfl, rfl, rfl, ?_⟩
        refine ⟨_, rfl, u, e, rfl, hu.same (Same.trans sm sf), _, rfl, ?_⟩
        cases hE : isOpt e with
        | true =>
          rw [hE] at eF
          refine ⟨_, rfl, us, sf _ _ hoD, ?_, fun b hb => ?_, ?_, ?_⟩
          · exact Nat.lt_of_le_of_lt (show us.length ≤ 1000 by omega) (by decide)
          · rw [upd_ne (fun z => hDL (by rw [← z]; exact hb))]
          · refine zW_upd hz (fun b' o e' ne => ?_) hDn hoD (fun z => ?_)
            · have nL : b' ∉ L := fun mm => by
                rw [hn0 b' mm] at e'
                cases e'
              rw [VG.drop_out nL, upd_ne ne]
              exact sf _ _ e'
            · rw [g2] at z
              cases z
              exact nw rfl
          · refine ⟨fun b' o e' => ?_, ⟨us ++ [u], ?_, by rw [List.length_append]; show us.length + 1 ≤ _; omega, ?_⟩, fun _ z => ?_⟩
            · have nL : b' ∉ L := fun mm => by
                rw [hL b' mm] at e'
                cases e'
              have nD : b' ≠ D := ne_of_none e' hDn
              show VG.drop L (upd Hf D (.lst (us ++ [u]))) b' = some o
              rw [VG.drop_out nL, upd_ne nD]
              exact sf _ _ (sm _ _ e')
            · rw [VG.drop_out hDL]
              exact upd_same
            · rw [eF]
              exact nus.app (.cons hu .nil)
            · rw [g2] at z
              cases z
              exact nw rfl
        | false =>
          rw [hE] at eF
          refine ⟨fun _ _ => rfl, by rw [ed]; exact hz, by rw [ed]; exact sm, ⟨us, by rw [ed]; exact hoD, by omega, by rw [eF]; simpa using nus⟩, fun _ z => ?_⟩
          rw [g2] at z
          cases z
          exact nw rfl
      · rintro i σp H1 Ho ⟨s1, ⟨us, hus, ul, nus⟩, c1⟩ fr ⟨hi, wl, kb, w0, p2, i0, sm⟩ hn0
        have nw : D ≠ wl := fun z => by
          rcases Nat.eq_zero_or_pos i with h0 | h0
          · rw [z, i0 h0] at hus
            cases hus
          · exact c1 h0 (by rw [z]; exact p2 h0)
        have hoD : Ho D = some (.lst us) := kb D _ hus nw
        rw [List.take_of_length_le (by omega)] at nus
        have unl := nus.len
        have fl := List.length_filter_le isOpt (flS kk)
        refine ⟨_, rfl, D, rfl, ⟨_, SqL.of hoD⟩, fun D2 hD2 => ?_⟩
        refine lc_it (walk_list (K := K) (a := D) (xs := us)) (fun j H' => Same Ho H' ∧ H' D2 = some (.lst ((((((flS kk).filter isOpt).take j).filter fun e => !disD ks e.num).map optV).map V.str))) ⟨Sm.new hD2, by rw [upd_same]; rfl⟩ (fun j H' _ z => SqL.of (z.1 _ _ hoD)) ?_ ?_
        · rintro j x H2 H3 hj ⟨s2, h2⟩ ⟨rfl, hx⟩
          obtain ⟨e, hee, hxe⟩ := nus.get hx
          have hxe0 := hxe
          have hmem := List.mem_filter.mp (List.mem_of_getElem? hee)
          obtain ⟨b', ys', rfl, hb'⟩ := hxe.at
          have s3 := Same.trans sm s2
          have eF : (((((flS kk).filter isOpt).take (j + 1)).filter fun e => !disD ks e.num)) = (((((flS kk).filter isOpt).take j).filter fun e => !disD ks e.num)) ++ (if (!disD ks e.num) then [e] else []) := by
            rw [List.take_add_one, hee, List.filter_append]
            show _ = _ ++ _
            rw [show ((some e).toList.filter fun e => !disD ks e.num) = if (!disD ks e.num) then [e] else [] from by cases h : disD ks e.num <;> simp [h]]
          refine ⟨rfl, _, rfl, _, rfl, _, _, _, _, rfl, rfl, SqT.of (s3 _ _ hb'), at_1, vd, ks, e.num, rfl, hD.same s3, hA, fun H4 s4 => ⟨_, rfl, ite2 (fun hX => ?_) (fun hX => ?_)⟩⟩
          · have hX : (!disD ks e.num) = true := hX
            rw [hX] at eF
            have isE : e.isE = true := by
              have := hmem.2
              unfold isOpt at this
              exact (Bool.and_eq_true_iff.mp this).1
            refine ⟨_, rfl, .ref b', e, rfl, hxe0.same (Same.trans s3 s4), isE, hnk e hmem.1, fun H5 s5 => ⟨_, s5 _ _ (s4 _ _ h2), ?_, fun c o eo => ?_, ?_⟩⟩
            · rw [List.length_map, List.length_map]
              refine Nat.lt_of_le_of_lt (List.length_filter_le _ _) ?_
              rw [List.length_take]
              exact Nat.lt_of_le_of_lt (show min j _ ≤ 1000 by omega) (by decide)
            · rw [upd_ne (ne_of_none eo hD2)]
              exact s5 _ _ (s4 _ _ (s2 _ _ eo))
            · rw [upd_same, eF, List.map_append, List.map_append]
              rfl
          · have hX : (!disD ks e.num) = false := Bool.eq_false_iff.mpr hX
            rw [hX] at eF
            refine ⟨Same.trans s2 s4, ?_⟩
            rw [eF]
            simpa using s4 _ _ h2
        · rintro H2 ⟨s2, h2⟩
          rw [List.take_of_length_le (by omega)] at h2
          exact q D2 H2 (Same.trans sm s2) (Same.free sm hD2) h2
end
end VL

set_option Elab.async false
set_option linter.all false
set_option maxRecDepth 100000
set_option maxHeartbeats 4000000
namespace VL
open PySem PySem.Spec PyProof.Rows L2
theorem findD_at {ks : List Dn} (nd : (numS ks).Nodup) {p : Dn × List Dn} (h : p ∈ anS [] ks) : ∃ l, findD ks p.1.num = some (l, p.1) := by
  unfold findD
  rw [show itS 1 ks = (anS [] ks).map fun p => ((p.2.length : Int) + 1, p.1) from itS_an [] ks, List.find?_map]
  have := find_an nd h
  refine ⟨(p.2.length : Int) + 1, ?_⟩
  rw [show ((fun p : Int × Dn => decide (p.2.num = _)) ∘ fun p : Dn × List Dn => ((p.2.length : Int) + 1, p.1)) = (fun q : Dn × List Dn => decide (q.1.num = p.1.num)) from rfl, this]
  rfl
end VL

set_option Elab.async false
set_option linter.all false
set_option pp.maxSteps 700
set_option maxRecDepth 100000
set_option maxHeartbeats 4000000
namespace VL
open PySem PySem.Spec PyProof.Rows L2
abbrev Tb := List (Int × Str × V)
def fsC (kd : Addr) : List (Str × V) := [("known", .ref kd)]
theorem fs_known {kd : Addr} : (fsC kd).lookup ("known" : Str) = some (V.ref kd) := rfl
def TbP (G : Hp) (kvs : List (Key × V)) (tb : Tb) : Prop := Paired (fun (kv : Key × V) (e : Int × Str × V) => kv.1 = .inl e.1 ∧ ∃ r, kv.2 = .ref r ∧ G r = some (.tup [.str e.2.1, e.2.2])) kvs tb
theorem TbP.same {G G' : Hp} {kvs : List (Key × V)} {tb : Tb} (h : TbP G kvs tb) (s : Same G G') : TbP G' kvs tb := Paired.mono (fun _ _ ⟨h1, r, h2, h3⟩ => ⟨h1, r, h2, s _ _ h3⟩) h
def gt (tb : Tb) (n : Int) : Option (Str × V) := (tb.find? fun e => decide (e.1 = n)).map (·.2)
def shV (tb : Tb) (n : Int) : V := match gt tb n with
  | some x => x.2
  | none => .non
def setT (tb : Tb) (n : Int) (v : V) : Tb := tb.map fun e => if e.1 = n then (e.1, e.2.1, v) else e
theorem TbP.val {G : Hp} {n : Int} : ∀ {kvs : List (Key × V)} {tb : Tb}, TbP G kvs tb → (gt tb n = none ∧ valV kvs (.inl n) = none) ∨ ∃ k v r, gt tb n = some (k, v) ∧ valV kvs (.inl n) = some (.ref r) ∧ G r = some (.tup [.str k, v])
  | _, _, .nil => .inl ⟨rfl, rfl⟩
  | _, _, .cons (a := kv) (b := e) ⟨h1, r, h2, h3⟩ t => by
    by_cases c : e.1 = n
    · refine .inr ⟨e.2.1, e.2.2, r, ?_, ?_, h3⟩
      · unfold gt
        rw [List.find?_cons, decide_eq_true c]
        rfl
      · rw [valV_pos (by rw [h1, c]), h2]
    · have e1 : ∀ l, gt (e :: l) n = gt l n := fun l => by
        unfold gt
        rw [List.find?_cons, decide_eq_false c]
      have e2 : ∀ l, valV (kv :: l) (.inl n) = valV l (.inl n) := fun l => valV_neg (by rw [h1]; exact fun z => c (Sum.inl.inj z))
      rw [e1, e2]
      exact TbP.val t
theorem setT_no {tb : Tb} {n : Int} {v : V} (h : gt tb n = none) : setT tb n v = tb := by
  unfold setT
  have : ∀ e ∈ tb, (if e.1 = n then (e.1, e.2.1, v) else e) = e := fun e he => by
    rw [if_neg]
    intro z
    unfold gt at h
    rw [Option.map_eq_none_iff, List.find?_eq_none] at h
    exact h e he (decide_eq_true z)
  rw [List.map_congr_left this, List.map_id']
theorem setT_keys {tb : Tb} {n : Int} {v : V} : (setT tb n v).map (·.1) = tb.map (·.1) := by
  unfold setT
  rw [List.map_map]
  refine List.map_congr_left fun e _ => ?_
  show (if e.1 = n then (e.1, e.2.1, v) else e).1 = e.1
  split <;> rfl
theorem gt_kind : ∀ {tb : Tb} {n : Int} {k : Str} {v0 : V}, (tb.map (·.1)).Nodup → gt tb n = some (k, v0) → ∀ e ∈ tb, e.1 = n → e.2.1 = k
  | [], _, _, _, _, h, e, he, _ => nomatch he
  | e0 :: r, n, k, v0, nd, h, e, he, en => by
    rw [List.map_cons, List.nodup_cons] at nd
    unfold gt at h
    rw [List.find?_cons] at h
    by_cases c : e0.1 = n
    · rw [decide_eq_true c] at h
      have h : e0.2 = (k, v0) := Option.some.inj h
      rcases List.mem_cons.mp he with rfl | he
      · rw [h]
      · exact absurd (List.mem_map.mpr ⟨e, he, by rw [en, c]⟩) nd.1
    · rw [decide_eq_false c] at h
      rcases List.mem_cons.mp he with rfl | he
      · exact absurd en c
      · exact gt_kind nd.2 h e he en
theorem TbP.put {G : Hp} {n : Int} {t : Addr} {k : Str} {v v0 : V} {kvs : List (Key × V)} {tb : Tb} (h : TbP G kvs tb) (hv : (valV kvs (.inl n)).isSome = true) (nd : (tb.map (·.1)).Nodup) (e1 : gt tb n = some (k, v0)) (ht : G t = some (.tup [.str k, v])) : TbP G (putK kvs (.inl n) (.ref t)) (setT tb n v) := by
  have gk := gt_kind nd e1
  unfold putK
  rw [valV_any, hv, if_pos rfl]
  unfold setT
  clear hv nd e1
  unfold TbP at h ⊢
  induction h with
  | nil => exact .nil
  | @cons kv e l1 l2 hh tt ih =>
    obtain ⟨h1, r, h2, h3⟩ := hh
    refine .cons ?_ (ih fun e he => gk e (List.mem_cons_of_mem _ he))
    dsimp only
    by_cases c : e.1 = n
    · have p1 : (if kv.1 = Sum.inl n then (kv.1, V.ref t) else kv) = (kv.1, V.ref t) := if_pos (by rw [h1, c])
      have p2 : (if e.1 = n then (e.1, e.2.1, v) else e) = (e.1, e.2.1, v) := if_pos c
      rw [p1, p2]
      exact ⟨h1, t, rfl, by rw [gk e List.mem_cons_self c]; exact ht⟩
    · have p1 : (if kv.1 = Sum.inl n then (kv.1, V.ref t) else kv) = kv := if_neg (by rw [h1]; exact fun z => c (Sum.inl.inj z))
      have p2 : (if e.1 = n then (e.1, e.2.1, v) else e) = e := if_neg c
      rw [p1, p2]
      exact ⟨h1, r, h2, h3⟩
def CtA (C : Addr) (G H : Hp) (M : List (Addr × HO)) (a : Addr) (tb : Tb) : Prop := ∃ dx kd kvs, Sb G H ((a, HO.ins C dx (fsC kd)) :: (kd, .dK kvs) :: M) ∧ TbP G kvs tb ∧ (tb.map (·.1)).Nodup ∧ tb.length ≤ 100
def setV (d : Dn) (k : Str) (bf : Option (Str × V)) : V := if boundD d k = .non then
    (match bf with
    | some x => if x.1 = k then x.2 else shownV (attrD d.as "default") k
    | none => shownV (attrD d.as "default") k)
  else shownV (boundD d k) k
def BfA (H : Hp) (v : V) (bf : Option (Str × V)) : Prop := (v = .non ∧ bf = none) ∨ ∃ r k x, v = .ref r ∧ H r = some (.tup [.str k, x]) ∧ bf = some (k, x)
def spInit (C : Addr) : Sp := fun vs H Q _ => ∃ (a dx : Addr), vs = [.ref a] ∧ H a = some (.ins C dx []) ∧ ∀ kd H', H kd = none → a ≠ kd → H' a = some (.ins C dx (fsC kd)) → H' kd = some (.dK []) → (∀ b o, H b = some o → b ≠ a → H' b = some o) → Q .non H'
def spLen (C : Addr) : Sp := fun vs H Q _ => ∃ (a : Addr) (tb : Tb) (G : Hp) (M : List (Addr × HO)), vs = [.ref a] ∧ CtA C G H M a tb ∧ Q (.int tb.length) H
def spHas (C : Addr) : Sp := fun vs H Q _ => ∃ (a : Addr) (n : Int) (tb : Tb) (G : Hp) (M : List (Addr × HO)), vs = [.ref a, .int n] ∧ CtA C G H M a tb ∧ Q (.bl (gt tb n).isSome) H
def spShown (C : Addr) : Sp := fun vs H Q _ => ∃ (a : Addr) (n : Int) (tb : Tb) (G : Hp) (M : List (Addr × HO)), vs = [.ref a, .int n] ∧ CtA C G H M a tb ∧ Q (shV tb n) H
def spShow (C : Addr) : Sp := fun vs H Q _ => ∃ (a : Addr) (n : Int) (v : V) (tb : Tb) (G : Hp) (M : List (Addr × HO)), vs = [.ref a, .int n, v] ∧ CtA C G H M a tb ∧ ∀ G' H', CtA C G' H' M a (setT tb n v) → Same G G' → Q .non H'
def spSettled (C : Addr) : Sp := fun vs H Q _ => ∃ (a : Addr) (vn : V) (k : Str) (vb : V) (d : Dn) (bf : Option (Str × V)), vs = [.ref a, vn, .str k, vb] ∧ NdA H vn d ∧ d.isE = true ∧ NamesOk d ∧ BfA H vb bf ∧ ∀ H', Same H H' → Q (setV d k bf) H'
section
variable {P : Program} {w : World} {K : PySem.W.Frag} {mg : Str → Option Value} {base : Heap} {C : Ad}
theorem sc_Controls___init__ : FnScope ["self"] ["self"] (defScope s_Controls___init__) := ⟨rfl, rfl, rfl, by decide +kernel, rfl, by decide +kernel, by decide +kernel⟩
theorem ok_init (T : Txt K w mg C) : Mak P w K mg base 1 "Controls" C.Controls (spInit C.Controls) := by
  refine mak_of T.i_Controls sc_Controls___init__ (fun vs H Q E h => ?_) (fun f cdv A outer s H vs Q E hr h => ?_)
  · obtain ⟨x, dx, rfl, _⟩ := h
    rfl
  · obtain ⟨a, dx, rfl, ha, k⟩ := h
    refine ⟨_, (pss_one (ps_fld (pv 0) pe_dnewK rfl)), ?_⟩
    intro l hl
    have nal : a ≠ l := ne_of_none ha hl
    refine ⟨_, rfl, a, _, dx, [], rfl, (by rw [upd_ne nal]; exact ha), T.cl_Controls, T.n_Controls_known, (by show 0 < 1000; decide), ?_⟩
    refine k l _ hl nal upd_same (by rw [upd_ne nal.symm]; exact upd_same) fun b o e nb => ?_
    rw [upd_ne nb, upd_ne (ne_of_none e hl)]
    exact e
theorem sc_Controls___len__ : FnScope ["self"] ["self"] (defScope s_Controls___len__) := ⟨rfl, rfl, rfl, by decide +kernel, rfl, by decide +kernel, by decide +kernel⟩
theorem ok_len (T : Txt K w mg C) : Met P w K mg base 1 C.Controls "__len__" (spLen C.Controls) := by
  refine met_of T.m_Controls___len__ T.cl_Controls sc_Controls___len__ (fun vs H Q E h => ?_) (fun f cdv A outer s H vs Q E hr h => ?_)
  · obtain ⟨a, tb, G, M, rfl, _⟩ := h
    rfl
  · obtain ⟨a, tb, G, M, rfl, ⟨dx, kd, kvs, S, tp, nd, tl⟩, q⟩ := h
    refine ⟨_, (pss_one (ps_ret (pe_callB call_lenD (by rfl) T.z_len PySem.boot_len (pa_cons (pe_fld (pv 0) rfl) pa_nil)))), ?_⟩
    refine ⟨_, rfl, a, _, dx, _, _, rfl, S.hd, T.cl_Controls, T.n_Controls_known, fs_known, ?_⟩
    rw [← Paired.length tp] at q
    exact ⟨kd, kvs, rfl, S.hd2, q⟩
theorem sc_Controls___contains__ : FnScope ["self", "number"] ["self", "number"] (defScope s_Controls___contains__) := ⟨rfl, rfl, rfl, by decide +kernel, rfl, by decide +kernel, by decide +kernel⟩
theorem ok_has (T : Txt K w mg C) : Met P w K mg base 1 C.Controls "__contains__" (spHas C.Controls) := by
  refine met_of T.m_Controls___contains__ T.cl_Controls sc_Controls___contains__ (fun vs H Q E h => ?_) (fun f cdv A outer s H vs Q E hr h => ?_)
  · obtain ⟨a, n, tb, G, M, rfl, _⟩ := h
    rfl
  · obtain ⟨a, n, tb, G, M, rfl, ⟨dx, kd, kvs, S, tp, nd, tl⟩, q⟩ := h
    have hu := hu_of hr
    refine ⟨_, (pss_one (ps_ret (pe_cmp (pc_din hu (pv 1) (pe_fld (pv 0) rfl))))), ?_⟩
    refine ⟨_, rfl, _, rfl, a, _, dx, _, _, rfl, S.hd, T.cl_Controls, T.n_Controls_known, fs_known, ?_⟩
    refine ⟨kd, _, rfl, DGet.k (k := .inl n) S.hd2, ?_⟩
    have : (valV kvs (.inl n)).isSome = (gt tb n).isSome := by
      rcases tp.val (n := n) with ⟨e1, e2⟩ | ⟨k, v, r, e1, e2, _⟩ <;> rw [e1, e2] <;> rfl
    rw [this]
    exact q
theorem sc_Controls_shown : FnScope ["self", "number"] ["self", "number"] (defScope s_Controls_shown) := ⟨rfl, rfl, rfl, by decide +kernel, rfl, by decide +kernel, by decide +kernel⟩
theorem ok_shown (T : Txt K w mg C) : Met P w K mg base 1 C.Controls "shown" (spShown C.Controls) := by
  refine met_of T.m_Controls_shown T.cl_Controls sc_Controls_shown (fun vs H Q E h => ?_) (fun f cdv A outer s H vs Q E hr h => ?_)
  · obtain ⟨a, n, tb, G, M, rfl, _⟩ := h
    rfl
  · obtain ⟨a, n, tb, G, M, rfl, ⟨dx, kd, kvs, S, tp, nd, tl⟩, q⟩ := h
    have hu := hu_of hr
    refine ⟨_, (pss_cons (ps_if (pt_cmp (pc_dnotin hu (pv 1) (pe_fld (pv 0) rfl))) (pss_one (ps_ret pe_non)) pss_nil) (pss_one (ps_ret (pe_ix ix_tup (pe_dget hu (pe_fld (pv 0) rfl) (pv 1) (fun _ _ => rfl)) pe_int (fun _ _ => rfl))))), ?_⟩
    refine ⟨_, rfl, _, rfl, a, _, dx, _, _, rfl, S.hd, T.cl_Controls, T.n_Controls_known, fs_known, ?_⟩
    refine ⟨kd, _, rfl, DGet.k (k := .inl n) S.hd2, ?_⟩
    unfold shV at q
    rcases tp.val (n := n) with ⟨e1, e2⟩ | ⟨k, v, r, e1, e2, e3⟩
    · rw [e2]
      rw [e1] at q
      refine ⟨true, rfl, iteT q⟩
    · have dg := DGet.k (H := H) (k := .inl n) S.hd2
      rw [e2] at dg ⊢
      rw [e1] at q
      refine ⟨false, rfl, iteF ?_⟩
      refine ⟨_, rfl, a, _, dx, _, _, rfl, S.hd, T.cl_Controls, T.n_Controls_known, fs_known, _, rfl, kd, _, rfl, dg, _, _, _, _, rfl, rfl, SqT.of (S.s _ _ e3), rfl, q⟩
theorem sc_Controls_show : FnScope ["self", "number", "value"] ["self", "number", "value"] (defScope s_Controls_show) := ⟨rfl, rfl, rfl, by decide +kernel, rfl, by decide +kernel, by decide +kernel⟩
theorem ok_show (T : Txt K w mg C) : Met P w K mg base 1 C.Controls "show" (spShow C.Controls) := by
  refine met_of T.m_Controls_show T.cl_Controls sc_Controls_show (fun vs H Q E h => ?_) (fun f cdv A outer s H vs Q E hr h => ?_)
  · obtain ⟨a, n, v, tb, G, M, rfl, _⟩ := h
    rfl
  · obtain ⟨a, n, v, tb, G, M, rfl, ⟨dx, kd, kvs, S, tp, nd, tl⟩, q⟩ := h
    have hu := hu_of hr
    refine ⟨_, (pss_one (ps_if (pt_cmp (pc_din hu (pv 1) (pe_fld (pv 0) rfl))) (pss_one (ps_dput hu (pe_fld (pv 0) rfl) (pv 1) (pe_tup (pa_cons (pe_ix ix_tup (pe_dget hu (pe_fld (pv 0) rfl) (pv 1) (fun _ _ => rfl)) pe_int (fun _ _ => rfl)) (pa_cons (pv 2) pa_nil))) rfl)) pss_nil)), ?_⟩
    refine ⟨_, rfl, _, rfl, a, _, dx, _, _, rfl, S.hd, T.cl_Controls, T.n_Controls_known, fs_known, ?_⟩
    refine ⟨kd, _, rfl, DGet.k (k := .inl n) S.hd2, ?_⟩
    rcases tp.val (n := n) with ⟨e1, e2⟩ | ⟨k, v0, r, e1, e2, e3⟩
    · rw [e2]
      refine ⟨false, rfl, iteF (q G H ?_ (Same.refl _))⟩
      rw [setT_no e1]
      exact ⟨dx, kd, kvs, S, tp, nd, tl⟩
    · have dg := DGet.k (H := H) (k := .inl n) S.hd2
      rw [e2] at dg ⊢
      refine ⟨true, rfl, iteT ?_⟩
      refine ⟨_, rfl, a, _, dx, _, _, rfl, S.hd, T.cl_Controls, T.n_Controls_known, fs_known, _, rfl, kd, _, rfl, dg, _, _, _, _, rfl, rfl, SqT.of (S.s _ _ e3), rfl, _, rfl, by show 2 ≤ sizeLine; decide, fun t ht => ?_⟩
      have S2 := S.alloc (o := .tup [.str k, v]) ht
      have g2 := S.grow (o := .tup [.str k, v]) ht
      have kl := Paired.length tp
      refine ⟨_, rfl, a, _, dx, _, _, rfl, S2.hd, T.cl_Controls, T.n_Controls_known, fs_known, _, rfl, kd, _, rfl, DPut.k (k := .inl n) S2.hd2 (by rw [kl]; exact Nat.lt_of_le_of_lt tl (by decide)), ?_⟩
      exact q _ _ ⟨dx, kd, _, S2.put2, (tp.same g2).put (by rw [e2]; rfl) nd e1 upd_same, by rw [setT_keys]; exact nd, by rw [show (setT tb n v).length = tb.length from List.length_map ..]; exact tl⟩ g2
theorem sc_Controls_settled : FnScope ["self", "node", "kind", "before", "text"] ["self", "node", "kind", "before"] (defScope s_Controls_settled) := ⟨rfl, rfl, rfl, by decide +kernel, rfl, by decide +kernel, by decide +kernel⟩
theorem ok_settled (T : Txt K w mg C) : Met P w K mg base 6 C.Controls "settled" (spSettled C.Controls) := by
  have Gbound_text := ok_bound (P := P) (base := base) T
  have Gattribute_in := ok_attr (P := P) (base := base) T
  have Gshown_for := ok_shownFor (P := P) (base := base) T
  refine met_of T.m_Controls_settled T.cl_Controls sc_Controls_settled (fun vs H Q E h => ?_) (fun f cdv A outer s H vs Q E hr h => ?_)
  · obtain ⟨a, vn, k, vb, d, bf, rfl, _⟩ := h
    rfl
  · obtain ⟨a, vn, k, vb, d, bf, rfl, hd, he, hn, hb, q⟩ := h
    refine ⟨_, (pss_cons (ps_set (i := 4) sc_Controls_settled.nd rfl (Or.inl rfl) (pe_c Gbound_text hr (by decide) (by rfl) (pa_cons (pv 1) (pa_cons (pv 2) pa_nil)))) (pss_cons (ps_if (pt_cmp (pc_isN (pv 4))) (pss_cons (ps_if (PW.pt (pw_and (pt_cmp (pc_notN (pv 3))) (pw_and1 (pt_cmpR op_eq (pe_ix ix_tup (pv 3) pe_int (fun _ _ => rfl)) (pv 2) (nomark _))))) (pss_one (ps_ret (pe_ix ix_tup (pv 3) pe_int (fun _ _ => rfl)))) pss_nil) (pss_one (ps_set (i := 4) sc_Controls_settled.nd rfl (Or.inl rfl) (pe_c Gattribute_in hr (by decide) (by rfl) (pa_cons (pv 1) (pa_cons pe_str pa_nil)))))) pss_nil) (pss_one (ps_ret (pe_c Gshown_for hr (by decide) (by rfl) (pa_cons (pv 4) (pa_cons (pv 2) pa_nil))))))), ?_⟩
    refine ⟨_, rfl, _, rfl, vn, d, k, rfl, hd, he, hn, fun H1 s1 => ?_⟩
    unfold setV at q
    rcases attrD_cases d.as (if k = "box" then "checked" else "value") with e | ⟨y, e⟩
    · have e : boundD d k = .non := e
      rw [e] at q ⊢
      rw [if_pos rfl] at q
      refine ⟨_, rfl, true, rfl, iteT ?_⟩
      rcases hb with ⟨rfl, rfl⟩ | ⟨r, k', x, rfl, hr', rfl⟩
      · exact ⟨_, rfl, false, rfl, iteF (iteF ⟨_, rfl, vn, d, "default", rfl, hd.same s1, he, hn, fun H2 s2 => ⟨_, rfl, _, rfl, _, k, rfl, attrD_cases _ _, q H2 (Same.trans s1 s2)⟩⟩)⟩
      · refine ⟨_, rfl, true, rfl, iteT ⟨_, rfl, _, _, _, _, rfl, rfl, SqT.of (s1 _ _ hr'), rfl, _, rfl, rfl, _, rfl, ite2 (fun c => ?_) (fun c => ?_)⟩⟩
        · have q : ∀ H', Same H H' → Q (if k' = k then x else shownV (attrD d.as "default") k) H' := q
          rw [if_pos (V.str.inj (of_decide_eq_true c))] at q
          exact ⟨_, rfl, _, _, _, _, rfl, rfl, SqT.of (s1 _ _ hr'), rfl, q H1 s1⟩
        · have q : ∀ H', Same H H' → Q (if k' = k then x else shownV (attrD d.as "default") k) H' := q
          rw [if_neg (fun z => c (decide_eq_true (by rw [z])))] at q
          exact ⟨_, rfl, vn, d, "default", rfl, hd.same s1, he, hn, fun H2 s2 => ⟨_, rfl, _, rfl, _, k, rfl, attrD_cases _ _, q H2 (Same.trans s1 s2)⟩⟩
    · have e : boundD d k = .str y := e
      rw [e] at q ⊢
      rw [if_neg (fun z => nomatch z)] at q
      exact ⟨_, rfl, false, rfl, iteF ⟨_, rfl, _, rfl, .str y, k, rfl, .inr ⟨y, rfl⟩, q H1 s1⟩⟩
end
end VL

set_option Elab.async false
set_option linter.all false
set_option pp.maxSteps 700
set_option maxRecDepth 100000
set_option maxHeartbeats 4000000
namespace VL
open PySem PySem.Spec PyProof.Rows L2
/-- the value of a select that nothing binds -/
def selV (ks : List Dn) (d : Dn) (v : V) : V := if inV v ((openL ks d.kids).map V.str) = true then v else .str ((openL ks d.kids).headD "")
def selT (ks : List Dn) (d : Dn) (tb : Tb) : Tb := if boundD d "select" = .non then (if inV (shV tb d.num) ((openL ks d.kids).map V.str) = true then tb else setT tb d.num (.str ((openL ks d.kids).headD ""))) else tb
theorem flat_strs : ∀ l : List Str, (l.map V.str).all flatV = true
  | [] => rfl
  | a :: l => by
    show (true && (l.map V.str).all flatV) = true
    rw [flat_strs l]
    rfl
def spSel (C : Addr) : Sp := fun vs H Q _ => ∃ (a : Addr) (vd vn : V) (ks : List Dn) (d : Dn) (tb : Tb) (G : Hp) (M : List (Addr × HO)), vs = [.ref a, vd, vn] ∧ CtA C G H M a tb ∧ DocA H vd ks ∧ AllS NamesOk ks ∧ NdA H vn d ∧ d.isE = true ∧ NamesOk d ∧ (∀ e ∈ flS d.kids, NamesOk e) ∧ (flS d.kids).length ≤ 1000 ∧ flatV (shV tb d.num) = true ∧
  ∀ G' H', CtA C G' H' M a (selT ks d tb) → Same G G' → Q .non H'
def spFork (C : Addr) : Sp := fun vs H Q _ => ∃ (a dx kd : Addr) (kvs : List (Key × V)) (G : Hp) (M : List (Addr × HO)), vs = [.ref a] ∧ Sb G H ((a, HO.ins C dx (fsC kd)) :: (kd, .dK kvs) :: M) ∧
  ∀ o dy ko G' H', Sb G' H' ((o, HO.ins C dy (fsC ko)) :: (ko, .dK kvs) :: (a, HO.ins C dx (fsC kd)) :: (kd, .dK kvs) :: M) → Same G G' → Q (.ref o) H'
theorem Sb.keepS {G H H' : Hp} {M : List (Addr × HO)} (S : Sb G H M) (s : Same H H') : Sb G H' M := ⟨Same.trans S.s s, fun p hp => ⟨(S.m p hp).1, s _ _ (S.m p hp).2⟩, S.nd⟩
theorem Sb.take {G H : Hp} {M : List (Addr × HO)} {t : Addr} {o : HO} (S : Sb G H M) (g : G t = none) (h : H t = some o) (n : ∀ p ∈ M, p.1 ≠ t) : Sb G H ((t, o) :: M) := by
  refine ⟨S.s, fun p hp => ?_, ?_⟩
  · rcases List.mem_cons.mp hp with rfl | hp
    · exact ⟨g, h⟩
    · exact S.m p hp
  · rw [List.map_cons, List.nodup_cons]
    refine ⟨fun hm => ?_, S.nd⟩
    obtain ⟨p, hp, e⟩ := List.mem_map.mp hm
    exact n p hp e
section
variable {P : Program} {w : World} {K : PySem.W.Frag} {mg : Str → Option Value} {base : Heap} {C : Ad}
theorem CtA.call {Cc : Addr} {G H H' : Hp} {M : List (Addr × HO)} {a : Addr} {tb : Tb} (h : CtA Cc G H M a tb) (s : Same H H') : CtA Cc (joinH G (newer H H')) H' M a tb ∧ Same G (joinH G (newer H H')) := by
  obtain ⟨dx, kd, kvs, S, tp, nd, tl⟩ := h
  exact ⟨⟨dx, kd, kvs, S.call s, tp.same joinH_l, nd, tl⟩, joinH_l⟩
theorem CtA.sm {Cc : Addr} {G H : Hp} {M : List (Addr × HO)} {a : Addr} {tb : Tb} (h : CtA Cc G H M a tb) : Same G H := by
  obtain ⟨dx, kd, kvs, S, tp, nd, tl⟩ := h
  exact S.s
theorem CtA.at {Cc : Addr} {G H : Hp} {M : List (Addr × HO)} {a : Addr} {tb : Tb} (h : CtA Cc G H M a tb) : ∃ dx kd, H a = some (.ins Cc dx (fsC kd)) := by
  obtain ⟨dx, kd, kvs, S, tp, nd, tl⟩ := h
  exact ⟨dx, kd, S.hd⟩
theorem sc_Controls_settle_select : FnScope ["self", "document", "node", "choices"] ["self", "document", "node"] (defScope s_Controls_settle_select) := ⟨rfl, rfl, rfl, by decide +kernel, rfl, by decide +kernel, by decide +kernel⟩
theorem ok_sel (T : Txt K w mg C) : Met P w K mg base 12 C.Controls "settle_select" (spSel C.Controls) := by
  have Gbound_text := ok_bound (P := P) (base := base) T
  have Gopen_values := ok_open (P := P) (base := base) T
  have Mshown := ok_shown (P := P) (base := base) T
  have Mshow := ok_show (P := P) (base := base) T
  refine met_of T.m_Controls_settle_select T.cl_Controls sc_Controls_settle_select (fun vs H Q E h => ?_) (fun f cdv A outer s H vs Q E hr h => ?_)
  · obtain ⟨a, vd, vn, ks, d, tb, G, M, rfl, _⟩ := h
    rfl
  · obtain ⟨a, vd, vn, ks, d, tb, G, M, rfl, ct, hD, hA, hd, he, hn, hnk, hlen, hfl, q⟩ := h
    have hd0 := hd
    have s0 := ct.sm
    refine ⟨_, (pss_cons (ps_if (pt_cmp (pc_notN (pe_c Gbound_text hr (by decide) (by rfl) (pa_cons (pv 2) (pa_cons pe_str pa_nil))))) (pss_one ps_retN) pss_nil) (pss_cons (ps_set (i := 3) sc_Controls_settle_select.nd rfl (Or.inl rfl) (pe_c Gopen_values hr (by decide) (by rfl) (pa_cons (pv 1) (pa_cons (pv 2) pa_nil)))) (pss_one (ps_if (pt_cmpR op_notIn_seq (pe_mt Mshown hr (by decide) (pv 0) (pa_cons (pe_ix ix_tup (pv 2) pe_int (fun _ _ => rfl)) pa_nil)) (pv 3) rfl) (pss_one (ps_expr (pe_mt Mshow hr (by decide) (pv 0) (pa_cons (pe_ix ix_tup (pv 2) pe_int (fun _ _ => rfl)) (pa_cons (pe_ifExp (pt_truth (pv 3) (fun _ => rfl)) (pe_ix ix_list (pv 3) pe_int (fun _ _ => rfl)) pe_str) pa_nil))))) pss_nil)))), ?_⟩
    refine ⟨_, rfl, vn, d, "select", rfl, hd, he, hn, fun H1 s1 => ?_⟩
    obtain ⟨ct1, g1⟩ := ct.call s1
    generalize joinH G (newer H H1) = G1 at ct1 g1
    unfold selT at q
    rcases attrD_cases d.as "value" with e | ⟨y, e⟩
    · have e : boundD d "select" = .non := e
      rw [if_pos e] at q
      rw [e]
      refine ⟨false, rfl, iteF ?_⟩
      refine ⟨_, rfl, _, rfl, vd, vn, ks, d, rfl, hD.same s1, hA, hd.same s1, he, hnk, hlen, fun p H2 s2 hp0 hp => ?_⟩
      obtain ⟨ct2, g2⟩ := ct1.call s2
      generalize joinH G1 (newer H1 H2) = G2 at ct2 g2
      obtain ⟨b, ys, rfl, hb⟩ := hd0.at
      have hb2 := s2 _ _ (s1 _ _ hb)
      obtain ⟨dx2, kd2, ha2⟩ := ct2.at
      refine ⟨_, rfl, a, dx2, _, rfl, ha2, rfl, _, rfl, _, _, _, _, rfl, rfl, SqT.of hb2, at_1, a, d.num, tb, G2, M, rfl, ct2, _, rfl, p, _, rfl, .inl (SqL.of hp), hfl, flat_strs _, _, rfl, ?_⟩
      by_cases c : inV (shV tb d.num) ((openL ks d.kids).map V.str) = true
      · rw [c]
        rw [if_pos c] at q
        exact iteF (q G2 H2 ct2 (Same.trans g1 g2))
      · rw [Bool.eq_false_iff.mpr c]
        rw [if_neg c] at q
        refine iteT ?_
        refine ⟨_, rfl, a, dx2, _, rfl, ha2, rfl, _, rfl, _, _, _, _, rfl, rfl, SqT.of hb2, at_1, ?_⟩
        cases hL : openL ks d.kids with
        | nil =>
          rw [hL] at hp q
          refine ⟨_, rfl, false, .inl ⟨_, SqL.of hp, rfl⟩, iteF ?_⟩
          exact ⟨a, d.num, _, tb, G2, M, rfl, ct2, fun G3 H3 ct3 g3 => q G3 H3 ct3 (Same.trans g1 (Same.trans g2 g3))⟩
        | cons z l =>
          rw [hL] at hp q
          refine ⟨_, rfl, true, .inl ⟨_, SqL.of hp, rfl⟩, iteT ⟨_, rfl, p, _, _, _, rfl, rfl, SqL.of hp, at_0, ?_⟩⟩
          exact ⟨a, d.num, _, tb, G2, M, rfl, ct2, fun G3 H3 ct3 g3 => q G3 H3 ct3 (Same.trans g1 (Same.trans g2 g3))⟩
    · have e : boundD d "select" = .str y := e
      rw [if_neg (by rw [e]; exact nofun)] at q
      rw [e]
      exact ⟨true, rfl, iteT (q G1 H1 ct1 g1)⟩
end
end VL

set_option Elab.async false
set_option linter.all false
set_option pp.maxSteps 700
set_option maxRecDepth 100000
set_option maxHeartbeats 4000000
namespace VL
open PySem PySem.Spec PyProof.Rows L2
theorem zW_upd2 {H0 : Hp} {a D : Addr} {ks : List Dn} {i : Nat} {σ : L2.St} {H H' : Hp} (h : zW H0 a ks (i + 1) σ H) (k : ∀ b o, H b = some o → b ≠ D → H' b = some o) (d0 : H0 D = none) (hD : ∀ xs, H D ≠ some (.tup xs)) (ne : ∀ wl, σ[2]? = some (some (.ref wl)) → wl ≠ D) : zW H0 a ks (i + 1) σ H' := by
  obtain ⟨wl, ws, st, lv, d, v, y4, e, h1, h2, h3, h4, h5, h6⟩ := h
  have nw : wl ≠ D := ne wl (by rw [e]; rfl)
  exact ⟨wl, ws, st, lv, d, v, y4, e, fun b o e' => k _ _ (h1 _ _ e') fun z => by rw [z, d0] at e'; (cases e'), h2, k _ _ h3 nw, h4.keep fun b xs e' => k _ _ e' fun z => hD xs (by rw [← z]; exact e'), h5, h6⟩
theorem Sb.dropL {G H : Hp} {M : List (Addr × HO)} {L : List Addr} (S : Sb G H M) (g : ∀ b ∈ L, G b = none) (m : ∀ p ∈ M, p.1 ∉ L) : Sb G (VG.drop L H) M :=
  ⟨fun b o e => by rw [VG.drop_out fun z => by rw [g b z] at e; (cases e)]; exact S.s _ _ e, fun p hp => ⟨(S.m p hp).1, by rw [VG.drop_out (m p hp)]; exact (S.m p hp).2⟩, S.nd⟩
theorem Sb.kb {G H H' : Hp} {M : List (Addr × HO)} {wl : Addr} (S : Sb G H M) (k : KeptBut wl H H') (g : G wl = none) (m : ∀ p ∈ M, p.1 ≠ wl) : Sb G H' M :=
  ⟨fun b o e => k b o (S.s _ _ e) fun z => by rw [z, g] at e; (cases e), fun p hp => ⟨(S.m p hp).1, k _ _ (S.m p hp).2 (m p hp)⟩, S.nd⟩
def clT (ds : List Dn) : List (Dn × Str) := ds.filterMap fun d => (kindD d).map fun k => (d, k)
def iniE (tb : Tb) (x : Dn × Str) : Int × Str × V := (x.1.num, x.2, setV x.1 x.2 (gt tb x.1.num))
def finE (ks : List Dn) (tb : Tb) (x : Dn × Str) : Int × Str × V := (x.1.num, x.2, if x.2 = "select" ∧ boundD x.1 "select" = .non then selV ks x.1 (setV x.1 x.2 (gt tb x.1.num)) else setV x.1 x.2 (gt tb x.1.num))
def setlT (ks : List Dn) (tb : Tb) : Tb := (clT (flS ks)).map (finE ks tb)
theorem flS_num (ks : List Dn) : (flS ks).map Dn.num = numS ks := by
  rw [← itS_fl 1 ks, ← itS_num 1 ks, List.map_map]
  rfl
theorem clT_nums (ds : List Dn) : ((clT ds).map fun x => x.1.num).Sublist (ds.map Dn.num) := by
  induction ds with
  | nil => exact .slnil
  | cons d r ih =>
    unfold clT at ih ⊢
    rw [List.filterMap_cons]
    cases kindD d with
    | none => exact ih.cons _
    | some k => exact ih.cons_cons _
theorem clT_snoc (ds : List Dn) (d : Dn) : clT (ds ++ [d]) = clT ds ++ (match kindD d with
    | some k => [(d, k)]
    | none => []) := by
  unfold clT
  rw [List.filterMap_append]
  cases h : kindD d <;> simp [h]
theorem gt_out {tb : Tb} {n : Int} (h : n ∉ tb.map (·.1)) : gt tb n = none := by
  unfold gt
  rw [Option.map_eq_none_iff, List.find?_eq_none]
  intro e he c
  exact h (List.mem_map.mpr ⟨e, he, of_decide_eq_true c⟩)
theorem kind_isE {d : Dn} {k : Str} (h : kindD d = some k) : d.isE = true := by
  unfold kindD at h
  split at h
  · rename_i c
    exact (Bool.and_eq_true_iff.mp c).1
  · exact nomatch h
theorem TbP.keys {G : Hp} : ∀ {kvs : List (Key × V)} {tb : Tb}, TbP G kvs tb → kvs.map (fun kv => kV kv.1) = tb.map fun e => V.int e.1
  | _, _, .nil => rfl
  | _, _, .cons ⟨h1, _⟩ t => by
    rw [List.map_cons, List.map_cons, TbP.keys t, h1]
    rfl
theorem gt_at {tb : Tb} (nd : (tb.map (·.1)).Nodup) {e : Int × Str × V} (h : e ∈ tb) : gt tb e.1 = some e.2 := by
  unfold gt
  rw [find_nd (f := fun x : Int × Str × V => x.1) nd h]
  rfl
theorem setT_at {A B : Tb} {n : Int} {k : Str} {v v' : V} (nd : ((A ++ (n, k, v) :: B).map (·.1)).Nodup) : setT (A ++ (n, k, v) :: B) n v' = A ++ (n, k, v') :: B := by
  have na : n ∉ A.map (·.1) := fun hm => by
    rw [List.map_append, List.nodup_append] at nd
    exact nd.2.2 _ hm _ (by simp) rfl
  have nb : n ∉ B.map (·.1) := fun hm => by
    rw [List.map_append, List.nodup_append, List.map_cons, List.nodup_cons] at nd
    exact nd.2.1.1 hm
  have ea := setT_no (v := v') (gt_out na)
  have eb := setT_no (v := v') (gt_out nb)
  unfold setT at ea eb ⊢
  rw [List.map_append, List.map_cons, ea, eb, if_pos rfl]
theorem setV_flat {d : Dn} {k : Str} {bf : Option (Str × V)} (h : ∀ x, bf = some x → flatV x.2 = true) : flatV (setV d k bf) = true := by
  have sh : ∀ v : V, flatV (shownV v k) = true := fun v => by
    unfold shownV
    split
    · rfl
    · split <;> rfl
  unfold setV
  split
  · split
    · split
      · exact h _ rfl
      · exact sh _
    · exact sh _
  · exact sh _
theorem Sb.forget {G H : Hp} {M : List (Addr × HO)} {p q r : Addr × HO} (S : Sb G H (p :: q :: r :: M)) : Sb G H (p :: q :: M) := by
  have sub : (p :: q :: M).Sublist (p :: q :: r :: M) := ((List.sublist_cons_self r M).cons_cons q).cons_cons p
  exact ⟨S.s, fun x hx => S.m x (sub.subset hx), S.nd.sublist (sub.map _)⟩
theorem CtA.alloc {Cc : Addr} {G H : Hp} {M : List (Addr × HO)} {a t : Addr} {o : HO} {tb : Tb} (h : CtA Cc G H M a tb) (ht : H t = none) : CtA Cc (upd G t o) (upd H t o) M a tb ∧ Same G (upd G t o) := by
  obtain ⟨dx, kd, kvs, S, tp, nd, tl⟩ := h
  exact ⟨⟨dx, kd, kvs, S.alloc ht, tp.same (S.grow ht), nd, tl⟩, S.grow ht⟩
def mixT (ks : List Dn) (tb : Tb) (l : List (Dn × Str)) (i : Nat) : Tb := (l.take i).map (finE ks tb) ++ (l.drop i).map (iniE tb)
theorem mix_keys (ks : List Dn) (tb : Tb) (l : List (Dn × Str)) (i : Nat) : (mixT ks tb l i).map (·.1) = l.map fun x => x.1.num := by
  unfold mixT
  rw [List.map_append, List.map_map, List.map_map]
  show (l.take i).map (fun x => x.1.num) ++ (l.drop i).map (fun x => x.1.num) = _
  rw [← List.map_append, List.take_append_drop]
theorem mix_at {ks : List Dn} {tb : Tb} {l : List (Dn × Str)} {i : Nat} {x : Dn × Str} (h : l[i]? = some x) : mixT ks tb l i = (l.take i).map (finE ks tb) ++ iniE tb x :: (l.drop (i + 1)).map (iniE tb) ∧ mixT ks tb l (i + 1) = (l.take i).map (finE ks tb) ++ finE ks tb x :: (l.drop (i + 1)).map (iniE tb) := by
  obtain ⟨hi, e⟩ := List.getElem?_eq_some_iff.mp h
  constructor
  · unfold mixT
    rw [List.drop_eq_getElem_cons hi, e]
    rfl
  · unfold mixT
    rw [List.take_add_one, h, List.map_append, List.append_assoc]
    rfl
theorem nd_take {α : Type} {f : α → Int} {l : List α} {i : Nat} {d : α} (nd : (l.map f).Nodup) (h : l[i]? = some d) : f d ∉ (l.take i).map f := by
  have e : l.take (i + 1) = l.take i ++ [d] := by
    rw [List.take_add_one, h]
    rfl
  have n2 : ((l.take (i + 1)).map f).Nodup := nd.sublist ((List.take_sublist _ _).map f)
  rw [e, List.map_append, List.nodup_append] at n2
  intro hm
  exact n2.2.2 _ hm _ (by simp) rfl
theorem clT_len (ds : List Dn) : (clT ds).length ≤ ds.length := List.length_filterMap_le _ _
def spSettle (C : Addr) : Sp := fun vs H Q _ => ∃ (a : Addr) (vd : V) (ks : List Dn) (tb : Tb) (G : Hp) (M : List (Addr × HO)), vs = [.ref a, vd] ∧ CtA C G H M a tb ∧ DocA G vd ks ∧ AllS NamesOk ks ∧ (numS ks).Nodup ∧ (numS ks).length ≤ 22 ∧ (∀ e ∈ tb, flatV e.2.2 = true) ∧
  ∀ G' H' , CtA C G' H' M a (setlT ks tb) → Same G G' → Q .non H'
section
variable {P : Program} {w : World} {K : PySem.W.Frag} {mg : Str → Option Value} {base : Heap} {C : Ad}
theorem sc_Controls_settle : FnScope ["self", "document", "before", "_", "node", "kind", "number"] ["self", "document"] (defScope s_Controls_settle) := ⟨rfl, rfl, rfl, by decide +kernel, rfl, by decide +kernel, by decide +kernel⟩
theorem ok_settle (T : Txt K w mg C) : Met P w K mg base 14 C.Controls "settle" (spSettle C.Controls) := by
  have Gwalk := ok_walk (P := P) (base := base) T
  have Gkind_of_control := ok_kind (P := P) (base := base) T
  have Gfind_node := ok_find (P := P) (base := base) T
  have Msettled := ok_settled (P := P) (base := base) T
  have Msettle_select := ok_sel (P := P) (base := base) T
  refine met_of T.m_Controls_settle T.cl_Controls sc_Controls_settle (fun vs H Q E h => ?_) (fun f cdv A outer s H vs Q E hr h => ?_)
  · obtain ⟨a, vd, ks, tb, G, M, rfl, _⟩ := h
    rfl
  · obtain ⟨a, vd, ks, tb, G, M, rfl, ⟨dx, kd, kvs, S, tp, tnd, tl⟩, ⟨da, xs, rfl, hda, hxs, hN⟩, hA, nd, nl, hfb, q⟩ := h
    have hu := hu_of hr
    refine ⟨_, (pss_cons (ps_set (i := 2) sc_Controls_settle.nd rfl (Or.inl rfl) (pe_fld (pv 0) rfl)) (pss_cons (ps_fld (pv 0) pe_dnewK rfl) (pss_cons (VG.ps_forG rfl hr.hd Gwalk hr (by decide) (by rfl) (pa_cons (pv 1) pa_nil) (pg_tup rfl (pgs_cons (pg_name (i := 3) sc_Controls_settle.nd rfl (Or.inl rfl)) (pgs_cons (pg_name (i := 4) sc_Controls_settle.nd rfl (Or.inl rfl)) pgs_nil))) (pss_cons (ps_set (i := 5) sc_Controls_settle.nd rfl (Or.inl rfl) (pe_c Gkind_of_control hr (by decide) (by rfl) (pa_cons (pv 4) pa_nil))) (pss_one (ps_if (pt_cmp (pc_notN (pv 5))) (pss_one (ps_dput hu (pe_fld (pv 0) rfl) (pe_ix ix_tup (pv 4) pe_int (fun _ _ => rfl)) (pe_tup (pa_cons (pv 5) (pa_cons (pe_mt Msettled hr (by decide) (pv 0) (pa_cons (pv 4) (pa_cons (pv 5) (pa_cons (pe_dget1 hu (pv 2) (pe_ix ix_tup (pv 4) pe_int (fun _ _ => rfl)) ⟨rfl, rfl, rfl, rfl⟩) pa_nil)))) pa_nil))) rfl)) pss_nil)))) (pss_one (ps_for PassesOwn.never rfl (pi_list (pe_callTy (call_listD rfl) (by rfl) T.z_list (by decide +kernel) (pa_cons (pe_fld (pv 0) rfl) pa_nil))) (pg_name (i := 6) sc_Controls_settle.nd rfl (Or.inl rfl)) (pss_one (ps_if (pt_cmpR op_eq (pe_ix ix_tup (pe_dget hu (pe_fld (pv 0) rfl) (pv 6) (fun _ _ => rfl)) pe_int (fun _ _ => rfl)) pe_str (nomark _)) (pss_one (ps_expr (pe_mt Msettle_select hr (by decide) (pv 0) (pa_cons (pv 1) (pa_cons (pe_c Gfind_node hr (by decide) (by rfl) (pa_cons (pv 1) (pa_cons (pv 6) pa_nil))) pa_nil))))) pss_nil))))))), ?_⟩
    refine ⟨_, rfl, a, _, dx, _, _, rfl, S.hd, T.cl_Controls, T.n_Controls_known, fs_known, ?_⟩
    intro k2 hk2
    have nak : a ≠ k2 := ne_of_none S.hd hk2
    refine ⟨_, rfl, a, _, dx, _, rfl, by rw [upd_ne nak]; exact S.hd, T.cl_Controls, T.n_Controls_known, (by show 1 < 1000; decide), ?_⟩
    have S1 : Sb G (upd (upd H k2 (.dK [])) a (.ins C.Controls dx (fsC k2))) ((a, HO.ins C.Controls dx (fsC k2)) :: (k2, .dK []) :: (kd, .dK kvs) :: M) := by
      have Sa := (S.add (o := .dK []) hk2).swap.put (u := .ins C.Controls dx (fsC k2))
      exact Sa
    show tSeq _ _ _ _ (upd (upd H k2 (.dK [])) a (.ins C.Controls dx (fsC k2)))
    generalize upd (upd H k2 (.dK [])) a (.ins C.Controls dx (fsC k2)) = H1 at S1 ⊢
    have eL : (itS 1 ks).length = (flS ks).length := by rw [← itS_fl 1 ks, List.length_map]
    have fl22 : (flS ks).length ≤ 22 := by rw [flS_len]; exact nl
    refine ⟨_, rfl, _, _, _, _, ⟨da, xs, ks, G, rfl, S1.s, hda, hxs, hN, rfl, rfl, rfl, rfl⟩, fun L hL => ?_⟩
    refine ⟨fun i σp σ H' => ∃ (G' : Hp) (kv2 : List (Key × V)) (y3 y4 y5 y6 : Option V), Sb G' (VG.drop L H') ((a, HO.ins C.Controls dx (fsC k2)) :: (k2, .dK kv2) :: (kd, .dK kvs) :: M) ∧ Same G G' ∧ TbP G' kv2 ((clT ((flS ks).take i)).map (iniE tb)) ∧
      σ = [some (.ref a), some (.ref da), some (.ref kd), y3, y4, y5, y6] ∧ ∀ wl, 0 < i → σp[2]? = some (some (.ref wl)) → G' wl = none ∧ ∀ p ∈ ((a, HO.ins C.Controls dx (fsC k2)) :: (k2, HO.dK kv2) :: (kd, .dK kvs) :: M), p.1 ≠ wl, fun Hf σp z => ?_, ?_, ?_⟩
    · exact ⟨G, [], _, _, _, _, by rw [VG.drop_fz z hL]; exact S1, Same.refl _, .nil, rfl, fun _ h => absurd h (Nat.lt_irrefl _)⟩
    · rintro i σp σ H2 x Ho Hf σg ⟨G', kv2, y3, y4, y5, y6, S2, g2', tp2, rfl, c1⟩ fr ⟨hi, wl, t, u, lv, d, rfl, ht, hu, hid, kb, w0, g2, p2, i0, sm⟩ hz fz hn0
      have wF : G' wl = none ∧ ∀ p ∈ ((a, HO.ins C.Controls dx (fsC k2)) :: (k2, HO.dK kv2) :: (kd, .dK kvs) :: M), p.1 ≠ wl := by
        rcases Nat.eq_zero_or_pos i with h0 | h0
        · exact ⟨S2.gnone (i0 h0), fun p hp => ne_of_none (S2.m p hp).2 (i0 h0)⟩
        · exact c1 wl h0 (p2 h0)
      have So := S2.kb kb wF.1 wF.2
      have sf := fz_same fz hn0
      have Sf := So.keepS sf
      have hfl : (flS ks)[i]? = some d := by
        rw [← itS_fl 1 ks, List.getElem?_map, hid]
        rfl
      have hdm : d ∈ flS ks := List.mem_of_getElem? hfl
      have hok : NamesOk d := by
        rw [← itS_fl 1 ks] at hdm
        obtain ⟨p, hp, rfl⟩ := List.mem_map.mp hdm
        exact itS_all hA p hp
      have eT := clT_snoc ((flS ks).take i) d
      rw [show (flS ks).take i ++ [d] = (flS ks).take (i + 1) by rw [List.take_add_one, hfl]; rfl] at eT
      have hu0 := hu
      obtain ⟨b, ys, rfl, hb⟩ := hu.at
      have hbf := Sf.s _ _ (g2' _ _ hb)
      have o1 : ∀ b ∈ L, G' b = none := fun b hb => by
        cases e : G' b with
        | none => rfl
        | some o => have := So.s _ _ e; rw [hn0 b hb] at this; cases this
      have o2 : ∀ p ∈ ((a, HO.ins C.Controls dx (fsC k2)) :: (k2, HO.dK kv2) :: (kd, .dK kvs) :: M), p.1 ∉ L := fun p hp hm => by
        have := (So.m p hp).2
        rw [hn0 _ hm] at this
        cases this
      refine ⟨t, [.int lv, .ref b], rfl, SqT.of (sf _ _ ht), rfl, _, _, rfl, _, _, rfl, rfl, ?_⟩
      refine ⟨_, rfl, .ref b, d, rfl, hu0.same (Same.trans g2' Sf.s), hok, fun H3 s3 => ?_⟩
      have S3 := Sf.keepS s3
      cases hk : kindD d with
      | none =>
        rw [hk] at eT
        refine ⟨_, rfl, false, rfl, iteF ?_⟩
        refine ⟨keep_L fz s3, zW_same hz (drop_same fz hn0 s3), G', kv2, _, _, _, _, S3.dropL o1 o2, g2', by rw [eT, List.append_nil]; exact tp2, rfl, fun wl' _ z => ?_⟩
        rw [g2] at z
        cases z
        exact wF
      | some k =>
        rw [hk] at eT
        refine ⟨_, rfl, true, rfl, iteT ?_⟩
        have hb3 := s3 _ _ hbf
        have hE := kind_isE hk
        have hkd : H3 kd = some (.dK kvs) := (S3.m (kd, .dK kvs) (by simp)).2
        have sG3 : Same G H3 := Same.trans g2' S3.s
        have hbf' : BfA H3 ((valV kvs (.inl d.num)).getD .non) (gt tb d.num) := by
          rcases tp.val (n := d.num) with ⟨e1, e2⟩ | ⟨k0, v0, r0, e1, e2, e3⟩
          · exact .inl ⟨by rw [e2]; rfl, e1⟩
          · exact .inr ⟨r0, k0, v0, by rw [e2]; rfl, sG3 _ _ e3, e1⟩
        have nin : d.num ∉ ((clT ((flS ks).take i)).map (iniE tb)).map (·.1) := by
          rw [List.map_map]
          intro hm
          refine nd_take (f := Dn.num) (by rw [flS_num]; exact nd) hfl ?_
          exact (clT_nums _).subset hm
        have vn : valV kv2 (.inl d.num) = none := by
          rcases tp2.val (n := d.num) with ⟨_, e2⟩ | ⟨_, _, _, e1, _, _⟩
          · exact e2
          · rw [gt_out nin] at e1
            cases e1
        have kvl : kv2.length ≤ 22 := by
          rw [Paired.length tp2, List.length_map]
          refine Nat.le_trans (clT_len _) ?_
          rw [List.length_take]
          omega
        refine ⟨_, rfl, _, rfl, a, dx, _, rfl, S3.hd, rfl, _, rfl, _, rfl, _, rfl, kd, rfl, .inl ⟨_, Rd.of hkd⟩, _, rfl, _, _, _, _, rfl, rfl, SqT.of hb3, at_1, _, DGet.k (k := .inl d.num) hkd, a, .ref b, k, _, d, gt tb d.num, rfl, hu0.same sG3, hE, hok, hbf', fun H4 s4 => ⟨by show 2 ≤ sizeLine; decide, fun r hr => ?_⟩⟩
        have S4 := S3.keepS s4
        have S5 := S4.alloc (o := .tup [.str k, setV d k (gt tb d.num)]) hr
        have g5 := S4.grow (o := .tup [.str k, setV d k (gt tb d.num)]) hr
        have hr5 : upd G' r (.tup [.str k, setV d k (gt tb d.num)]) r = some (.tup [.str k, setV d k (gt tb d.num)]) := upd_same
        have s45 : Same H4 (upd H4 r (.tup [.str k, setV d k (gt tb d.num)])) := Sm.new hr
        show tFld _ _ _ _ (upd H4 r (.tup [.str k, setV d k (gt tb d.num)])) _
        have rG : ∀ b, b ≠ r → upd G' r (.tup [.str k, setV d k (gt tb d.num)]) b = G' b := fun b ne => upd_ne ne
        generalize upd H4 r (.tup [.str k, setV d k (gt tb d.num)]) = H5 at S5 s45 ⊢
        generalize upd G' r (.tup [.str k, setV d k (gt tb d.num)]) = G5 at S5 g5 hr5 rG
        have dp := DPut.k (k := .inl d.num) (v := .ref r) S5.hd2 (by show kv2.length < _; exact Nat.lt_of_le_of_lt kvl (by decide))
        rw [show putK kv2 (.inl d.num) (.ref r) = kv2 ++ [(.inl d.num, .ref r)] from putK_nw vn] at dp
        refine ⟨_, rfl, a, _, dx, _, _, rfl, S5.hd, T.cl_Controls, T.n_Controls_known, fs_known, _, rfl, _, _, _, _, rfl, rfl, SqT.of (s45 _ _ (s4 _ _ hb3)), at_1, k2, _, rfl, dp, ?_⟩
        have S6 := S5.put2 (u := .dK (kv2 ++ [(.inl d.num, .ref r)]))
        have sF5 : Same Hf H5 := Same.trans s3 (Same.trans s4 s45)
        have rf : Hf r = none := Same.free s3 (Same.free s4 hr)
        have k2o : Ho k2 = some (.dK kv2) := So.hd2
        have k2L : k2 ∉ L := o2 (k2, .dK kv2) (by simp)
        have rL : r ∉ L := fun hm => by
          obtain ⟨o, eo⟩ := fz_in fz hm
          rw [rf] at eo
          cases eo
        have o1' : ∀ b ∈ L, G5 b = none := fun b hb => by
          rw [rG b fun z => rL (by rw [← z]; exact hb)]
          exact o1 b hb
        refine ⟨fun b hb => ?_, ?_, G5, kv2 ++ [(.inl d.num, .ref r)], _, _, _, _, S6.dropL o1' ?_, Same.trans g2' g5, ?_, rfl, fun wl' _ z => ?_⟩
        · have nb : b ≠ k2 := fun z => k2L (by rw [← z]; exact hb)
          rw [upd_ne nb]
          exact keep_L fz sF5 b hb
        · refine zW_upd2 hz (fun b o e ne => ?_) (Same.free g2' (So.m (k2, .dK kv2) (by simp)).1) (fun xs z => by rw [k2o] at z; cases z) (fun wl' z => ?_)
          · have nL : b ∉ L := fun hm => by rw [hn0 b hm] at e; cases e
            rw [VG.drop_out nL, upd_ne ne]
            exact sF5 _ _ (sf _ _ e)
          · rw [g2] at z
            cases z
            exact (wF.2 (k2, .dK kv2) (by simp)).symm
        · intro p hp
          rcases List.mem_cons.mp hp with rfl | hp
          · exact o2 _ (by simp)
          · rcases List.mem_cons.mp hp with rfl | hp
            · exact k2L
            · exact o2 p (by simp only [List.mem_cons]; exact .inr (.inr (List.mem_cons.mp hp)))
        · rw [eT, List.map_append]
          exact Paired.snoc (tp2.same g5) ⟨rfl, r, rfl, hr5⟩
        · rw [g2] at z
          cases z
          obtain ⟨wl', _, _, _, _, _, _, eσ, _, _, hw', _⟩ := hz
          rw [eσ] at g2
          cases g2
          refine ⟨?_, fun p hp => ?_⟩
          · rw [rG _ fun z => by rw [← z, sf _ _ hw'] at rf; cases rf]
            exact wF.1
          · rcases List.mem_cons.mp hp with rfl | hp
            · exact wF.2 _ (by simp)
            · rcases List.mem_cons.mp hp with rfl | hp
              · exact wF.2 (k2, .dK kv2) (by simp)
              · exact wF.2 p (by simp only [List.mem_cons]; exact .inr (.inr (List.mem_cons.mp hp)))
    · rintro i σp σ H2 Ho ⟨G', kv2, y3, y4, y5, y6, S2, g2', tp2, rfl, c1⟩ fr ⟨hi, wl, kb, w0, p2, i0, sm⟩ hn0
      have wF : G' wl = none ∧ ∀ p ∈ ((a, HO.ins C.Controls dx (fsC k2)) :: (k2, HO.dK kv2) :: (kd, .dK kvs) :: M), p.1 ≠ wl := by
        rcases Nat.eq_zero_or_pos i with h0 | h0
        · exact ⟨S2.gnone (i0 h0), fun p hp => ne_of_none (S2.m p hp).2 (i0 h0)⟩
        · exact c1 wl h0 (p2 h0)
      have So := S2.kb kb wF.1 wF.2
      rw [List.take_of_length_le (by omega)] at tp2
      have lsub := clT_nums (flS ks)
      have lnd : ((clT (flS ks)).map fun x => x.1.num).Nodup := by
        rw [flS_num] at lsub
        exact nd.sublist lsub
      have ll : (clT (flS ks)).length ≤ 22 := Nat.le_trans (clT_len _) fl22
      have ct0 : CtA C.Controls G' Ho M a (mixT ks tb (clT (flS ks)) 0) := ⟨dx, k2, kv2, So.forget, by simpa [mixT] using tp2, by rw [mix_keys]; exact lnd, by
        have := congrArg List.length (mix_keys ks tb (clT (flS ks)) 0)
        rw [List.length_map, List.length_map] at this
        omega⟩
      refine ⟨_, rfl, a, _, dx, _, _, rfl, So.hd, T.cl_Controls, T.n_Controls_known, fs_known, k2, kv2, rfl, Rd.of So.hd2, fun lk hlk => ?_⟩
      rw [tp2.keys, List.map_map]
      obtain ⟨ct1, gl⟩ := ct0.alloc (o := .lst ((clT (flS ks)).map ((fun e => V.int e.1) ∘ iniE tb))) hlk
      have hlk1 : upd G' lk (.lst ((clT (flS ks)).map ((fun e => V.int e.1) ∘ iniE tb))) lk = some (.lst ((clT (flS ks)).map ((fun e => V.int e.1) ∘ iniE tb))) := upd_same
      generalize upd Ho lk (.lst ((clT (flS ks)).map ((fun e => V.int e.1) ∘ iniE tb))) = H5 at ct1 ⊢
      generalize upd G' lk (.lst ((clT (flS ks)).map ((fun e => V.int e.1) ∘ iniE tb))) = G5 at ct1 gl hlk1
      have gG5 := Same.trans g2' gl
      refine ⟨lk, rfl, ⟨_, SqL.of (ct1.sm _ _ hlk1)⟩, ?_⟩
      refine for_it (walk_list (K := K) (a := lk) (xs := (clT (flS ks)).map ((fun e => V.int e.1) ∘ iniE tb))) (fun i σ H' => ∃ (G6 : Hp) (y3 y4 y5 y6 : Option V), CtA C.Controls G6 H' M a (mixT ks tb (clT (flS ks)) i) ∧ Same G5 G6 ∧ σ = [some (.ref a), some (.ref da), some (.ref kd), y3, y4, y5, y6]) ⟨G5, _, _, _, _, ct1, Same.refl _, rfl⟩ (fun i σ H' _ z => by obtain ⟨G6, _, _, _, _, ct, g6, _⟩ := z; exact SqL.of (ct.sm _ _ (g6 _ _ hlk1))) ?_ ?_
      · rintro j x σ H6 H7 hj ⟨G6, y3, y4, y5, y6, ct, g6, rfl⟩ ⟨rfl, hx⟩
        rw [List.getElem?_map] at hx
        obtain ⟨z, hz, rfl⟩ := Option.map_eq_some_iff.mp hx
        obtain ⟨d, k⟩ := z
        obtain ⟨m1, m2⟩ := mix_at (ks := ks) (tb := tb) hz
        have ndm : ((mixT ks tb (clT (flS ks)) j).map (·.1)).Nodup := by rw [mix_keys]; exact lnd
        have gm : gt (mixT ks tb (clT (flS ks)) j) d.num = some (k, setV d k (gt tb d.num)) := gt_at ndm (e := iniE tb (d, k)) (by rw [m1]; simp)
        have ct' := ct
        obtain ⟨dx6, kd6, kv6, S6, tp6, _, _⟩ := ct'
        rcases tp6.val (n := d.num) with ⟨e1, _⟩ | ⟨k0, v0, r0, e1, e2, e3⟩
        · rw [gm] at e1
          cases e1
        rw [gm] at e1
        cases e1
        have dg := DGet.k (H := H7) (k := .inl d.num) S6.hd2
        rw [e2] at dg
        have same_ : (finE ks tb (d, k) = iniE tb (d, k)) → CtA C.Controls G6 H7 M a (mixT ks tb (clT (flS ks)) (j + 1)) := fun e => by
          rw [m2, e, ← m1]
          exact ct
        refine ⟨_, rfl, a, _, dx6, _, _, rfl, S6.hd, T.cl_Controls, T.n_Controls_known, fs_known, _, rfl, kd6, _, rfl, dg, _, _, _, _, rfl, rfl, SqT.of (S6.s _ _ e3), rfl, rfl, _, rfl, ite2 (fun c => ?_) (fun c => ?_)⟩
        · have ck : k = "select" := V.str.inj (of_decide_eq_true c)
          subst ck
          have hdm : d ∈ flS ks ∧ kindD d = some "select" := by
            have hm := List.mem_of_getElem? hz
            unfold clT at hm
            obtain ⟨d', hd', e⟩ := List.mem_filterMap.mp hm
            obtain ⟨k', hk', e⟩ := Option.map_eq_some_iff.mp e
            cases e
            exact ⟨hd', hk'⟩
          have hE := kind_isE hdm.2
          obtain ⟨B, hB⟩ : ∃ B, (d, B) ∈ anS [] ks := by
            have := hdm.1
            rw [← anS_fl [] ks] at this
            obtain ⟨p, hp, rfl⟩ := List.mem_map.mp this
            exact ⟨p.2, hp⟩
          obtain ⟨lf, ef⟩ := findD_at nd hB
          have ef : findD ks d.num = some (lf, d) := ef
          have hokd : NamesOk d := (anS_all [] (fun _ z => nomatch z) ks hA _ hB).1
          have gG6 := Same.trans gG5 g6
          have doc6 : DocA H7 (.ref da) ks := ⟨da, xs, rfl, ct.sm _ _ (gG6 _ _ hda), (hxs.same gG6).same ct.sm, hN⟩
          refine ⟨_, rfl, a, dx6, _, rfl, S6.hd, rfl, _, rfl, _, rfl, _, rfl, .ref da, ks, d.num, rfl, doc6, fun z => (by rw [ef] at z; cases z), fun p u H8 e hu s8 => ?_⟩
          rw [ef] at e
          cases e
          obtain ⟨ct8, g8⟩ := ct.call s8
          generalize joinH G6 (newer H7 H8) = G8 at ct8 g8
          refine ⟨a, .ref da, u, ks, d, _, G8, M, rfl, ct8, doc6.same s8, hA, hu.same s8, hE, hokd, ?_, ?_, ?_, fun G9 H9 ct9 g9 => ?_⟩
          · cases d with
            | tx m y => exact nomatch hE
            | el m tg as kk =>
              intro e he
              obtain ⟨B', hB'⟩ := flS_in hB he
              exact (anS_all [] (fun _ z => nomatch z) ks hA _ hB').1
          · rw [flS_len]
            cases d with
            | tx m y => exact nomatch hE
            | el m tg as kk =>
              have := numS_sub 0 ks _ hdm.1
              simp only [numN, List.length_cons] at this
              show (numS kk).length ≤ 1000
              omega
          · unfold shV
            rw [gm]
            refine setV_flat fun x hx => ?_
            unfold gt at hx
            obtain ⟨e, he, rfl⟩ := Option.map_eq_some_iff.mp hx
            exact hfb e (List.mem_of_find?_eq_some he)
          · refine ⟨G9, _, _, _, _, ?_, Same.trans g6 (Same.trans g8 g9), rfl⟩
            have : selT ks d (mixT ks tb (clT (flS ks)) j) = mixT ks tb (clT (flS ks)) (j + 1) := by
              have shv : shV (mixT ks tb (clT (flS ks)) j) d.num = setV d "select" (gt tb d.num) := by
                unfold shV
                rw [gm]
              unfold selT
              rw [shv, m2]
              unfold finE selV
              by_cases c1 : boundD d "select" = .non
              · rw [if_pos c1]
                rw [if_pos (show ("select" : Str) = "select" ∧ boundD d "select" = .non from ⟨rfl, c1⟩)]
                by_cases c2 : inV (setV d "select" (gt tb d.num)) ((openL ks d.kids).map V.str) = true
                · rw [if_pos c2, if_pos c2, m1]
                  rfl
                · rw [if_neg c2, if_neg c2, m1]
                  rw [m1] at ndm
                  exact setT_at ndm
              · rw [if_neg c1]
                rw [if_neg (show ¬ (("select" : Str) = "select" ∧ boundD d "select" = .non) from fun z => c1 z.2), m1]
                rfl
            rw [← this]
            exact ct9
        · refine ⟨G6, _, _, _, _, same_ ?_, g6, rfl⟩
          unfold finE iniE
          rw [if_neg (fun z => c (decide_eq_true (by rw [show k = "select" from z.1])))]
      · rintro σ H6 ⟨G6, y3, y4, y5, y6, ct, g6, rfl⟩
        rw [List.length_map] at ct
        refine q G6 H6 ?_ (Same.trans gG5 g6)
        have : mixT ks tb (clT (flS ks)) (clT (flS ks)).length = setlT ks tb := by
          unfold mixT setlT
          rw [List.take_length, List.drop_length]
          simp
        rw [← this]
        exact ct
end
end VL

set_option Elab.async false
set_option linter.all false
set_option pp.maxSteps 700
set_option maxRecDepth 100000
set_option maxHeartbeats 4000000
namespace VL
open PySem PySem.Spec PyProof.Rows L2
/-- None, a truth value or a text -/
def nbs (v : V) : Prop := v = .non ∨ (∃ b, v = .bl b) ∨ ∃ y, v = .str y
theorem nbs_flat {v : V} (h : nbs v) : flatV v = true := by
  rcases h with rfl | ⟨b, rfl⟩ | ⟨y, rfl⟩ <;> rfl
theorem nbs_scal {v u : V} (h : nbs v) (g : nbs u) : scal v u = true := by
  rcases h with rfl | ⟨b, rfl⟩ | ⟨y, rfl⟩ <;> rcases g with rfl | ⟨b', rfl⟩ | ⟨y', rfl⟩ <;> rfl
/-- what a control shows behind a settling, when it showed bf -/
def fixV (ks : List Dn) (d : Dn) (k : Str) (bf : Option (Str × V)) : V := if k = "select" ∧ boundD d "select" = .non then selV ks d (setV d k bf) else setV d k bf
theorem finE_eq (ks : List Dn) (tb : Tb) (d : Dn) (k : Str) : finE ks tb (d, k) = (d.num, k, fixV ks d k (gt tb d.num)) := rfl
theorem nd_inj {α : Type} {f : α → Int} {l : List α} {a b : α} (nd : (l.map f).Nodup) (ha : a ∈ l) (hb : b ∈ l) (e : f a = f b) : a = b := by
  have h1 := find_nd (f := f) nd ha
  have h2 := find_nd (f := f) nd hb
  rw [e, h2] at h1
  exact (Option.some.inj h1).symm
theorem clT_mem {ds : List Dn} {d : Dn} {k : Str} : (d, k) ∈ clT ds ↔ d ∈ ds ∧ kindD d = some k := by
  unfold clT
  rw [List.mem_filterMap]
  constructor
  · rintro ⟨e, he, h⟩
    obtain ⟨k', h1, h2⟩ := Option.map_eq_some_iff.mp h
    cases h2
    exact ⟨he, h1⟩
  · rintro ⟨h1, h2⟩
    exact ⟨d, h1, by rw [h2]; rfl⟩
theorem setl_keys {ks : List Dn} {tb : Tb} : (setlT ks tb).map (·.1) = (clT (flS ks)).map fun x => x.1.num := by
  unfold setlT
  rw [List.map_map]
  rfl
theorem gt_setl {ks : List Dn} (nd : (numS ks).Nodup) (tb : Tb) {d : Dn} (hd : d ∈ flS ks) : gt (setlT ks tb) d.num = (kindD d).map fun k => (k, fixV ks d k (gt tb d.num)) := by
  have ndf : ((flS ks).map Dn.num).Nodup := by rw [flS_num]; exact nd
  cases hk : kindD d with
  | none =>
    refine gt_out fun hm => ?_
    rw [setl_keys] at hm
    obtain ⟨x, hx, e⟩ := List.mem_map.mp hm
    obtain ⟨h1, h2⟩ := clT_mem.mp (show (x.1, x.2) ∈ clT (flS ks) from hx)
    rw [nd_inj ndf h1 hd e, hk] at h2
    exact nomatch h2
  | some k =>
    have kn : ((setlT ks tb).map (·.1)).Nodup := by
      rw [setl_keys]
      exact ndf.sublist (clT_nums _)
    have hm : finE ks tb (d, k) ∈ setlT ks tb := List.mem_map.mpr ⟨(d, k), clT_mem.mpr ⟨hd, hk⟩, rfl⟩
    exact gt_at kn hm
theorem gt_setl_no {ks : List Dn} (tb : Tb) {n : Int} (h : n ∉ numS ks) : gt (setlT ks tb) n = none := by
  refine gt_out fun hm => h ?_
  rw [setl_keys] at hm
  rw [← flS_num]
  exact (clT_nums _).subset hm
theorem setV_some {d : Dn} {k : Str} {v : V} : setV d k (some (k, v)) = if boundD d k = .non then v else shownV (boundD d k) k := by
  unfold setV
  split
  · show (if k = k then v else _) = _
    rw [if_pos rfl]
  · rfl
theorem setV_bound {d : Dn} {k : Str} {bf bf' : Option (Str × V)} (h : boundD d k ≠ .non) : setV d k bf = setV d k bf' := by
  unfold setV
  rw [if_neg h, if_neg h]
theorem selV_idem {ks : List Dn} {d : Dn} {v : V} : selV ks d (selV ks d v) = selV ks d v := by
  unfold selV
  by_cases c : inV v ((openL ks d.kids).map V.str) = true
  · rw [if_pos c, if_pos c]
  · rw [if_neg c]
    split
    · rfl
    · rfl
theorem fix_idem {ks : List Dn} {d : Dn} {k : Str} {bf : Option (Str × V)} : fixV ks d k (some (k, fixV ks d k bf)) = fixV ks d k bf := by
  by_cases hb : boundD d k = .non
  · have e : ∀ v, setV d k (some (k, v)) = v := fun v => by rw [setV_some, if_pos hb]
    unfold fixV
    by_cases c : k = "select" ∧ boundD d "select" = .non
    · rw [if_pos c, if_pos c, e, selV_idem]
    · rw [if_neg c, if_neg c, e]
  · have e : ∀ b b', fixV ks d k b = fixV ks d k b' := fun b b' => by
      unfold fixV
      rw [setV_bound hb (bf := b) (bf' := b')]
    exact e _ _
theorem setl_idem {ks : List Dn} (nd : (numS ks).Nodup) (tb : Tb) : setlT ks (setlT ks tb) = setlT ks tb := by
  show (clT (flS ks)).map (finE ks (setlT ks tb)) = (clT (flS ks)).map (finE ks tb)
  refine List.map_congr_left fun x hx => ?_
  obtain ⟨h1, h2⟩ := clT_mem.mp (show (x.1, x.2) ∈ clT (flS ks) from hx)
  show (x.1.num, x.2, fixV ks x.1 x.2 (gt (setlT ks tb) x.1.num)) = (x.1.num, x.2, fixV ks x.1 x.2 (gt tb x.1.num))
  rw [gt_setl nd tb h1, h2]
  show (x.1.num, x.2, fixV ks x.1 x.2 (some (x.2, _))) = _
  rw [fix_idem]
theorem gt_setT_ne {n n' : Int} {v : V} (h : n' ≠ n) : ∀ tb : Tb, gt (setT tb n v) n' = gt tb n'
  | [] => rfl
  | e :: r => by
    have ih := gt_setT_ne (v := v) h r
    unfold gt setT at ih ⊢
    rw [List.map_cons, List.find?_cons, List.find?_cons]
    have e1 : (if e.1 = n then (e.1, e.2.1, v) else e).1 = e.1 := by split <;> rfl
    rw [e1]
    by_cases c : e.1 = n'
    · rw [decide_eq_true c, if_neg (by rw [c]; exact h)]
    · rw [decide_eq_false c]
      exact ih
theorem gt_setT_eq {n : Int} {v v0 : V} {k : Str} : ∀ {tb : Tb}, gt tb n = some (k, v0) → gt (setT tb n v) n = some (k, v)
  | [], h => nomatch h
  | e :: r, h => by
    have ih := gt_setT_eq (n := n) (v := v) (v0 := v0) (k := k) (tb := r)
    unfold gt at h
    unfold gt setT at ih ⊢
    rw [List.find?_cons] at h
    rw [List.map_cons, List.find?_cons]
    have e1 : (if e.1 = n then (e.1, e.2.1, v) else e).1 = e.1 := by split <;> rfl
    rw [e1]
    by_cases c : e.1 = n
    · rw [decide_eq_true c] at h ⊢
      have h : e.2 = (k, v0) := Option.some.inj h
      rw [if_pos c]
      show some (e.2.1, v) = _
      rw [h]
    · rw [decide_eq_false c] at h ⊢
      exact ih h
/-- settled -/
def Stl (ks : List Dn) (tb : Tb) : Prop := setlT ks tb = tb
theorem Stl.gt {ks : List Dn} {tb : Tb} (h : Stl ks tb) (nd : (numS ks).Nodup) {d : Dn} (hd : d ∈ flS ks) : (kindD d = none ∧ VL.gt tb d.num = none) ∨ ∃ k v, kindD d = some k ∧ VL.gt tb d.num = some (k, v) ∧ fixV ks d k (some (k, v)) = v := by
  have e := gt_setl nd tb hd
  rw [show setlT ks tb = tb from h] at e
  cases hk : kindD d with
  | none =>
    rw [hk] at e
    exact .inl ⟨rfl, e⟩
  | some k =>
    rw [hk] at e
    have e : VL.gt tb d.num = some (k, fixV ks d k (VL.gt tb d.num)) := e
    refine .inr ⟨k, fixV ks d k (VL.gt tb d.num), rfl, e, ?_⟩
    rw [fix_idem]
theorem Stl.no {ks : List Dn} {tb : Tb} (h : Stl ks tb) {n : Int} (hn : n ∉ numS ks) : VL.gt tb n = none := by
  have e := gt_setl_no tb hn
  rwa [show setlT ks tb = tb from h] at e
theorem Stl.set {ks : List Dn} {tb : Tb} (h : Stl ks tb) (nd : (numS ks).Nodup) {d : Dn} (hd : d ∈ flS ks) {k : Str} (hk : kindD d = some k) (v : V) : setlT ks (setT tb d.num v) = setT tb d.num (fixV ks d k (some (k, v))) := by
  have ndf : ((flS ks).map Dn.num).Nodup := by rw [flS_num]; exact nd
  have e0 : setT tb d.num (fixV ks d k (some (k, v))) = setT (setlT ks tb) d.num (fixV ks d k (some (k, v))) := by rw [show setlT ks tb = tb from h]
  rw [e0]
  show (clT (flS ks)).map (finE ks (setT tb d.num v)) = ((clT (flS ks)).map (finE ks tb)).map _
  rw [List.map_map]
  refine List.map_congr_left fun x hx => ?_
  obtain ⟨h1, h2⟩ := clT_mem.mp (show (x.1, x.2) ∈ clT (flS ks) from hx)
  show (x.1.num, x.2, fixV ks x.1 x.2 (VL.gt (setT tb d.num v) x.1.num)) = if x.1.num = d.num then (x.1.num, x.2, fixV ks d k (some (k, v))) else (x.1.num, x.2, fixV ks x.1 x.2 (VL.gt tb x.1.num))
  by_cases c : x.1.num = d.num
  · have ex : x.1 = d := nd_inj ndf h1 hd c
    rw [if_pos c, c]
    rcases h.gt nd hd with ⟨z, _⟩ | ⟨k', v', z1, z2, _⟩
    · rw [hk] at z
      cases z
    · rw [hk] at z1
      cases z1
      rw [gt_setT_eq z2]
      rw [ex, hk] at h2
      cases h2
      rw [ex]
  · rw [if_neg c, gt_setT_ne c]
theorem Stl.after {ks : List Dn} {tb : Tb} (h : Stl ks tb) (nd : (numS ks).Nodup) {d : Dn} (hd : d ∈ flS ks) {k : Str} (hk : kindD d = some k) (v : V) : Stl ks (setT tb d.num (fixV ks d k (some (k, v)))) := by
  show setlT ks _ = _
  rw [h.set nd hd hk, fix_idem]
theorem shV_set {tb : Tb} {n : Int} {k : Str} {v0 v : V} (h : gt tb n = some (k, v0)) : shV (setT tb n v) n = v := by
  unfold shV
  rw [gt_setT_eq h]
theorem shV_set_ne {tb : Tb} {n n' : Int} {v : V} (h : n' ≠ n) : shV (setT tb n v) n' = shV tb n' := by
  unfold shV
  rw [gt_setT_ne h]
theorem shV_of {tb : Tb} {n : Int} {k : Str} {v : V} (h : gt tb n = some (k, v)) : shV tb n = v := by
  unfold shV
  rw [h]
theorem setT_same {tb : Tb} {n : Int} {k : Str} {v : V} (nd : (tb.map (·.1)).Nodup) (h : gt tb n = some (k, v)) : setT tb n v = tb := by
  unfold setT
  have : ∀ e ∈ tb, (if e.1 = n then (e.1, e.2.1, v) else e) = e := fun e he => by
    by_cases c : e.1 = n
    · have := gt_at nd he
      rw [c, h] at this
      obtain ⟨n0, k0, v0⟩ := e
      have this : (k, v) = (k0, v0) := Option.some.inj this
      cases this
      rw [if_pos c]
    · rw [if_neg c]
  rw [List.map_congr_left this, List.map_id']
theorem shownV_nbs {v : V} {k : Str} : nbs (shownV v k) := by
  unfold shownV
  split
  · exact .inr (.inl ⟨_, rfl⟩)
  · split
    · exact .inr (.inr ⟨_, rfl⟩)
    · exact .inr (.inr ⟨_, rfl⟩)
theorem setV_nbs {d : Dn} {k : Str} {bf : Option (Str × V)} (h : ∀ x, bf = some x → nbs x.2) : nbs (setV d k bf) := by
  unfold setV
  split
  · split
    · split
      · exact h _ rfl
      · exact shownV_nbs
    · exact shownV_nbs
  · exact shownV_nbs
theorem gt_mem {tb : Tb} {n : Int} {x : Str × V} (h : gt tb n = some x) : ∃ e ∈ tb, e.2 = x := by
  unfold gt at h
  obtain ⟨e, he, rfl⟩ := Option.map_eq_some_iff.mp h
  exact ⟨e, List.mem_of_find?_eq_some he, rfl⟩
theorem fix_nbs {ks : List Dn} {d : Dn} {k : Str} {bf : Option (Str × V)} (h : ∀ x, bf = some x → nbs x.2) : nbs (fixV ks d k bf) := by
  unfold fixV selV
  split
  · split
    · exact setV_nbs h
    · exact .inr (.inr ⟨_, rfl⟩)
  · exact setV_nbs h
def NbT (tb : Tb) : Prop := ∀ e ∈ tb, nbs e.2.2
theorem setlT_nbs {ks : List Dn} {tb : Tb} (h : NbT tb) : NbT (setlT ks tb) := fun e he => by
  unfold setlT at he
  obtain ⟨x, _, rfl⟩ := List.mem_map.mp he
  exact fix_nbs fun y hy => by
    obtain ⟨e, he, rfl⟩ := gt_mem hy
    exact h e he
theorem shV_nbs {tb : Tb} {n : Int} (h : NbT tb) : nbs (shV tb n) := by
  unfold shV
  split
  · rename_i x e
    obtain ⟨e', he, rfl⟩ := gt_mem e
    exact h e' he
  · exact .inl rfl
theorem setT_nbs {n : Int} {v : V} {tb : Tb} (h : NbT tb) (hv : nbs v) : NbT (setT tb n v) := fun e he => by
  unfold setT at he
  obtain ⟨x, hx, rfl⟩ := List.mem_map.mp he
  split
  · exact hv
  · exact h x hx
end VL

set_option Elab.async false
set_option linter.all false
set_option pp.maxSteps 700
set_option maxRecDepth 100000
set_option maxHeartbeats 4000000
namespace VL
open PySem PySem.Spec PyProof.Rows L2
/-- events that were noted -/
abbrev Ev := Int × Str × List (Key × V)
def EvA (G : Hp) (v : V) (e : Ev) : Prop := ∃ t d, v = .ref t ∧ G t = some (.tup [.int e.1, .str e.2.1, .ref d]) ∧ G d = some (.dK e.2.2)
theorem EvA.same {G G' : Hp} {vs : List V} {es : List Ev} (h : Paired (EvA G) vs es) (s : Same G G') : Paired (EvA G') vs es := Paired.mono (fun _ _ ⟨t, d, e, h1, h2⟩ => ⟨t, d, e, s _ _ h1, s _ _ h2⟩) h
def fsR (vd : V) (a sl pl : Addr) : List (Str × V) := [("document", vd), ("panel", .ref a), ("sent", .ref sl), ("prevented", .ref pl)]
structure DocOk (G : Hp) (vd : V) (ks : List Dn) : Prop where
  d : DocA G vd ks
  ok : AllS NamesOk ks
  nd : (numS ks).Nodup
  nl : (numS ks).length ≤ 22
theorem DocOk.same {G G' : Hp} {vd : V} {ks : List Dn} (h : DocOk G vd ks) (s : Same G G') : DocOk G' vd ks := ⟨h.d.same s, h.ok, h.nd, h.nl⟩
def RtA (C : Ad) (G H : Hp) (M : List (Addr × HO)) (r : Addr) (vd : V) (ks : List Dn) (tb : Tb) (es : List Ev) (pv : List Str) : Prop :=
  ∃ dr a sl pl vs, G r = some (.ins C.Rehearsal dr (fsR vd a sl pl)) ∧ CtA C.Controls G H ((sl, .lst vs) :: M) a tb ∧ Paired (EvA G) vs es ∧ G pl = some (.lst (pv.map V.str)) ∧ DocOk G vd ks ∧ NbT tb
theorem CtA.keep {Cc : Addr} {G H H' : Hp} {M : List (Addr × HO)} {a : Addr} {tb : Tb} (h : CtA Cc G H M a tb) (s : Same H H') : CtA Cc G H' M a tb := by
  obtain ⟨dx, kd, kvs, S, tp, nd, tl⟩ := h
  exact ⟨dx, kd, kvs, S.keepS s, tp, nd, tl⟩
theorem Sb.perm {G H : Hp} {M M' : List (Addr × HO)} (S : Sb G H M) (h : M.Perm M') : Sb G H M' := ⟨S.s, fun p hp => S.m p (h.mem_iff.mpr hp), (h.map _).nodup_iff.mp S.nd⟩
theorem CtA.take {Cc : Addr} {G H H' : Hp} {M : List (Addr × HO)} {a t : Addr} {o : HO} {tb : Tb} (h : CtA Cc G H M a tb) (s : Same H H') (h0 : H t = none) (h1 : H' t = some o) : CtA Cc G H' ((t, o) :: M) a tb := by
  obtain ⟨dx, kd, kvs, S, tp, nd, tl⟩ := h
  have S' := (S.keepS s).take (t := t) (o := o) (S.gnone h0) h1 (fun p hp => ne_of_none (S.m p hp).2 h0)
  exact ⟨dx, kd, kvs, S'.perm (List.perm_middle (l₁ := [_, _])).symm, tp, nd, tl⟩
theorem CtA.perm {Cc : Addr} {G H : Hp} {M M' : List (Addr × HO)} {a : Addr} {tb : Tb} (h : CtA Cc G H M a tb) (p : M.Perm M') : CtA Cc G H M' a tb := by
  obtain ⟨dx, kd, kvs, S, tp, nd, tl⟩ := h
  exact ⟨dx, kd, kvs, S.perm ((p.cons _).cons _), tp, nd, tl⟩
theorem CtA.put {Cc : Addr} {G H : Hp} {M : List (Addr × HO)} {a t : Addr} {o u : HO} {tb : Tb} (h : CtA Cc G H ((t, o) :: M) a tb) : CtA Cc G (upd H t u) ((t, u) :: M) a tb := by
  obtain ⟨dx, kd, kvs, S, tp, nd, tl⟩ := h
  exact ⟨dx, kd, kvs, ((S.perm (List.perm_middle (l₁ := [_, _]))).put (u := u)).perm (List.perm_middle (l₁ := [_, _])).symm, tp, nd, tl⟩
theorem CtA.mem {Cc : Addr} {G H : Hp} {M : List (Addr × HO)} {a : Addr} {tb : Tb} (h : CtA Cc G H M a tb) {p : Addr × HO} (hp : p ∈ M) : H p.1 = some p.2 := by
  obtain ⟨dx, kd, kvs, S, tp, nd, tl⟩ := h
  exact (S.m p (List.mem_cons_of_mem _ (List.mem_cons_of_mem _ hp))).2
theorem CtA.put2 {Cc : Addr} {G H : Hp} {M : List (Addr × HO)} {p : Addr × HO} {a t : Addr} {o u : HO} {tb : Tb} (h : CtA Cc G H (p :: (t, o) :: M) a tb) : CtA Cc G (upd H t u) (p :: (t, u) :: M) a tb := ((h.perm (.swap _ _ _)).put (u := u)).perm (.swap _ _ _)
theorem CtA.drop {Cc : Addr} {G H : Hp} {M : List (Addr × HO)} {a t : Addr} {o : HO} {tb : Tb} (h : CtA Cc G H ((t, o) :: M) a tb) : CtA Cc (upd G t o) H M a tb ∧ Same G (upd G t o) := by
  obtain ⟨dx, kd, kvs, S, tp, nd, tl⟩ := h
  obtain ⟨S', g⟩ := (S.perm (List.perm_middle (l₁ := [_, _]))).drop
  exact ⟨⟨dx, kd, kvs, S', tp.same g, nd, tl⟩, g⟩
/-- what is new since, and kept, may be told in the part -/
theorem CtA.more {Cc : Addr} {G H H' : Hp} {M : List (Addr × HO)} {a : Addr} {tb : Tb} (h : CtA Cc G H M a tb) (s : Same H H') : ∃ G', CtA Cc G' H' M a tb ∧ Same G G' ∧ Same (newer H H') G' := by
  obtain ⟨dx, kd, kvs, S, tp, nd, tl⟩ := h
  exact ⟨joinH G (newer H H'), ⟨dx, kd, kvs, S.call s, tp.same joinH_l, nd, tl⟩, joinH_l, joinH_r S.s⟩
theorem RtA.keep {C : Ad} {G H H' : Hp} {M : List (Addr × HO)} {r : Addr} {vd : V} {ks : List Dn} {tb : Tb} {es : List Ev} {pv : List Str} (h : RtA C G H M r vd ks tb es pv) (s : Same H H') : RtA C G H' M r vd ks tb es pv := by
  obtain ⟨dr, a, sl, pl, vs, h1, ct, h⟩ := h
  exact ⟨dr, a, sl, pl, vs, h1, ct.keep s, h⟩
theorem RtA.sm {C : Ad} {G H : Hp} {M : List (Addr × HO)} {r : Addr} {vd : V} {ks : List Dn} {tb : Tb} {es : List Ev} {pv : List Str} (h : RtA C G H M r vd ks tb es pv) : Same G H := by
  obtain ⟨dr, a, sl, pl, vs, h1, ct, h⟩ := h
  exact ct.sm
def StrK (l : List (Key × V)) : Prop := (l.map (·.1)).Nodup ∧ (∀ p ∈ l, ∃ y, p.2 = .str y) ∧ l.length ≤ 100
def spCopyS : Sp := fun vs H Q _ => ∃ y : Str, vs = [.str y] ∧ Q (.str y) H
def spNames : Sp := fun vs H Q _ => ∃ (dd : Addr) (kvs : List (Key × V)), vs = [.ref dd] ∧ H dd = some (.dK kvs) ∧ StrK kvs ∧ ∀ q H', Same H H' → H q = none → H' q = some (.dK kvs) → Q (.ref q) H'
def canP (ev : Str) : Bool := !decide (ev ∈ [("input" : Str), "change"])
def spCan : Sp := fun vs H Q _ => ∃ ev : Str, vs = [.str ev] ∧ Q (.bl (canP ev)) H
def spPanel (Cr : Addr) : Sp := fun vs H Q _ => ∃ (r dr : Addr) (vd : V) (a sl pl : Addr), vs = [.ref r] ∧ H r = some (.ins Cr dr (fsR vd a sl pl)) ∧ Q (.ref a) H
/-- tuples stay -/
def KpT (H H' : Hp) : Prop := ∀ b xs, H b = some (.tup xs) → H' b = some (.tup xs)
def spSendE (C : Ad) : Sp := fun vs H Q _ => ∃ (r : Addr) (n : Int) (ev : Str) (dd : Addr) (kvs : List (Key × V)) (G : Hp) (M : List (Addr × HO)) (vd : V) (ks : List Dn) (tb : Tb) (es : List Ev) (pv : List Str), vs = [.ref r, .int n, .str ev, .ref dd] ∧ RtA C G H M r vd ks tb es pv ∧ H dd = some (.dK kvs) ∧ StrK kvs ∧ es.length ≤ 100000 ∧
  ∀ G' H', RtA C G' H' M r vd ks tb (es ++ [(n, ev, kvs)]) pv → Same G G' → KpT H H' → Q (.bl (decide (ev ∈ pv) && canP ev)) H'
def spInitR (C : Ad) : Sp := fun vs H Q _ => ∃ (r dr : Addr) (vd : V) (p0 : Addr) (pv : List Str) (ks : List Dn) (G : Hp) (M : List (Addr × HO)), vs = [.ref r, vd, .ref p0] ∧ Sb G H ((r, .ins C.Rehearsal dr []) :: M) ∧ G p0 = some (.lst (pv.map V.str)) ∧ DocOk G vd ks ∧
  ∀ G' H', RtA C G' H' M r vd ks (setlT ks []) [] pv → Same G G' → Q .non H'
section
variable {P : Program} {w : World} {K : PySem.W.Frag} {mg : Str → Option Value} {base : Heap} {C : Ad}
theorem sc_copy_of : FnScope ["value", "part", "name"] ["value"] (defScope s_copy_of) := ⟨rfl, rfl, rfl, by decide +kernel, rfl, by decide +kernel, by decide +kernel⟩
theorem copy_0 (T : Txt K w mg C) {k : Nat} : Cal P w K mg base (k + 1) "copy_of" spFalse := cal_of T.d_copy_of sc_copy_of (fun vs H Q E h => h.elim) (fun f cdv A outer s H vs Q E hr h => h.elim)
theorem ok_copyS (T : Txt K w mg C) : Cal P w K mg base 2 "copy_of" spCopyS := by
  have Gcopy_of := copy_0 (P := P) (base := base) T (k := 0)
  refine cal_of T.d_copy_of sc_copy_of (fun vs H Q E h => ?_) (fun f cdv A outer s H vs Q E hr h => ?_)
  · obtain ⟨i, rfl, _⟩ := h
    rfl
  · obtain ⟨i, rfl, q⟩ := h
    have hu := hu_of hr
    refine ⟨_, (pss_cons (ps_if (pt_val (pe_callB call_isi (by rfl) T.z_isinstance (by decide +kernel) (pa_cons (pv 0) (pa_cons (pe_bltn (v := .ty "list") (by rfl) T.z_list (by decide +kernel) rfl) pa_nil)))) (pss_one (ps_ret (pe_lc (own := [("part", 1)]) (g := gName 1) (tt := tYes) rfl sc_copy_of.nd (pi_list (pv 0)) (blkOk_by (N := ["value", "part", "name"]) (sc := (defScope s_copy_of)) (by decide +kernel)) (fun _ _ _ _ _ => pg_name (i := 1) sc_copy_of.nd rfl (Or.inl rfl)) (fun _ _ _ _ _ => pts_nil) (fun _ _ _ _ _ => (pe_ifExp (PW.pt (pw_or (pt_val (pe_callB (call_isiS (K := K) rfl) (by rfl) T.z_isinstance (by decide +kernel) (pa_cons (pv 1) (pa_cons (pe_bltn (v := .ty "int") (by rfl) T.z_int (by decide +kernel) rfl) pa_nil)))) (pw_or (pt_val (pe_callB (call_isiS (K := K) rfl) (by rfl) T.z_isinstance (by decide +kernel) (pa_cons (pv 1) (pa_cons (pe_bltn (v := .ty "str") (by rfl) T.z_str (by decide +kernel) rfl) pa_nil)))) (pw_or1 (pt_cmp (pc_isN (pv 1))))))) (pv 1) (pe_c Gcopy_of hr (Nat.le_refl _) (by rfl) (pa_cons (pv 1) pa_nil))))))) pss_nil) (pss_cons (ps_if (pt_val (pe_callB call_isi (by rfl) T.z_isinstance (by decide +kernel) (pa_cons (pv 0) (pa_cons (pe_bltn (v := .ty "dict") (by rfl) T.z_dict (by decide +kernel) rfl) pa_nil)))) (pss_one (ps_ret (pe_lock (pe_dc (own := [("name", 2)]) (g := gName 2) (tt := tYes) rfl sc_copy_of.nd (pi_keys (pv 0)) (blkOk_by (N := ["value", "part", "name"]) (sc := (defScope s_copy_of)) (by decide +kernel)) (fun _ _ _ _ _ => pg_name (i := 2) sc_copy_of.nd rfl (Or.inl rfl)) (fun _ _ _ _ _ => pts_nil) (fun _ _ _ _ _ => (pv 2)) (fun _ _ _ _ _ => (pe_c Gcopy_of hr (Nat.le_refl _) (by rfl) (pa_cons (pe_dget hu (pv 0) (pv 2) (fun _ _ => rfl)) pa_nil))))))) pss_nil) (pss_cons (ps_if (pt_val (pe_callB call_isi (by rfl) T.z_isinstance (by decide +kernel) (pa_cons (pv 0) (pa_cons (pe_bltn (v := .ty "tuple") (by rfl) T.z_tuple (by decide +kernel) rfl) pa_nil)))) (pss_one (ps_ret (pe_tup (pa_cons (pe_ix ix_tup (pv 0) pe_int (fun _ _ => rfl)) (pa_cons (pe_ix ix_tup (pv 0) pe_int (fun _ _ => rfl)) (pa_cons (pe_ix ix_tup (pv 0) pe_int (fun _ _ => rfl)) (pa_cons (pe_c Gcopy_of hr (Nat.le_refl _) (by rfl) (pa_cons (pe_ix ix_tup (pv 0) pe_int (fun _ _ => rfl)) pa_nil)) pa_nil))))))) pss_nil) (pss_one (ps_ret (pv 0)))))), ?_⟩
    refine ⟨_, rfl, .str i, .ty "list", _, _, false, rfl, .ty _, .base (.str i), kit_ty (by decide +kernel), false, rfl, iteF ?_⟩
    refine ⟨_, rfl, .str i, .ty "dict", _, _, false, rfl, .ty _, .base (.str i), kit_ty (by decide +kernel), false, rfl, iteF ?_⟩
    refine ⟨_, rfl, .str i, .ty "tuple", _, _, false, rfl, .ty _, .base (.str i), kit_ty (by decide +kernel), false, rfl, iteF ?_⟩
    exact ⟨_, rfl, q⟩
theorem sc_copied : FnScope ["value"] ["value"] (defScope s_copied) := ⟨rfl, rfl, rfl, by decide +kernel, rfl, by decide +kernel, by decide +kernel⟩
theorem ok_copied (T : Txt K w mg C) : Cal P w K mg base 3 "copied" spCopyS := by
  have Gcopy_of := ok_copyS (P := P) (base := base) T
  refine cal_of T.d_copied sc_copied (fun vs H Q E h => ?_) (fun f cdv A outer s H vs Q E hr h => ?_)
  · obtain ⟨i, rfl, _⟩ := h
    rfl
  · obtain ⟨i, rfl, q⟩ := h
    refine ⟨_, (pss_one (ps_ret (pe_c Gcopy_of hr (by decide) (by rfl) (pa_cons (pv 0) pa_nil)))), ?_⟩
    exact ⟨_, rfl, i, rfl, q⟩
theorem sc_copied_names : FnScope ["environment", "name"] ["environment"] (defScope s_copied_names) := ⟨rfl, rfl, rfl, by decide +kernel, rfl, by decide +kernel, by decide +kernel⟩
theorem ok_names (T : Txt K w mg C) : Cal P w K mg base 4 "copied_names" spNames := by
  have Gcopied := ok_copied (P := P) (base := base) T
  refine cal_of T.d_copied_names sc_copied_names (fun vs H Q E h => ?_) (fun f cdv A outer s H vs Q E hr h => ?_)
  · obtain ⟨dd, kvs, rfl, _⟩ := h
    rfl
  · obtain ⟨dd, kvs, rfl, hdd, ⟨nd, hst, kl⟩, q⟩ := h
    have hu := hu_of hr
    refine ⟨_, (pss_one (ps_ret (pe_lock (pe_dc (own := [("name", 1)]) (g := gName 1) (tt := tYes) rfl sc_copied_names.nd (pi_keys (pv 0)) (blkOk_by (N := ["environment", "name"]) (sc := (defScope s_copied_names)) (by decide +kernel)) (fun _ _ _ _ _ => pg_name (i := 1) sc_copied_names.nd rfl (Or.inl rfl)) (fun _ _ _ _ _ => pts_nil) (fun _ _ _ _ _ => (pv 1)) (fun _ _ _ _ _ => (pe_c Gcopied hr (by decide) (by rfl) (pa_cons (pe_dget hu (pv 0) (pv 1) (fun _ _ => rfl)) pa_nil))))))), ?_⟩
    refine ⟨dd, _, hdd, trivial, fun od => ?_⟩
    have hlk : upd H dd (.frz od (.dK kvs)) dd = some (.frz od (.dK kvs)) := upd_same
    refine ⟨_, rfl, dd, od, rfl, .inl ⟨_, hlk, fun D hD => ?_⟩⟩
    have hDe : D ≠ dd := fun z => by rw [z, upd_same] at hD; cases hD
    have hDn : H D = none := by rw [upd_ne hDe] at hD; exact hD
    refine dc_itQ (walk_keys (d := dd) (o := od) (kvs := kvs)) (fun i H' => Same (upd H dd (.frz od (.dK kvs))) H' ∧ H' D = some (.dK (kvs.take i))) ⟨Sm.new hD, upd_same⟩ (fun i H' _ z => z.1 _ _ hlk) ?_ ?_
    · rintro i x H1 H2 hi ⟨s1, h1⟩ ⟨rfl, k, v, hkv, rfl⟩
      obtain ⟨y, hy⟩ := hst _ (List.mem_of_getElem? hkv)
      have hy : v = .str y := hy
      subst hy
      have tk2 : kvs.take (i + 1) = kvs.take i ++ [(k, .str y)] := by rw [List.take_add_one, hkv]; rfl
      have knew : valV (kvs.take i) k = none := valV_out (by
        have nd2 : ((kvs.take (i + 1)).map (·.1)).Nodup := nd.sublist ((List.take_sublist _ _).map _)
        rw [tk2, List.map_append] at nd2
        intro hk
        exact (List.nodup_append.mp nd2).2.2 k hk k List.mem_cons_self rfl)
      refine ⟨rfl, ?_⟩
      refine ⟨_, rfl, _, rfl, _, rfl, dd, .str y, rfl, (by rw [← valV_nd nd hkv]; exact dget_fz (k := k) (s1 _ _ hlk)), y, rfl, ?_⟩
      refine ⟨kvs.take i, k, rfl, h1, ?_, fun b o eb => ?_, ?_⟩
      · rw [List.length_take]
        exact Nat.lt_of_le_of_lt (show min i kvs.length ≤ 100 by omega) (by decide)
      · rw [upd_ne (ne_of_none eb hD)]
        exact s1 _ _ eb
      · rw [upd_same, putK_nw knew, tk2]
    · rintro H1 ⟨s1, h1⟩
      refine ⟨s1 _ _ hlk, ?_⟩
      rw [List.take_length] at h1
      refine q _ _ (fun b o eb => ?_) hDn ?_
      · by_cases e : b = dd
        · subst e
          rw [upd_same, ← hdd, eb]
        · rw [upd_ne e]
          exact s1 _ _ (by rw [upd_ne e]; exact eb)
      · rw [upd_ne hDe]
        exact h1
theorem sc_can_prevent : FnScope ["event"] ["event"] (defScope s_can_prevent) := ⟨rfl, rfl, rfl, by decide +kernel, rfl, by decide +kernel, by decide +kernel⟩
theorem ok_can (T : Txt K w mg C) : Cal P w K mg base 1 "can_prevent" spCan := by
  obtain ⟨ta, tev, hT, hW⟩ := T.g_EVENTS_TO_THE_END
  refine cal_of T.d_can_prevent sc_can_prevent (fun vs H Q E h => ?_) (fun f cdv A outer s H vs Q E hr h => ?_)
  · obtain ⟨ev, rfl, _⟩ := h
    rfl
  · obtain ⟨ev, rfl, q⟩ := h
    refine ⟨_, (pss_one (ps_ret (pe_cmpR op_notIn_seq (pv 0) (C8.pe_gc (by rfl) tev) rfl))), ?_⟩
    refine ⟨_, rfl, ta, _, rfl, .inr (hT H), rfl, flat_strs ["input", "change"], ?_⟩
    have e : inV (.str ev) t_EVENTS_TO_THE_END = decide (ev ∈ [("input" : Str), "change"]) := inV_s ev ["input", "change"]
    rw [e]
    exact q
theorem sc_Rehearsal_controls : FnScope ["self"] ["self"] (defScope s_Rehearsal_controls) := ⟨rfl, rfl, rfl, by decide +kernel, rfl, by decide +kernel, by decide +kernel⟩
theorem ok_panel (T : Txt K w mg C) : Pro P w K mg base 1 C.Rehearsal "controls" (spPanel C.Rehearsal) := by
  refine pro_of T.p_Rehearsal_controls T.cl_Rehearsal sc_Rehearsal_controls (fun vs H Q E h => ?_) (fun f cdv A outer s H vs Q E hr h => ?_)
  · obtain ⟨r, dr, vd, a, sl, pl, rfl, _⟩ := h
    rfl
  · obtain ⟨r, dr, vd, a, sl, pl, rfl, hr', q⟩ := h
    refine ⟨_, (pss_one (ps_ret (pe_fld (pv 0) rfl))), ?_⟩
    exact ⟨_, rfl, r, _, dr, _, _, rfl, hr', T.cl_Rehearsal, T.n_Rehearsal_panel, rfl, q⟩
theorem sc_Rehearsal_send_event : FnScope ["self", "number", "event", "details"] ["self", "number", "event", "details"] (defScope s_Rehearsal_send_event) := ⟨rfl, rfl, rfl, by decide +kernel, rfl, by decide +kernel, by decide +kernel⟩
theorem ok_sendE (T : Txt K w mg C) : Met P w K mg base 5 C.Rehearsal "send_event" (spSendE C) := by
  have Gcopied_names := ok_names (P := P) (base := base) T
  have Gcan_prevent := ok_can (P := P) (base := base) T
  refine met_of T.m_Rehearsal_send_event T.cl_Rehearsal sc_Rehearsal_send_event (fun vs H Q E h => ?_) (fun f cdv A outer s H vs Q E hr h => ?_)
  · obtain ⟨r, n, ev, dd, kvs, G, M, vd, ks, tb, es, prv, rfl, _⟩ := h
    rfl
  · obtain ⟨r, n, ev, dd, kvs, G, M, vd, ks, tb, es, prv, rfl, ⟨dr, a, sl, pl, us, hR, ct, evs, hpl, dok, nb⟩, hdd, sk, el, q⟩ := h
    refine ⟨_, (pss_cons (ps_expr (pe_bm PySem.F.plainAttrs_list PySem.F.slot_list_append PySem.F.type_list_append mt_append (pe_fld (pv 0) rfl) (pa_cons (pe_tup (pa_cons (pv 1) (pa_cons (pv 2) (pa_cons (pe_c Gcopied_names hr (by decide) (by rfl) (pa_cons (pv 3) pa_nil)) pa_nil)))) pa_nil))) (pss_one (ps_ret (pe_and (pe_cmpR op_in_seq (pv 2) (pe_fld (pv 0) rfl) rfl) (pe_one (pe_c Gcan_prevent hr (by decide) (by rfl) (pa_cons (pv 2) pa_nil))))))), ?_⟩
    have hsl := ct.mem (p := (sl, .lst us)) List.mem_cons_self
    have ul := Paired.length evs
    refine ⟨_, rfl, r, _, dr, _, _, rfl, ct.sm _ _ hR, T.cl_Rehearsal, T.n_Rehearsal_sent, rfl, .inl ⟨rfl, _, SqL.of hsl⟩, _, rfl, _, rfl, _, rfl, dd, kvs, rfl, hdd, sk, fun d H1 s1 hd0 hd => ?_⟩
    refine ⟨by show 3 ≤ sizeLine; decide, fun t ht => ?_⟩
    have s12 := Sm.new (o := .tup [.int n, .str ev, .ref d]) ht
    have ht2 : upd H1 t (.tup [.int n, .str ev, .ref d]) t = some (.tup [.int n, .str ev, .ref d]) := upd_same
    have hd2 := s12 _ _ hd
    refine ⟨sl, _, _, rfl, rfl, s12 _ _ (s1 _ _ hsl), by rw [ul]; exact Nat.lt_of_le_of_lt el (by decide), ?_⟩
    have s2 := Same.trans s1 s12
    have ht0 : H t = none := Same.free s1 ht
    generalize upd H1 t (.tup [.int n, .str ev, .ref d]) = H2 at s2 ht2 hd2 ⊢
    obtain ⟨G', ct', g', gn⟩ := ct.more s2
    have ct3 := ct'.put (u := .lst (us ++ [.ref t]))
    have hR3 := ct3.sm _ _ (g' _ _ hR)
    have hpl3 := ct3.sm _ _ (g' _ _ hpl)
    have rt : RtA C G' (upd H2 sl (.lst (us ++ [.ref t]))) M r vd ks tb (es ++ [(n, ev, kvs)]) prv := ⟨dr, a, sl, pl, _, g' _ _ hR, ct3, Paired.snoc (EvA.same evs g') ⟨t, d, rfl, gn _ _ (newer_mk ht0 ht2), gn _ _ (newer_mk hd0 hd2)⟩, g' _ _ hpl, dok.same g', nb⟩
    refine ⟨_, rfl, _, rfl, r, _, dr, _, _, rfl, hR3, T.cl_Rehearsal, T.n_Rehearsal_prevented, rfl, pl, _, rfl, .inl (SqL.of hpl3), rfl, flat_strs _, _, rfl, ?_⟩
    have q1 := q G' _ rt g' (fun b xs e => by
      have e2 := s2 _ _ e
      rw [upd_ne (fun z => by rw [z, s2 _ _ hsl] at e2; cases e2)]
      exact e2)
    rw [show inV (.str ev) (prv.map V.str) = decide (ev ∈ prv) from inV_s ev prv]
    by_cases hm : ev ∈ prv
    · rw [decide_eq_true hm] at q1 ⊢
      exact iteT ⟨_, rfl, ev, rfl, q1⟩
    · rw [decide_eq_false hm] at q1 ⊢
      exact iteF q1
theorem sc_Rehearsal___init__ : FnScope ["self", "document", "prevented"] ["self", "document", "prevented"] (defScope s_Rehearsal___init__) := ⟨rfl, rfl, rfl, by decide +kernel, rfl, by decide +kernel, by decide +kernel⟩
theorem ok_initR (T : Txt K w mg C) : MakK P w K mg base 16 "Rehearsal" C.Rehearsal (spInitR C) 1 ["prevented"] catG := by
  have KControls := ok_init (P := P) (base := base) T
  have Msettle := ok_settle (P := P) (base := base) T
  refine makK_of T.i_Rehearsal sc_Rehearsal___init__ (fun vs H Q E h => ?_) (fun f cdv A outer s H vs Q E hr h => ?_)
  · obtain ⟨r, dr, vd, p0, prv, ks, G, M, rfl, _⟩ := h
    rfl
  · obtain ⟨r, dr, vd, p0, prv, ks, G, M, rfl, S, hp0, dok, q⟩ := h
    refine ⟨_, (pss_cons (ps_fld (pv 0) (pv 1) rfl) (pss_cons (ps_fld (pv 0) (pe_mk0 KControls hr (by decide) (by rfl)) rfl) (pss_cons (ps_expr (pe_mt Msettle hr (by decide) (pe_fld (pv 0) rfl) (pa_cons (pv 1) pa_nil))) (pss_cons (ps_fld (pv 0) (pe_lst pa_nil) rfl) (pss_one (ps_fld (pv 0) (pe_callTy call_list_of (by rfl) T.z_list (by decide +kernel) (pa_cons (pv 2) pa_nil)) rfl)))))), ?_⟩
    refine ⟨_, rfl, _, rfl, r, _, dr, [], rfl, S.hd, T.cl_Rehearsal, T.n_Rehearsal_document, (by show 0 < 1000; decide), ?_⟩
    have S1 := S.put (u := .ins C.Rehearsal dr [("document", vd)])
    show tSeq _ _ _ _ (upd H r (.ins C.Rehearsal dr [("document", vd)]))
    generalize upd H r (.ins C.Rehearsal dr [("document", vd)]) = H1 at S1 ⊢
    intro a dx na ndx nax
    refine ⟨a, dx, rfl, upd_same, fun kd H5 hkd nak ha hk keep => ⟨rfl, ?_⟩⟩
    have s15 : Same H1 H5 := fun b u e => keep b u (by rw [upd_ne (ne_of_none e na), upd_ne (ne_of_none e ndx)]; exact e) (ne_of_none e na)
    have hkd1 : H1 kd = none := by
      cases e : H1 kd with
      | none => rfl
      | some o =>
        have : upd (upd H1 dx (.own a)) a (.ins C.Controls dx []) kd = some o := by rw [upd_ne (ne_of_none e na), upd_ne (ne_of_none e ndx)]; exact e
        rw [hkd] at this
        cases this
    have S5 := ((S1.keepS s15).take (t := kd) (o := .dK []) (S1.gnone hkd1) hk (fun p hp => ne_of_none (S1.m p hp).2 hkd1)).take (S1.gnone na) ha (fun p hp => by
      rcases List.mem_cons.mp hp with rfl | hp
      · exact nak.symm
      · exact ne_of_none (S1.m p hp).2 na)
    have S6 := (S5.perm (List.perm_middle (l₁ := [_, _]))).put (u := .ins C.Rehearsal dr [("document", vd), ("panel", .ref a)])
    refine ⟨_, rfl, r, _, dr, [("document", vd)], rfl, (S5.m (r, _) (by simp)).2, T.cl_Rehearsal, T.n_Rehearsal_panel, (by show 1 < 1000; decide), ?_⟩
    show tSeq _ _ _ _ (upd H5 r (.ins C.Rehearsal dr [("document", vd), ("panel", .ref a)]))
    generalize upd H5 r (.ins C.Rehearsal dr [("document", vd), ("panel", .ref a)]) = H6 at S6 ⊢
    have ct6 : CtA C.Controls G H6 ((r, .ins C.Rehearsal dr [("document", vd), ("panel", .ref a)]) :: M) a [] := ⟨dx, kd, [], S6.perm (List.perm_middle (l₁ := [_, _])).symm, .nil, List.nodup_nil, Nat.zero_le _⟩
    obtain ⟨dxa, kda, haa⟩ := ct6.at
    refine ⟨_, rfl, r, _, dr, _, _, rfl, S6.hd, T.cl_Rehearsal, T.n_Rehearsal_panel, rfl, a, dxa, _, rfl, haa, rfl, _, rfl, a, vd, ks, [], G, _, rfl, ct6, dok.d, dok.ok, dok.nd, dok.nl, (fun e he => nomatch he), fun G7 H7 ct7 g7 => ?_⟩
    refine ⟨by show 0 ≤ sizeLine; decide, fun sl hsl => ?_⟩
    have ct8 := ct7.take (Sm.new (o := .lst []) hsl) hsl upd_same
    refine ⟨_, rfl, r, _, dr, [("document", vd), ("panel", .ref a)], rfl, ct8.mem (p := (r, _)) (by simp), T.cl_Rehearsal, T.n_Rehearsal_sent, (by show 2 < 1000; decide), ?_⟩
    have ct9 := ct8.put2 (u := .ins C.Rehearsal dr [("document", vd), ("panel", .ref a), ("sent", .ref sl)])
    refine ⟨_, rfl, p0, _, rfl, .inl (SqL.of (ct9.sm _ _ (g7 _ _ hp0))), fun pl hpl => ?_⟩
    obtain ⟨ct10, g10⟩ := ct9.alloc (o := .lst (prv.map V.str)) hpl
    have hplG : upd G7 pl (.lst (prv.map V.str)) pl = some (.lst (prv.map V.str)) := upd_same
    refine ⟨_, rfl, r, _, dr, [("document", vd), ("panel", .ref a), ("sent", .ref sl)], rfl, ct10.mem (p := (r, _)) (by simp), T.cl_Rehearsal, T.n_Rehearsal_prevented, (by show 3 < 1000; decide), ?_⟩
    have ct11 := (ct10.put2 (u := .ins C.Rehearsal dr (fsR vd a sl pl))).perm (.swap _ _ _)
    obtain ⟨ct12, g12⟩ := ct11.drop
    have gg := Same.trans g7 (Same.trans g10 g12)
    exact q _ _ ⟨dr, a, sl, pl, [], upd_same, ct12, .nil, g12 _ _ hplG, dok.same gg, setlT_nbs (fun e he => nomatch he)⟩ gg
end
end VL

set_option Elab.async false
set_option linter.all false
set_option pp.maxSteps 700
set_option maxRecDepth 100000
set_option maxHeartbeats 4000000
namespace VL
open PySem PySem.Spec PyProof.Rows L2
theorem findD_fl {ks : List Dn} {n : Int} {p : Int × Dn} (h : findD ks n = some p) : p.2 ∈ flS ks ∧ p.2.num = n := by
  refine ⟨?_, of_decide_eq_true (List.find?_some (p := fun p : Int × Dn => decide (p.2.num = n)) h)⟩
  rw [← itS_fl 1 ks]
  exact List.mem_map.mpr ⟨p, List.mem_of_find?_eq_some h, rfl⟩
theorem fl_an {ks : List Dn} {d : Dn} (h : d ∈ flS ks) : ∃ B, (d, B) ∈ anS [] ks := by
  rw [← anS_fl [] ks] at h
  obtain ⟨p, hp, rfl⟩ := List.mem_map.mp h
  exact ⟨p.2, hp⟩
theorem fl_ok {ks : List Dn} (hA : AllS NamesOk ks) {d : Dn} (h : d ∈ flS ks) : NamesOk d := by
  obtain ⟨B, hB⟩ := fl_an h
  exact (anS_all [] (fun _ z => nomatch z) ks hA _ hB).1
theorem kids_fl {ks : List Dn} {d : Dn} (h : d ∈ flS ks) (hE : d.isE = true) : (∀ e ∈ flS d.kids, e ∈ flS ks) ∧ (numS d.kids).length ≤ (numS ks).length := by
  obtain ⟨B, hB⟩ := fl_an h
  cases d with
  | tx m y => exact nomatch hE
  | el m tg as kk =>
    refine ⟨fun e he => ?_, ?_⟩
    · obtain ⟨B', hB'⟩ := flS_in hB he
      rw [← anS_fl [] ks]
      exact List.mem_map.mpr ⟨_, hB', rfl⟩
    · have := numS_sub 0 ks _ h
      simp only [numN, List.length_cons] at this
      show (numS kk).length ≤ _
      omega
def kindAt (ks : List Dn) (n : Int) : Option Str := if disD ks n = true then none else match findD ks n with
  | some p => kindD p.2
  | none => none
def sendE (ks : List Dn) (n : Int) (ev : Str) (kvs : List (Key × V)) : List Ev := if disD ks n = true then [] else [(n, ev, kvs)]
def setE (ks : List Dn) (n : Int) (k : Str) : List Ev := sendE ks n "input" [] ++ if k = "select" then sendE ks n "change" [] else []
def setX (ks : List Dn) (tb : Tb) (n : Int) (x : Str) : Tb := setlT ks (if shV tb n = .str x then tb else setT tb n (.str x))
def setY (ks : List Dn) (tb : Tb) (n : Int) (k x : Str) : List Ev := if shV tb n = .str x then [] else setE ks n k
theorem sendE_len {ks : List Dn} {n : Int} {ev : Str} {kvs : List (Key × V)} : (sendE ks n ev kvs).length ≤ 1 := by
  unfold sendE
  split
  · exact Nat.zero_le _
  · exact Nat.le_refl _
def spKindAt (C : Ad) : Sp := fun vs H Q _ => ∃ (r : Addr) (n : Int) (G : Hp) (M : List (Addr × HO)) (vd : V) (ks : List Dn) (tb : Tb) (es : List Ev) (pv : List Str), vs = [.ref r, .int n] ∧ RtA C G H M r vd ks tb es pv ∧ ∀ H', Same H H' → Q (kV' (kindAt ks n)) H'
def spSend (C : Ad) : Sp := fun vs H Q _ => ∃ (r : Addr) (n : Int) (ev : Str) (dd : Addr) (kvs : List (Key × V)) (G : Hp) (M : List (Addr × HO)) (vd : V) (ks : List Dn) (tb : Tb) (es : List Ev) (pv : List Str), vs = [.ref r, .int n, .str ev, .ref dd] ∧ RtA C G H M r vd ks tb es pv ∧ H dd = some (.dK kvs) ∧ StrK kvs ∧ es.length ≤ 100000 ∧
  ∀ G' H', RtA C G' H' M r vd ks tb (es ++ sendE ks n ev kvs) pv → Same G G' → KpT H H' → Q (.bl (!disD ks n && (decide (ev ∈ pv) && canP ev))) H'
def spSettleR (C : Ad) : Sp := fun vs H Q _ => ∃ (r : Addr) (G : Hp) (M : List (Addr × HO)) (vd : V) (ks : List Dn) (tb : Tb) (es : List Ev) (pv : List Str), vs = [.ref r] ∧ RtA C G H M r vd ks tb es pv ∧
  ∀ G' H', RtA C G' H' M r vd ks (setlT ks tb) es pv → Same G G' → Q .non H'
def spSetTo (C : Ad) : Sp := fun vs H Q _ => ∃ (r : Addr) (n : Int) (k x : Str) (G : Hp) (M : List (Addr × HO)) (vd : V) (ks : List Dn) (tb : Tb) (es : List Ev) (pv : List Str), vs = [.ref r, .int n, .str k, .str x] ∧ RtA C G H M r vd ks tb es pv ∧ es.length ≤ 90000 ∧
  ∀ G' H', RtA C G' H' M r vd ks (setX ks tb n x) (es ++ setY ks tb n k x) pv → Same G G' → Q .non H'
section
variable {P : Program} {w : World} {K : PySem.W.Frag} {mg : Str → Option Value} {base : Heap} {C : Ad}
theorem sc_send : FnScope ["root", "number", "event", "details"] ["root", "number", "event", "details"] (defScope s_send) := ⟨rfl, rfl, rfl, by decide +kernel, rfl, by decide +kernel, by decide +kernel⟩
theorem ok_send (T : Txt K w mg C) : Cal P w K mg base 10 "send" (spSend C) := by
  have Gis_disabled := ok_dis (P := P) (base := base) T
  have Msend_event := ok_sendE (P := P) (base := base) T
  refine cal_of T.d_send sc_send (fun vs H Q E h => ?_) (fun f cdv A outer s H vs Q E hr h => ?_)
  · obtain ⟨r, n, ev, dd, kvs, G, M, vd, ks, tb, es, prv, rfl, _⟩ := h
    rfl
  · obtain ⟨r, n, ev, dd, kvs, G, M, vd, ks, tb, es, prv, rfl, rt, hdd, sk, el, q⟩ := h
    have rt0 := rt
    obtain ⟨dr, a, sl, pl, us, hR, ct, evs, hpl, dok, nb⟩ := rt0
    have hD := dok.d.same ct.sm
    refine ⟨_, (pss_cons (ps_if (pt_val (pe_c Gis_disabled hr (by decide) (by rfl) (pa_cons (pe_fld (pv 0) rfl) (pa_cons (pv 1) pa_nil)))) (pss_one (ps_ret pe_bl)) pss_nil) (pss_one (ps_ret (pe_mt Msend_event hr (by decide) (pv 0) (pa_cons (pv 1) (pa_cons (pv 2) (pa_cons (pe_callTy call_dictD (by rfl) T.z_dict (by decide +kernel) (pa_cons (pv 3) pa_nil)) pa_nil))))))), ?_⟩
    refine ⟨_, rfl, r, _, dr, _, _, rfl, ct.sm _ _ hR, T.cl_Rehearsal, T.n_Rehearsal_document, rfl, _, rfl, vd, ks, n, rfl, hD, dok.ok, fun H1 s1 => ⟨_, rfl, ?_⟩⟩
    unfold sendE at q
    have rt1 := rt.keep s1
    cases hd : disD ks n with
    | true =>
      rw [hd, if_pos rfl, List.append_nil] at q
      exact iteT (q G H1 rt1 (Same.refl _) fun b xs e => s1 _ _ e)
    | false =>
      rw [hd, if_neg (by decide)] at q
      refine iteF ?_
      refine ⟨_, rfl, r, dr, _, rfl, s1 _ _ (ct.sm _ _ hR), rfl, _, rfl, _, rfl, _, rfl, dd, kvs, rfl, Rd.of (s1 _ _ hdd), fun d2 hd2 => ?_⟩
      exact ⟨r, n, ev, d2, kvs, G, M, vd, ks, tb, es, prv, rfl, rt1.keep (Sm.new hd2), upd_same, sk, el, fun G' H' rt' g' kt => q G' H' rt' g' fun b xs e => kt b xs (Sm.new hd2 _ _ (s1 _ _ e))⟩
theorem sc_settle : FnScope ["root"] ["root"] (defScope s_settle) := ⟨rfl, rfl, rfl, by decide +kernel, rfl, by decide +kernel, by decide +kernel⟩
theorem ok_settleR (T : Txt K w mg C) : Cal P w K mg base 16 "settle" (spSettleR C) := by
  have Pcontrols := ok_panel (P := P) (base := base) T
  have Msettle := ok_settle (P := P) (base := base) T
  refine cal_of T.d_settle sc_settle (fun vs H Q E h => ?_) (fun f cdv A outer s H vs Q E hr h => ?_)
  · obtain ⟨r, G, M, vd, ks, tb, es, prv, rfl, _⟩ := h
    rfl
  · obtain ⟨r, G, M, vd, ks, tb, es, prv, rfl, ⟨dr, a, sl, pl, us, hR, ct, evs, hpl, dok, nb⟩, q⟩ := h
    have hR1 := ct.sm _ _ hR
    obtain ⟨dx, kd, haa⟩ := ct.at
    refine ⟨_, (pss_one (ps_expr (pe_mt Msettle hr (by decide) (pe_pr Pcontrols hr (by decide) (pv 0)) (pa_cons (pe_fld (pv 0) rfl) pa_nil)))), ?_⟩
    refine ⟨_, rfl, r, dr, _, rfl, hR1, r, dr, vd, a, sl, pl, rfl, hR1, a, dx, _, rfl, haa, rfl, _, rfl, r, _, dr, _, _, rfl, hR1, T.cl_Rehearsal, T.n_Rehearsal_document, rfl, a, vd, ks, tb, G, _, rfl, ct, dok.d, dok.ok, dok.nd, dok.nl, (fun e he => nbs_flat (nb e he)), fun G' H' ct' g' => ?_⟩
    exact q G' H' ⟨dr, a, sl, pl, us, g' _ _ hR, ct', EvA.same evs g', g' _ _ hpl, dok.same g', setlT_nbs nb⟩ g'
theorem sc_set_to : FnScope ["root", "number", "kind", "text"] ["root", "number", "kind", "text"] (defScope s_set_to) := ⟨rfl, rfl, rfl, by decide +kernel, rfl, by decide +kernel, by decide +kernel⟩
theorem ok_setTo (T : Txt K w mg C) : Cal P w K mg base 18 "set_to" (spSetTo C) := by
  have Pcontrols := ok_panel (P := P) (base := base) T
  have Mshown := ok_shown (P := P) (base := base) T
  have Mshow := ok_show (P := P) (base := base) T
  have Gsend := ok_send (P := P) (base := base) T
  have Gsettle := ok_settleR (P := P) (base := base) T
  refine cal_of T.d_set_to sc_set_to (fun vs H Q E h => ?_) (fun f cdv A outer s H vs Q E hr h => ?_)
  · obtain ⟨r, n, k, x, G, M, vd, ks, tb, es, prv, rfl, _⟩ := h
    rfl
  · obtain ⟨r, n, k, x, G, M, vd, ks, tb, es, prv, rfl, rt, el, q⟩ := h
    have rt0 := rt
    obtain ⟨dr, a, sl, pl, us, hR, ct, evs, hpl, dok, nb⟩ := rt0
    have hR1 := ct.sm _ _ hR
    obtain ⟨dx, kd, haa⟩ := ct.at
    refine ⟨_, (C8.pss_cut (ps_if (pt_cmpR op_ne (pe_mt Mshown hr (by decide) (pe_pr Pcontrols hr (by decide) (pv 0)) (pa_cons (pv 1) pa_nil)) (pv 3) (nomark _)) (pss_cons (ps_expr (pe_mt Mshow hr (by decide) (pe_pr Pcontrols hr (by decide) (pv 0)) (pa_cons (pv 1) (pa_cons (pv 3) pa_nil)))) (pss_cons (ps_expr (pe_c Gsend hr (by decide) (by rfl) (pa_cons (pv 0) (pa_cons (pv 1) (pa_cons pe_str (pa_cons pe_dnewK pa_nil)))))) (pss_one (ps_if (pt_cmpR op_eq (pv 2) pe_str (nomark _)) (pss_one (ps_expr (pe_c Gsend hr (by decide) (by rfl) (pa_cons (pv 0) (pa_cons (pv 1) (pa_cons pe_str (pa_cons pe_dnewK pa_nil))))))) pss_nil)))) pss_nil) (pss_one (ps_expr (pe_c Gsettle hr (by decide) (by rfl) (pa_cons (pv 0) pa_nil))))), ?_⟩
    refine ⟨fun σ' H' => ∃ G', RtA C G' H' M r vd ks (if shV tb n = .str x then tb else setT tb n (.str x)) (es ++ setY ks tb n k x) prv ∧ Same G G' ∧ σ' = [some (.ref r), some (.int n), some (.str k), some (.str x)], ?_, ?_⟩
    · refine ⟨_, rfl, r, dr, _, rfl, hR1, r, dr, vd, a, sl, pl, rfl, hR1, a, dx, _, rfl, haa, rfl, _, rfl, a, n, tb, G, _, rfl, ct, ?_⟩
      refine ⟨_, rfl, nbs_scal (shV_nbs nb) (.inr (.inr ⟨x, rfl⟩)), _, rfl, ?_⟩
      unfold setY
      by_cases c : shV tb n = .str x
      · rw [if_pos c, if_pos c, decide_eq_true c, List.append_nil]
        exact iteF ⟨G, rt, Same.refl _, rfl⟩
      · rw [if_neg c, if_neg c, decide_eq_false c]
        refine iteT ?_
        refine ⟨_, rfl, r, dr, _, rfl, hR1, r, dr, vd, a, sl, pl, rfl, hR1, a, dx, _, rfl, haa, rfl, _, rfl, _, rfl, a, n, .str x, tb, G, _, rfl, ct, fun G1 H1 ct1 g1 => ?_⟩
        have rt1 : RtA C G1 H1 M r vd ks (setT tb n (.str x)) es prv := ⟨dr, a, sl, pl, us, g1 _ _ hR, ct1, EvA.same evs g1, g1 _ _ hpl, dok.same g1, setT_nbs nb (.inr (.inr ⟨x, rfl⟩))⟩
        have sk0 : StrK [] := ⟨List.nodup_nil, (fun _ h => nomatch h), Nat.zero_le _⟩
        refine ⟨_, rfl, _, rfl, fun d1 hd1 => ?_⟩
        refine ⟨r, n, "input", d1, [], G1, M, vd, ks, _, es, prv, rfl, rt1.keep (Sm.new hd1), upd_same, sk0, by omega, fun G2 H2 rt2 g2 _ => ?_⟩
        have l2 := sendE_len (ks := ks) (n := n) (ev := "input") (kvs := [])
        unfold setE
        refine ⟨_, rfl, rfl, _, rfl, ite2 (fun c2 => ?_) (fun c2 => ?_)⟩
        · have ck : k = "select" := V.str.inj (of_decide_eq_true c2)
          rw [if_pos ck]
          refine ⟨_, rfl, _, rfl, fun d3 hd3 => ?_⟩
          refine ⟨r, n, "change", d3, [], G2, M, vd, ks, _, _, prv, rfl, rt2.keep (Sm.new hd3), upd_same, sk0, by rw [List.length_append]; omega, fun G4 H4 rt4 g4 _ => ?_⟩
          rw [List.append_assoc] at rt4
          exact ⟨G4, rt4, Same.trans g1 (Same.trans g2 g4), rfl⟩
        · rw [if_neg (fun z => c2 (decide_eq_true (by rw [z]))), List.append_nil]
          exact ⟨G2, rt2, Same.trans g1 g2, rfl⟩
    · rintro σ' H' ⟨G', rt', g', rfl⟩
      exact ⟨_, rfl, r, G', M, vd, ks, _, _, prv, rfl, rt', fun G2 H2 rt2 g2 => q G2 H2 rt2 (Same.trans g' g2)⟩
end
end VL

set_option Elab.async false
set_option linter.all false
set_option pp.maxSteps 700
set_option maxRecDepth 100000
set_option maxHeartbeats 4000000
namespace VL
open PySem PySem.Spec PyProof.Rows L2
def offF (e : Dn) : Bool := !decide (attrD e.as "disabled" = .non)
def shutD (l : List Dn) : Bool := l.any offF
theorem shut_at {ks : List Dn} (nd : (numS ks).Nodup) {p : Dn × List Dn} (hp : p ∈ anS [] ks) : disD ks p.1.num = shutD (p.2 ++ [p.1]) := by
  obtain ⟨l, e⟩ := findD_at nd hp
  unfold disD shutD
  rw [e, pathD_at nd hp, List.any_reverse]
  unfold holdD
  rw [List.any_append, List.any_append]
  cases h : p.1.isE with
  | true => rfl
  | false =>
    have : offF p.1 = false := by
      cases hp1 : p.1 with
      | tx m y => rfl
      | el m tg as kk => rw [hp1] at h; exact nomatch h
    rw [if_neg (by decide)]
    show (false || (p.2.any offF || false)) = (p.2.any offF || (offF p.1 || false))
    rw [this]
    cases p.2.any offF <;> rfl
theorem dis_no {ks : List Dn} {n : Int} (h : n ∉ numS ks) : disD ks n = true := by
  unfold disD
  have : findD ks n = none := by
    unfold findD
    rw [List.find?_eq_none]
    intro p hp c
    refine h ?_
    rw [← itS_num 1 ks]
    exact List.mem_map.mpr ⟨p, hp, of_decide_eq_true c⟩
  rw [this]
  rfl
def freeV (d : Dn) : List Str := ((anS [d] d.kids).filter fun p => isOpt p.1 && !shutD (p.2 ++ [p.1])).map fun p => optV p.1
theorem filter_map' {α β : Type} (f : α → β) (g : β → Bool) : ∀ l : List α, (l.map f).filter g = (l.filter fun x => g (f x)).map f
  | [] => rfl
  | a :: l => by
    rw [List.map_cons, List.filter_cons, List.filter_cons, filter_map' f g l]
    cases g (f a) <;> rfl
theorem open_free {ks : List Dn} (nd : (numS ks).Nodup) {d : Dn} {B : List Dn} (hB : (d, B) ∈ anS [] ks) (hE : d.isE = true) (hs : shutD (B ++ [d]) = false) : openL ks d.kids = freeV d := by
  cases d with
  | tx m y => exact nomatch hE
  | el m tg as kk =>
    have hs1 : B.any offF = false := by
      unfold shutD at hs
      rw [List.any_append, Bool.or_eq_false_iff] at hs
      exact hs.1
    unfold openL freeV
    show (((flS kk).filter isOpt).filter fun e => !disD ks e.num).map optV = ((anS [Dn.el m tg as kk] kk).filter _).map _
    rw [← anS_fl [Dn.el m tg as kk] kk, filter_map', filter_map', List.map_map, List.filter_filter]
    refine congrArg (List.map _) (List.filter_congr fun p hp => ?_)
    have h := shut_at nd (kid_in hB hp)
    have h : disD ks p.1.num = shutD (B ++ p.2 ++ [p.1]) := h
    rw [h]
    have e : shutD (B ++ p.2 ++ [p.1]) = shutD (p.2 ++ [p.1]) := by
      unfold shutD
      rw [List.append_assoc, List.any_append, hs1, Bool.false_or]
    rw [e, Bool.and_comm]
def spShut : Sp := fun vs H Q _ => ∃ (vn : V) (ar : Addr) (us : List V) (d : Dn) (AR : List Dn), vs = [vn, .ref ar] ∧ NdA H vn d ∧ H ar = some (.lst us) ∧ NdAs H us AR ∧ AR.length ≤ 1000 ∧ ∀ H', Same H H' → Q (.bl (shutD (AR ++ [d]))) H'
def spLBound : Sp := fun vs H Q _ => ∃ (vn : V) (d : Dn) (k : Str), vs = [vn] ∧ NdA H vn d ∧ kindD d = some k ∧ ∀ H', Same H H' → Q (boundD d k) H'
def TldA (tb : Tb) (H : Hp) (ts : List V) (ps : List (Dn × List Dn)) : Prop := Paired (fun (v : V) (p : Dn × List Dn) => ∃ t, v = .ref t ∧ H t = some (.tup [.int p.1.num, shV tb p.1.num])) ts ps
def spTold (C : Ad) : Sp := fun vs H Q _ => ∃ (r kl : Addr) (rs : List V) (AN : List (Dn × List Dn)) (G : Hp) (M : List (Addr × HO)) (vd : V) (ks : List Dn) (tb : Tb) (es : List Ev) (pv : List Str), vs = [.ref r, .ref kl] ∧ RtA C G H M r vd ks tb es pv ∧ H kl = some (.lst rs) ∧ KnAs H rs AN ∧ AN.length ≤ 1000 ∧
  ∀ p ts H', Same H H' → H p = none → H' p = some (.lst ts) → TldA tb (newer H H') ts AN → Q (.ref p) H'
section
variable {P : Program} {w : World} {K : PySem.W.Frag} {mg : Str → Option Value} {base : Heap} {C : Ad}
theorem sc__law_shut : FnScope ["node", "around", "one"] ["node", "around"] (defScope s__law_shut) := ⟨rfl, rfl, rfl, by decide +kernel, rfl, by decide +kernel, by decide +kernel⟩
theorem ok_shut (T : Txt K w mg C) : Cal P w K mg base 2 "_law_shut" spShut := by
  have G_law_attribute := ok_lattr (P := P) (base := base) T
  refine cal_of T.d__law_shut sc__law_shut (fun vs H Q E h => ?_) (fun f cdv A outer s H vs Q E hr h => ?_)
  · obtain ⟨vn, ar, us, d, AR, rfl, _⟩ := h
    rfl
  · obtain ⟨vn, ar, us, d, AR, rfl, hd, har, hus, hAL, q⟩ := h
    have big : 100000 < sizeLine := by decide
    have ul := hus.len
    refine ⟨_, (pss_cons (ps_for PassesOwn.never rfl (pi_list (pe_op op_cat (pv 1) (pe_lst (pa_cons (pv 0) pa_nil)))) (pg_name (i := 2) sc__law_shut.nd rfl (Or.inl rfl)) (pss_one (ps_if (PW.pt (pw_and (pt_cmpR op_eq (pe_ix ix_tup (pv 2) pe_int (fun _ _ => rfl)) pe_str (nomark _)) (pw_and1 (pt_cmp (pc_notN (pe_c G_law_attribute hr (by decide) (by rfl) (pa_cons (pv 2) (pa_cons pe_str pa_nil)))))))) (pss_one (ps_ret pe_bl)) pss_nil))) (pss_one (ps_ret pe_bl))), ?_⟩
    refine ⟨_, rfl, _, rfl, by show 1 ≤ sizeLine; decide, fun e0 he0 => ?_⟩
    have se : Same H (upd H e0 (.lst [vn])) := Sm.new he0
    refine ⟨ar, e0, us, [vn], rfl, rfl, se _ _ har, upd_same, by show us.length + 1 ≤ _; omega, fun c0 hc0 => ?_⟩
    have sc : Same H (upd (upd H e0 (.lst [vn])) c0 (.lst (us ++ [vn]))) := Same.trans se (Sm.new hc0)
    have hcc : upd (upd H e0 (.lst [vn])) c0 (.lst (us ++ [vn])) c0 = some (.lst (us ++ [vn])) := upd_same
    generalize upd (upd H e0 (.lst [vn])) c0 (.lst (us ++ [vn])) = H2 at sc hcc ⊢
    have nu := hus.app (.cons hd .nil)
    have n2 := nu.len
    refine ⟨c0, rfl, ⟨_, SqL.of hcc⟩, ?_⟩
    refine for_it (walk_list (K := K) (a := c0) (xs := us ++ [vn])) (fun i σ H' => Same H2 H' ∧ shutD ((AR ++ [d]).take i) = false ∧ ∃ y2 : Option V, σ = [some vn, some (.ref ar), y2]) ⟨Same.refl _, rfl, _, rfl⟩ (fun i σ H' _ z => SqL.of (z.1 _ _ hcc)) ?_ ?_
    · rintro i x σ H3 H4 hi ⟨s3, h3, y2, rfl⟩ ⟨rfl, hx⟩
      obtain ⟨e, hee, hxe⟩ := nu.get hx
      have tk : shutD ((AR ++ [d]).take (i + 1)) = offF e := by
        unfold shutD at h3 ⊢
        rw [List.take_add_one, hee, List.any_append, h3]
        show (false || (offF e || false)) = offF e
        cases offF e <;> rfl
      have hxe := hxe.same (Same.trans sc s3)
      have hxe0 := hxe
      cases hxe with
      | @tx b m y h2 =>
        refine ⟨_, rfl, _, _, _, _, rfl, rfl, SqT.of h2, at_0, rfl, _, rfl, ite2 (fun c => absurd c (by decide)) (fun _ => iteF ⟨s3, ?_, _, rfl⟩)⟩
        rw [tk]
        rfl
      | @el b pk m tg va as vs kk h1 hA' hk hs =>
        refine ⟨_, rfl, _, _, _, _, rfl, rfl, SqT.of h1, at_0, rfl, _, rfl, ite2 (fun _ => ?_) (fun c => absurd (by decide) c)⟩
        refine ⟨_, rfl, .ref b, _, "disabled", rfl, hxe0, rfl, _, rfl, ?_⟩
        cases ho : offF (.el m tg as kk) with
        | true =>
          have e2 : shutD (AR ++ [d]) = true := List.any_eq_true.mpr ⟨_, List.mem_of_getElem? hee, ho⟩
          have := q H4 (Same.trans sc s3)
          rw [e2] at this
          rw [show (!decide (attrD (Dn.el m tg as kk).as "disabled" = V.non)) = true from ho]
          exact iteT this
        | false =>
          rw [show (!decide (attrD (Dn.el m tg as kk).as "disabled" = V.non)) = false from ho]
          exact iteF ⟨s3, by rw [tk, ho], _, rfl⟩
    · rintro σ H3 ⟨s3, h3, y2, rfl⟩
      rw [List.take_of_length_le (by omega)] at h3
      have := q H3 (Same.trans sc s3)
      rw [h3] at this
      exact this
theorem sc__law_bound : FnScope ["node"] ["node"] (defScope s__law_bound) := ⟨rfl, rfl, rfl, by decide +kernel, rfl, by decide +kernel, by decide +kernel⟩
theorem ok_lbound (T : Txt K w mg C) : Cal P w K mg base 4 "_law_bound" spLBound := by
  have G_law_attribute := ok_lattr (P := P) (base := base) T
  have G_law_kind := ok_lkind (P := P) (base := base) T
  refine cal_of T.d__law_bound sc__law_bound (fun vs H Q E h => ?_) (fun f cdv A outer s H vs Q E hr h => ?_)
  · obtain ⟨vn, d, k, rfl, _⟩ := h
    rfl
  · obtain ⟨vn, d, k, rfl, hd, hk, q⟩ := h
    refine ⟨_, (pss_one (ps_ret (pe_c G_law_attribute hr (by decide) (by rfl) (pa_cons (pv 0) (pa_cons (pe_ifExp (pt_cmpR op_eq (pe_c G_law_kind hr (by decide) (by rfl) (pa_cons (pv 0) pa_nil)) pe_str (nomark _)) pe_str pe_str) pa_nil))))), ?_⟩
    refine ⟨_, rfl, _, rfl, vn, d, rfl, hd, fun H1 s1 => ?_⟩
    rw [hk]
    have hE := kind_isE hk
    refine ⟨rfl, _, rfl, ite2 (fun c => ?_) (fun c => ?_)⟩
    · have ck : k = "box" := V.str.inj (of_decide_eq_true c)
      refine ⟨vn, d, "checked", rfl, hd.same s1, hE, ?_⟩
      have := q H1 s1
      unfold boundD at this
      rw [if_pos ck] at this
      exact this
    · have ck : ¬ k = "box" := fun z => c (decide_eq_true (by rw [z]; rfl))
      refine ⟨vn, d, "value", rfl, hd.same s1, hE, ?_⟩
      have := q H1 s1
      unfold boundD at this
      rw [if_neg ck] at this
      exact this
end
end VL

set_option Elab.async false
set_option linter.all false
set_option pp.maxSteps 700
set_option maxRecDepth 100000
set_option maxHeartbeats 4000000
namespace VL
open PySem PySem.Spec PyProof.Rows L2
abbrev bS : Str := "box"
abbrev sS : Str := "select"
/-- what choosing a value that is free gives -/
theorem choose_ok {ks : List Dn} (nd : (numS ks).Nodup) {tb : Tb} (h : Stl ks tb) {d : Dn} {AR : List Dn} (hp : (d, AR) ∈ anS [] ks) {x : Str} (hk : kindD d = some ("select" : Str)) (hx : x ∈ openL ks d.kids) :
    Stl ks (setX ks tb d.num x) ∧ (shV (setX ks tb d.num x) d.num = if boundD d "select" = .non then .str x else boundD d "select") ∧ (∀ n', n' ≠ d.num → shV (setX ks tb d.num x) n' = shV tb n') ∧ (shV tb d.num = .str x → setX ks tb d.num x = tb) := by
  have hd : d ∈ flS ks := by
    rw [← anS_fl [] ks]
    exact List.mem_map.mpr ⟨_, hp, rfl⟩
  have hb : boundD d "select" ≠ .non → shownV (boundD d "select") "select" = boundD d "select" := fun hne => by
    rcases attrD_cases d.as (if ("select" : Str) = "box" then "checked" else "value") with e | ⟨y, e⟩
    · exact absurd e hne
    · have e : boundD d "select" = .str y := e
      rw [e]
      rfl
  rcases h.gt nd hd with ⟨z, _⟩ | ⟨k', v, z1, z2, z3⟩
  · rw [hk] at z
    cases z
  · rw [hk] at z1
    cases z1
    have sv := shV_of z2
    by_cases c : shV tb d.num = .str x
    · have e : setX ks tb d.num x = tb := by
        unfold setX
        rw [if_pos c]
        exact h
      rw [e]
      refine ⟨h, ?_, fun _ _ => rfl, fun _ => rfl⟩
      by_cases cb : boundD d "select" = .non
      · rw [if_pos cb]
        exact c
      · rw [if_neg cb, sv, ← z3]
        unfold fixV
        rw [if_neg (fun z => cb z.2), setV_some, if_neg cb]
        exact hb cb
    · have e : setX ks tb d.num x = setT tb d.num (fixV ks d "select" (some ("select", .str x))) := by
        unfold setX
        rw [if_neg c]
        exact h.set nd hd hk _
      rw [e]
      refine ⟨h.after nd hd hk _, ?_, fun n' hn => shV_set_ne hn, fun z => absurd z c⟩
      rw [shV_set z2]
      unfold fixV
      by_cases cb : boundD d "select" = .non
      · rw [if_pos ⟨rfl, cb⟩, setV_some, if_pos cb, if_pos cb]
        unfold selV
        rw [if_pos]
        rw [inV_s]
        exact decide_eq_true hx
      · rw [if_neg (fun z => cb z.2), if_neg cb, setV_some, if_neg cb]
        exact hb cb

mutual
theorem an_anc (ar : List Dn) : ∀ d : Dn, ∀ p ∈ an ar d, ∀ (j : Nat) (e : Dn), ar.length ≤ j → p.2[j]? = some e → (e, p.2.take j) ∈ an ar d
  | .tx n x, p, hp, j, e, hj, he => by
    simp only [an, List.mem_singleton] at hp
    subst hp
    rw [List.getElem?_eq_none hj] at he
    cases he
  | .el n t as ks, p, hp, j, e, hj, he => by
    have hp' := hp
    simp only [an, List.mem_cons] at hp'
    rcases hp' with rfl | hp'
    · rw [List.getElem?_eq_none hj] at he
      cases he
    · simp only [an, List.mem_cons]
      obtain ⟨R, hR⟩ := anS_pre (ar ++ [.el n t as ks]) ks p hp'
      by_cases c : j = ar.length
      · left
        have e1 : p.2[ar.length]? = some (Dn.el n t as ks) := by rw [← hR]; simp
        have e2 : p.2.take ar.length = ar := by rw [← hR]; simp
        rw [c] at he ⊢
        rw [e1] at he
        rw [e2, ← Option.some.inj he]
      · right
        exact anS_anc (ar ++ [.el n t as ks]) ks p hp' j e (by rw [List.length_append]; show ar.length + 1 ≤ j; omega) he
theorem anS_anc (ar : List Dn) : ∀ ks : List Dn, ∀ p ∈ anS ar ks, ∀ (j : Nat) (e : Dn), ar.length ≤ j → p.2[j]? = some e → (e, p.2.take j) ∈ anS ar ks
  | [], p, hp, _, _, _, _ => by simp [anS] at hp
  | d :: r, p, hp, j, e, hj, he => by
    simp only [anS, List.mem_append] at hp ⊢
    rcases hp with hp | hp
    · exact .inl (an_anc ar d p hp j e hj he)
    · exact .inr (anS_anc ar r p hp j e hj he)
end
mutual
theorem an_desc (ar : List Dn) : ∀ d : Dn, ∀ p ∈ an ar d, ∀ s ∈ p.2, s ∈ ar ∨ p.1 ∈ flS s.kids
  | .tx n x, p, hp, s, hs => by
    simp only [an, List.mem_singleton] at hp
    subst hp
    exact .inl hs
  | .el n t as ks, p, hp, s, hs => by
    simp only [an, List.mem_cons] at hp
    rcases hp with rfl | hp
    · exact .inl hs
    · rcases anS_desc (ar ++ [.el n t as ks]) ks p hp s hs with h | h
      · rcases List.mem_append.mp h with h | h
        · exact .inl h
        · right
          rw [List.mem_singleton.mp h]
          show p.1 ∈ flS ks
          rw [← anS_fl (ar ++ [.el n t as ks]) ks]
          exact List.mem_map.mpr ⟨p, hp, rfl⟩
      · exact .inr h
theorem anS_desc (ar : List Dn) : ∀ ks : List Dn, ∀ p ∈ anS ar ks, ∀ s ∈ p.2, s ∈ ar ∨ p.1 ∈ flS s.kids
  | [], p, hp, _, _ => by simp [anS] at hp
  | d :: r, p, hp, s, hs => by
    simp only [anS, List.mem_append] at hp
    rcases hp with hp | hp
    · exact an_desc ar d p hp s hs
    · exact anS_desc ar r p hp s hs
end
def actF (e : Dn) : Bool := isOpt e || decide (kindD e = some bS)
def actP (l : List Dn) : Option Dn := l.reverse.find? actF
def selF (e : Dn) : Bool := decide (kindD e = some sS)
def selP (l : List Dn) : Option Dn := l.reverse.find? selF
/-- what stands in the path ahead of e -/
def befP (l : List Dn) (e : Dn) : List Dn := l.takeWhile fun x => !decide (x.num = e.num)
theorem path_at {ks : List Dn} {d : Dn} {AR : List Dn} (h : (d, AR) ∈ anS [] ks) {j : Nat} {e : Dn} (he : (AR ++ [d])[j]? = some e) : (e, (AR ++ [d]).take j) ∈ anS [] ks := by
  by_cases c : j < AR.length
  · have e1 : AR[j]? = some e := by rwa [List.getElem?_append_left c] at he
    have := anS_anc [] ks _ h j e (Nat.zero_le _) e1
    rw [List.take_append_of_le_length (by omega)]
    exact this
  · have hj : j = AR.length := by
      have := (List.getElem?_eq_some_iff.mp he).1
      rw [List.length_append] at this
      have : j < AR.length + 1 := this
      omega
    subst hj
    have e1 : (AR ++ [d])[AR.length]? = some d := by simp
    rw [e1] at he
    rw [← Option.some.inj he]
    simpa using h
theorem path_fl {ks : List Dn} {d : Dn} {AR : List Dn} (h : (d, AR) ∈ anS [] ks) {e : Dn} (he : e ∈ AR ++ [d]) : ∃ B, (e, B) ∈ anS [] ks ∧ ∃ j, (AR ++ [d])[j]? = some e ∧ B = (AR ++ [d]).take j := by
  obtain ⟨j, hj, rfl⟩ := List.getElem_of_mem he
  exact ⟨_, path_at h (List.getElem?_eq_getElem hj), j, List.getElem?_eq_getElem hj, rfl⟩
theorem mem_flS {ks : List Dn} {p : Dn × List Dn} (h : p ∈ anS [] ks) : p.1 ∈ flS ks := by
  rw [← anS_fl [] ks]
  exact List.mem_map.mpr ⟨p, h, rfl⟩
/-- no two of a path have one number -/
theorem bef_at {ks : List Dn} (nd : (numS ks).Nodup) {d : Dn} {AR : List Dn} (h : (d, AR) ∈ anS [] ks) {j : Nat} {e : Dn} (he : (AR ++ [d])[j]? = some e) : befP (AR ++ [d]) e = (AR ++ [d]).take j := by
  have key : ∀ (l : List Dn) (j : Nat), l[j]? = some e → (∀ i, i < j → ∀ x, l[i]? = some x → x.num ≠ e.num) → (l.takeWhile fun x => !decide (x.num = e.num)) = l.take j := by
    intro l
    induction l with
    | nil => intro j hj; simp at hj
    | cons a l ih =>
      intro j hj hn
      cases j with
      | zero =>
        have : a = e := by simpa using hj
        rw [List.takeWhile_cons, this, decide_eq_true rfl]
        rfl
      | succ j =>
        have h0 := hn 0 (Nat.succ_pos _) a rfl
        rw [List.takeWhile_cons, decide_eq_false h0]
        show a :: _ = a :: _
        rw [ih j (by simpa using hj) fun i hi x hx => hn (i + 1) (by omega) x (by simpa using hx)]
  refine key _ j he fun i hi x hx z => ?_
  have h1 := path_at h hx
  have h2 := path_at h he
  have ndf : ((anS [] ks).map fun p => p.1.num).Nodup := by rw [anS_nums]; exact nd
  have := nd_inj (f := fun p : Dn × List Dn => p.1.num) ndf h1 h2 z
  have := congrArg (fun p => p.2.length) this
  simp only [List.length_take] at this
  have l1 := (List.getElem?_eq_some_iff.mp hx).1
  have l2 := (List.getElem?_eq_some_iff.mp he).1
  omega
theorem shut_take {l : List Dn} (h : shutD l = false) (j : Nat) : shutD (l.take j) = false := by
  unfold shutD at h ⊢
  rw [List.any_eq_false] at h ⊢
  exact fun x hx => h x (List.mem_of_mem_take hx)
theorem opt_kind {e : Dn} (h : isOpt e = true) : kindD e = none := by
  unfold isOpt at h
  obtain ⟨h1, h2⟩ := Bool.and_eq_true_iff.mp h
  cases e with
  | tx m y => rfl
  | el m tg as kk =>
    have ht : tg = "option" := of_decide_eq_true h2
    subst ht
    exact kind_no (by decide)
/-- boxes show truth values -/
def BT (ks : List Dn) (tb : Tb) : Prop := ∀ d ∈ flS ks, kindD d = some bS → ∃ b, shV tb d.num = .bl b
def boxV (e : Dn) (c : Bool) : V := if boundD e bS = .non then .bl c else .bl (decide (boundD e bS = .str "true"))
def isT (v : V) : Bool := match v with
  | .bl b => b
  | _ => false
theorem fix_box {ks : List Dn} {d : Dn} {c : Bool} : fixV ks d bS (some (bS, .bl c)) = boxV d c := by
  unfold fixV boxV
  rw [if_neg (fun z => absurd z.1 (by decide)), setV_some]
  by_cases cb : boundD d bS = .non
  · rw [if_pos cb, if_pos cb]
  · rw [if_neg cb, if_neg cb]
    rfl
def ckE (n : Int) : List Ev := [(n, ("click" : Str), [])]
def clk (ks : List Dn) (tb : Tb) (pk : Bool) (d : Dn) (AR : List Dn) : List Ev × Tb := match actP (AR ++ [d]) with
  | none => (ckE d.num, tb)
  | some e => if pk = true then (ckE d.num, tb) else if isOpt e = true then (match selP (befP (AR ++ [d]) e) with
      | none => (ckE d.num, tb)
      | some s => (ckE d.num ++ setY ks tb s.num sS (optV e), setX ks tb s.num (optV e)))
    else (ckE d.num ++ [(e.num, ("input" : Str), []), (e.num, ("change" : Str), [])], setT tb e.num (boxV e (!isT (shV tb e.num))))
/-- what changes -/
def chg (ks : List Dn) (tb : Tb) (pk : Bool) (d : Dn) (AR : List Dn) : Option (Int × V) := match actP (AR ++ [d]) with
  | none => none
  | some e => if pk = true then none else if isOpt e = true then (match selP (befP (AR ++ [d]) e) with
      | none => none
      | some s => if shV tb s.num = .str (optV e) then none else if boundD s sS = .non then some (s.num, .str (optV e)) else none)
    else some (e.num, boxV e (!isT (shV tb e.num)))
structure ClkOk (ks : List Dn) (tb tb' : Tb) (ch : Option (Int × V)) : Prop where
  st : Stl ks tb'
  bt : BT ks tb'
  sh : ∀ n', shV tb' n' = match ch with
    | some x => if n' = x.1 then x.2 else shV tb n'
    | none => shV tb n'
theorem bound_sel {ks : List Dn} {tb : Tb} (h : Stl ks tb) (nd : (numS ks).Nodup) {s : Dn} (hs : s ∈ flS ks) (hk : kindD s = some sS) (cb : boundD s sS ≠ .non) : shV tb s.num = boundD s sS := by
  rcases h.gt nd hs with ⟨z, _⟩ | ⟨k', v, z1, z2, z3⟩
  · rw [hk] at z
    cases z
  · rw [hk] at z1
    cases z1
    rw [shV_of z2, ← z3]
    unfold fixV
    have cb : boundD s "select" ≠ .non := cb
    rw [if_neg (fun z => cb z.2), setV_some, if_neg cb]
    rcases attrD_cases s.as (if ("select" : Str) = "box" then "checked" else "value") with e | ⟨y, e⟩
    · exact absurd e cb
    · have e : boundD s "select" = .str y := e
      rw [e]
      rfl
theorem act_some {ks : List Dn} {d : Dn} {AR : List Dn} (h : (d, AR) ∈ anS [] ks) {e : Dn} (ha : actP (AR ++ [d]) = some e) : actF e = true ∧ ∃ j, (AR ++ [d])[j]? = some e ∧ (e, (AR ++ [d]).take j) ∈ anS [] ks := by
  have h1 := List.find?_some ha
  have h2 := List.mem_reverse.mp (List.mem_of_find?_eq_some ha)
  obtain ⟨j, hj, rfl⟩ := List.getElem_of_mem h2
  exact ⟨h1, j, List.getElem?_eq_getElem hj, path_at h (List.getElem?_eq_getElem hj)⟩
theorem sel_some {ks : List Dn} {e : Dn} {B : List Dn} (h : (e, B) ∈ anS [] ks) {s : Dn} (ha : selP B = some s) : kindD s = some sS ∧ s ∈ flS ks ∧ e ∈ flS s.kids ∧ ∃ j, B[j]? = some s ∧ (s, B.take j) ∈ anS [] ks := by
  have h1 : kindD s = some sS := of_decide_eq_true (List.find?_some (p := selF) ha)
  have h2 := List.mem_reverse.mp (List.mem_of_find?_eq_some ha)
  obtain ⟨j, hj, rfl⟩ := List.getElem_of_mem h2
  have h3 := anS_anc [] ks _ h j _ (Nat.zero_le _) (List.getElem?_eq_getElem hj)
  refine ⟨h1, mem_flS h3, ?_, j, List.getElem?_eq_getElem hj, h3⟩
  rcases anS_desc [] ks _ h _ h2 with z | z
  · exact nomatch z
  · exact z
theorem sel_open {ks : List Dn} (nd : (numS ks).Nodup) {e : Dn} {B : List Dn} (h : (e, B) ∈ anS [] ks) {s : Dn} (he : e ∈ flS s.kids) (ho : isOpt e = true) (hs : shutD (B ++ [e]) = false) : optV e ∈ openL ks s.kids := by
  unfold openL
  refine List.mem_map.mpr ⟨e, List.mem_filter.mpr ⟨List.mem_filter.mpr ⟨he, ho⟩, ?_⟩, rfl⟩
  have hd : disD ks e.num = shutD (B ++ [e]) := shut_at nd h
  rw [hd, hs]
  rfl
theorem clk_ok {ks : List Dn} (nd : (numS ks).Nodup) {tb : Tb} (h : Stl ks tb) (hb : BT ks tb) {d : Dn} {AR : List Dn} (hp : (d, AR) ∈ anS [] ks) (hs : shutD (AR ++ [d]) = false) (pk : Bool) : ClkOk ks tb (clk ks tb pk d AR).2 (chg ks tb pk d AR) := by
  have same : ClkOk ks tb tb none := ⟨h, hb, fun _ => rfl⟩
  unfold clk chg
  cases ha : actP (AR ++ [d]) with
  | none => exact same
  | some e =>
    obtain ⟨hf, j, hj, hB⟩ := act_some hp ha
    cases pk with
    | true => exact same
    | false =>
      dsimp only
      rw [if_neg (show ¬ (false = true) by decide), if_neg (show ¬ (false = true) by decide)]
      cases ho : isOpt e with
      | true =>
        rw [if_pos (show true = true from rfl), if_pos (show true = true from rfl), bef_at nd hp hj]
        cases hsel : selP ((AR ++ [d]).take j) with
        | none => exact same
        | some s =>
          obtain ⟨hk, hsf, hes, j2, hj2, hB2⟩ := sel_some hB hsel
          have hse : shutD ((AR ++ [d]).take j ++ [e]) = false := by
            have : (AR ++ [d]).take (j + 1) = (AR ++ [d]).take j ++ [e] := by rw [List.take_add_one, hj]; rfl
            rw [← this]
            exact shut_take hs _
          have hx := sel_open nd hB hes ho hse
          obtain ⟨k1, k2, k3, k4⟩ := choose_ok nd h hB2 hk hx
          show ClkOk ks tb (setX ks tb s.num (optV e)) (if shV tb s.num = .str (optV e) then none else if boundD s sS = .non then some (s.num, .str (optV e)) else none)
          have k2 : shV (setX ks tb s.num (optV e)) s.num = if boundD s sS = .non then .str (optV e) else boundD s sS := k2
          refine ⟨k1, fun d' hd' hk' => ?_, fun n' => ?_⟩
          · have : d'.num ≠ s.num := fun z => by
              have ndf : ((flS ks).map Dn.num).Nodup := by rw [flS_num]; exact nd
              have := nd_inj ndf hd' hsf z
              rw [this, hk] at hk'
              exact absurd hk' (by decide)
            rw [k3 _ this]
            exact hb d' hd' hk'
          · by_cases c : shV tb s.num = .str (optV e)
            · rw [if_pos c, k4 c]
            · rw [if_neg c]
              by_cases cb : boundD s sS = .non
              · rw [if_pos cb] at k2 ⊢
                show _ = if n' = s.num then V.str (optV e) else shV tb n'
                by_cases cn : n' = s.num
                · rw [if_pos cn, cn, k2]
                · rw [if_neg cn, k3 _ cn]
              · rw [if_neg cb] at k2 ⊢
                show _ = shV tb n'
                by_cases cn : n' = s.num
                · rw [cn, k2, bound_sel h nd hsf hk cb]
                · rw [k3 _ cn]
      | false =>
        rw [if_neg (show ¬ (false = true) by decide), if_neg (show ¬ (false = true) by decide)]
        have hk : kindD e = some bS := by
          unfold actF at hf
          rw [ho, Bool.false_or] at hf
          exact of_decide_eq_true hf
        have hef := mem_flS hB
        have ha := h.after nd hef hk (.bl (!isT (shV tb e.num)))
        rw [fix_box] at ha
        rcases h.gt nd hef with ⟨z, _⟩ | ⟨k', v, z1, z2, z3⟩
        · rw [hk] at z
          cases z
        · refine ⟨ha, fun d' hd' hk' => ?_, fun n' => ?_⟩
          · by_cases c : d'.num = e.num
            · rw [c, shV_set z2]
              unfold boxV
              split
              · exact ⟨_, rfl⟩
              · exact ⟨_, rfl⟩
            · rw [shV_set_ne c]
              exact hb d' hd' hk'
          · show _ = if n' = e.num then _ else shV tb n'
            by_cases cn : n' = e.num
            · rw [if_pos cn, cn, shV_set z2]
            · rw [if_neg cn, shV_set_ne cn]
theorem setY_len {ks : List Dn} {tb : Tb} {n : Int} {k x : Str} : (setY ks tb n k x).length ≤ 2 := by
  unfold setY setE
  have h1 := sendE_len (ks := ks) (n := n) (ev := "input") (kvs := [])
  have h2 := sendE_len (ks := ks) (n := n) (ev := "change") (kvs := [])
  split
  · exact Nat.zero_le _
  · rw [List.length_append]
    split
    · omega
    · show _ + 0 ≤ 2
      omega
theorem clk_len (ks : List Dn) (tb : Tb) (pk : Bool) (d : Dn) (AR : List Dn) : (clk ks tb pk d AR).1.length ≤ 3 := by
  unfold clk
  split
  · exact Nat.le_of_ble_eq_true rfl
  · split
    · exact Nat.le_of_ble_eq_true rfl
    · split
      · split
        · exact Nat.le_of_ble_eq_true rfl
        · show (ckE d.num ++ setY ks tb _ sS _).length ≤ 3
          rw [List.length_append]
          exact Nat.add_le_add (Nat.le_refl 1) setY_len
      · exact Nat.le_refl _
end VL

set_option Elab.async false
set_option linter.all false
set_option pp.maxSteps 700
set_option maxRecDepth 100000
set_option maxHeartbeats 4000000
namespace VL
open PySem PySem.Spec PyProof.Rows L2
theorem setT_setT {n : Int} {v w : V} : ∀ {tb : Tb}, setT (setT tb n v) n w = setT tb n w := fun {tb} => by
  unfold setT
  rw [List.map_map]
  refine List.map_congr_left fun e _ => ?_
  by_cases c : e.1 = n
  · simp [Function.comp, c]
  · simp [Function.comp, c]
theorem hold_find {p : Dn × List Dn} {f : Dn → Bool} (h : ∀ e, f e = true → e.isE = true) : (holdD p).reverse.find? f = (p.2 ++ [p.1]).reverse.find? f := by
  unfold holdD
  cases hE : p.1.isE with
  | true => rfl
  | false =>
    rw [if_neg (by decide), List.append_nil, List.reverse_append]
    show _ = (p.1 :: p.2.reverse).find? f
    rw [List.find?_cons]
    have : f p.1 = false := by
      cases hf : f p.1 with
      | false => rfl
      | true => rw [h _ hf] at hE; cases hE
    rw [this]
theorem actF_E (e : Dn) (h : actF e = true) : e.isE = true := by
  unfold actF at h
  rcases Bool.or_eq_true_iff.mp h with h | h
  · unfold isOpt at h
    exact (Bool.and_eq_true_iff.mp h).1
  · exact kind_isE (of_decide_eq_true h)
theorem find_ix {α : Type} {f : α → Bool} {l : List α} {i : Nat} {e : α} (h : l[i]? = some e) (hf : f e = true) (no : ∀ j x, j < i → l[j]? = some x → f x = false) : l.find? f = some e := by
  rw [List.find?_eq_some_iff_getElem]
  obtain ⟨hi, rfl⟩ := List.getElem?_eq_some_iff.mp h
  exact ⟨hf, i, hi, rfl, fun j hj => by rw [no j _ hj (List.getElem?_eq_getElem (Nat.lt_trans hj hi))]; rfl⟩
theorem kv_eq {d : Dn} {k : Str} : decide (kV' (kindD d) = V.str k) = decide (kindD d = some k) := by
  cases kindD d with
  | none => rfl
  | some k' => exact (decide_eq_decide.mpr ⟨fun z => by rw [V.str.inj z], fun z => by rw [Option.some.inj z]⟩ : decide (V.str k' = V.str k) = decide (some k' = some k))
theorem kv_scal {d : Dn} {k : Str} : scal (kV' (kindD d)) (V.str k) = true := by
  cases kindD d <;> rfl
def spActive (C : Ad) : Sp := fun vs H Q _ => ∃ (r : Addr) (d : Dn) (AR : List Dn) (G : Hp) (M : List (Addr × HO)) (vd : V) (ks : List Dn) (tb : Tb) (es : List Ev) (pv : List Str), vs = [.ref r, .int d.num] ∧ RtA C G H M r vd ks tb es pv ∧ (d, AR) ∈ anS [] ks ∧
  ∀ H', Same H H' → (actP (AR ++ [d]) = none → Q .non H') ∧ ∀ u e, actP (AR ++ [d]) = some e → NdA H' u e → Q u H'
def spIsBox (C : Ad) : Sp := fun vs H Q _ => ∃ (r : Addr) (d : Dn) (G : Hp) (M : List (Addr × HO)) (vd : V) (ks : List Dn) (tb : Tb) (es : List Ev) (pv : List Str), vs = [.ref r, .int d.num] ∧ RtA C G H M r vd ks tb es pv ∧ d ∈ flS ks ∧ kindD d = some bS ∧ ∀ H', Same H H' → Q (.bl true) H'
def pkC (pv : List Str) : Bool := decide (("click" : Str) ∈ pv)
def spClickB (C : Ad) : Sp := fun vs H Q _ => ∃ (r : Addr) (n : Int) (d : Dn) (b : Bool) (G : Hp) (M : List (Addr × HO)) (vd : V) (ks : List Dn) (tb : Tb) (es : List Ev) (pv : List Str), vs = [.ref r, .int n, .int d.num] ∧ RtA C G H M r vd ks tb es pv ∧ es.length ≤ 80000 ∧ d ∈ flS ks ∧ kindD d = some bS ∧ shV tb d.num = .bl b ∧ disD ks n = false ∧ disD ks d.num = false ∧
  ∀ G' H', RtA C G' H' M r vd ks (if pkC pv = true then tb else setT tb d.num (.bl (!b))) (es ++ (ckE n ++ if pkC pv = true then [] else [(d.num, ("input" : Str), []), (d.num, ("change" : Str), [])])) pv → Same G G' → Q .non H'
def spChooseO (C : Ad) : Sp := fun vs H Q _ => ∃ (r : Addr) (e : Dn) (B : List Dn) (G : Hp) (M : List (Addr × HO)) (vd : V) (ks : List Dn) (tb : Tb) (es : List Ev) (pv : List Str), vs = [.ref r, .int e.num] ∧ RtA C G H M r vd ks tb es pv ∧ es.length ≤ 80000 ∧ (e, B) ∈ anS [] ks ∧ isOpt e = true ∧ disD ks e.num = false ∧ Stl ks tb ∧
  ∀ G' H', RtA C G' H' M r vd ks (match selP B with
    | none => tb
    | some s => setX ks tb s.num (optV e)) (es ++ match selP B with
    | none => []
    | some s => setY ks tb s.num sS (optV e)) pv → Same G G' → Q .non H'
def spClick (C : Ad) : Sp := fun vs H Q _ => ∃ (r : Addr) (n : Int) (G : Hp) (M : List (Addr × HO)) (vd : V) (ks : List Dn) (tb : Tb) (es : List Ev) (pv : List Str), vs = [.ref r, .int n] ∧ RtA C G H M r vd ks tb es pv ∧ es.length ≤ 50000 ∧ Stl ks tb ∧ BT ks tb ∧
  ((disD ks n = true ∧ ∀ H', Same H H' → Q .non H') ∨ ∃ d AR, (d, AR) ∈ anS [] ks ∧ d.num = n ∧ disD ks n = false ∧ ∀ G' H', RtA C G' H' M r vd ks (clk ks tb (pkC pv) d AR).2 (es ++ (clk ks tb (pkC pv) d AR).1) pv → Same G G' → Q .non H')
section
variable {P : Program} {w : World} {K : PySem.W.Frag} {mg : Str → Option Value} {base : Heap} {C : Ad}
theorem sc_active_part : FnScope ["root", "number", "node"] ["root", "number"] (defScope s_active_part) := ⟨rfl, rfl, rfl, by decide +kernel, rfl, by decide +kernel, by decide +kernel⟩
theorem ok_active (T : Txt K w mg C) : Cal P w K mg base 10 "active_part" (spActive C) := by
  have Gnodes_on_path := ok_nodes (P := P) (base := base) T
  have Gis_option := ok_isOpt (P := P) (base := base) T
  have Gkind_of_control := ok_kind (P := P) (base := base) T
  refine cal_of T.d_active_part sc_active_part (fun vs H Q E h => ?_) (fun f cdv A outer s H vs Q E hr h => ?_)
  · obtain ⟨r, d, AR, G, M, vd, ks, tb, es, prv, rfl, _⟩ := h
    rfl
  · obtain ⟨r, d, AR, G, M, vd, ks, tb, es, prv, rfl, ⟨dr, a, sl, pl, us, hR, ct, evs, hpl, dok, nb⟩, hp, q⟩ := h
    have hD := dok.d.same ct.sm
    refine ⟨_, (pss_cons (ps_for PassesOwn.never rfl (pi_list (pe_c Gnodes_on_path hr (by decide) (by rfl) (pa_cons (pe_fld (pv 0) rfl) (pa_cons (pv 1) pa_nil)))) (pg_name (i := 2) sc_active_part.nd rfl (Or.inl rfl)) (pss_one (ps_if (PW.pt (pw_or (pt_val (pe_c Gis_option hr (by decide) (by rfl) (pa_cons (pv 2) pa_nil))) (pw_or1 (pt_cmpR op_eq (pe_c Gkind_of_control hr (by decide) (by rfl) (pa_cons (pv 2) pa_nil)) pe_str (nomark _))))) (pss_one (ps_ret (pv 2))) pss_nil))) (pss_one (ps_ret pe_non))), ?_⟩
    refine ⟨_, rfl, r, _, dr, _, _, rfl, ct.sm _ _ hR, T.cl_Rehearsal, T.n_Rehearsal_document, rfl, _, rfl, vd, ks, d.num, rfl, hD, fun p us H1 s1 hp0 hpu hus => ?_⟩
    have ul := hus.len
    have ef : (pathD ks d.num).find? actF = actP (AR ++ [d]) := by
      rw [show pathD ks d.num = (holdD (d, AR)).reverse from pathD_at dok.nd hp]
      exact hold_find actF_E
    refine ⟨p, rfl, ⟨_, SqL.of hpu⟩, ?_⟩
    refine for_it (walk_list (K := K) (a := p) (xs := us)) (fun i σ H' => Same H1 H' ∧ (∃ y2, σ = [some (.ref r), some (.int d.num), y2]) ∧ ∀ j x, j < i → (pathD ks d.num)[j]? = some x → actF x = false) ⟨Same.refl _, ⟨_, rfl⟩, fun j _ hj => absurd hj (Nat.not_lt_zero _)⟩ (fun i σ H' _ z => SqL.of (z.1 _ _ hpu)) ?_ ?_
    · rintro i x σ H2 H3 hi ⟨s2, ⟨y2, rfl⟩, no⟩ ⟨rfl, hx⟩
      obtain ⟨e, he, hxe⟩ := hus.get hx
      obtain ⟨hok, hE⟩ := pathD_all dok.ok d.num e (List.mem_of_getElem? he)
      refine ⟨_, rfl, x, e, rfl, hxe.same s2, _, rfl, ?_⟩
      cases ho : isOpt e with
      | true =>
        have hf : actF e = true := by
          unfold actF
          rw [ho]
          rfl
        exact iteT (iteT ⟨_, rfl, (q H3 (Same.trans s1 s2)).2 x e (by rw [← ef]; exact find_ix he hf no) (hxe.same s2)⟩)
      | false =>
        refine iteF ?_
        refine ⟨_, rfl, x, e, rfl, hxe.same s2, hok, fun H4 s4 => ?_⟩
        refine ⟨kv_scal, _, rfl, ?_⟩
        rw [show decide (kV' (kindD e) = V.str "box") = decide (kindD e = some bS) from kv_eq]
        cases hk : decide (kindD e = some bS) with
        | true =>
          have hf : actF e = true := by
            unfold actF
            rw [ho, hk]
            rfl
          exact iteT ⟨_, rfl, (q H4 (Same.trans s1 (Same.trans s2 s4))).2 x e (by rw [← ef]; exact find_ix he hf no) (hxe.same (Same.trans s2 s4))⟩
        | false =>
          refine iteF ⟨Same.trans s2 s4, ⟨_, rfl⟩, fun j y hj hy => ?_⟩
          rcases Nat.lt_succ_iff_lt_or_eq.mp hj with hj | rfl
          · exact no j y hj hy
          · rw [he] at hy
            cases hy
            unfold actF
            rw [ho, hk]
            rfl
    · rintro σ H2 ⟨s2, ⟨y2, rfl⟩, no⟩
      refine (q H2 (Same.trans s1 s2)).1 ?_
      rw [← ef, List.find?_eq_none]
      intro x hx c
      obtain ⟨j, hj, rfl⟩ := List.getElem_of_mem hx
      rw [no j _ (by omega) (List.getElem?_eq_getElem hj)] at c
      cases c
theorem sc_is_box : FnScope ["root", "number", "node"] ["root", "number"] (defScope s_is_box) := ⟨rfl, rfl, rfl, by decide +kernel, rfl, by decide +kernel, by decide +kernel⟩
theorem ok_isBox (T : Txt K w mg C) : Cal P w K mg base 10 "is_box" (spIsBox C) := by
  have Gfind_node := ok_find (P := P) (base := base) T
  have Gkind_of_control := ok_kind (P := P) (base := base) T
  refine cal_of T.d_is_box sc_is_box (fun vs H Q E h => ?_) (fun f cdv A outer s H vs Q E hr h => ?_)
  · obtain ⟨r, d, G, M, vd, ks, tb, es, prv, rfl, _⟩ := h
    rfl
  · obtain ⟨r, d, G, M, vd, ks, tb, es, prv, rfl, ⟨dr, a, sl, pl, us, hR, ct, evs, hpl, dok, nb⟩, hd, hk, q⟩ := h
    have hD := dok.d.same ct.sm
    obtain ⟨B, hB⟩ := fl_an hd
    obtain ⟨lf, ef⟩ := findD_at dok.nd hB
    have ef : findD ks d.num = some (lf, d) := ef
    refine ⟨_, (pss_cons (ps_set (i := 2) sc_is_box.nd rfl (Or.inl rfl) (pe_c Gfind_node hr (by decide) (by rfl) (pa_cons (pe_fld (pv 0) rfl) (pa_cons (pv 1) pa_nil)))) (pss_one (ps_ret (pe_and (pe_cmp (pc_notN (pv 2))) (pe_one (pe_cmpR op_eq (pe_c Gkind_of_control hr (by decide) (by rfl) (pa_cons (pv 2) pa_nil)) pe_str (nomark _))))))), ?_⟩
    refine ⟨_, rfl, r, _, dr, _, _, rfl, ct.sm _ _ hR, T.cl_Rehearsal, T.n_Rehearsal_document, rfl, _, rfl, vd, ks, d.num, rfl, hD, fun e0 H1 s1 => (by rw [ef] at e0; cases e0), fun p u H1 e0 hu s1 => ?_⟩
    rw [ef] at e0
    cases e0
    obtain ⟨b, ys, rfl, hb⟩ := hu.at
    refine ⟨_, rfl, true, rfl, iteT ?_⟩
    refine ⟨_, rfl, .ref b, d, rfl, hu.same s1, fl_ok dok.ok hd, fun H2 s2 => ?_⟩
    refine ⟨kv_scal, ?_⟩
    rw [kv_eq, hk]
    exact q H2 (Same.trans s1 s2)
theorem sc_click_box : FnScope ["root", "number", "box", "before"] ["root", "number", "box"] (defScope s_click_box) := ⟨rfl, rfl, rfl, by decide +kernel, rfl, by decide +kernel, by decide +kernel⟩
theorem ok_clickB (T : Txt K w mg C) : Cal P w K mg base 14 "click_box" (spClickB C) := by
  have Pcontrols := ok_panel (P := P) (base := base) T
  have Mshown := ok_shown (P := P) (base := base) T
  have Mshow := ok_show (P := P) (base := base) T
  have Gsend := ok_send (P := P) (base := base) T
  have Gis_box := ok_isBox (P := P) (base := base) T
  refine cal_of T.d_click_box sc_click_box (fun vs H Q E h => ?_) (fun f cdv A outer s H vs Q E hr h => ?_)
  · obtain ⟨r, n, d, b, G, M, vd, ks, tb, es, prv, rfl, _⟩ := h
    rfl
  · obtain ⟨r, n, d, b, G, M, vd, ks, tb, es, prv, rfl, rt, el, hd, hk, sv, hdn, hdd, q⟩ := h
    have rt0 := rt
    obtain ⟨dr, a, sl, pl, us, hR, ct, evs, hpl, dok, nb⟩ := rt0
    have hR1 := ct.sm _ _ hR
    obtain ⟨dx, kd, haa⟩ := ct.at
    have sk0 : StrK [] := ⟨List.nodup_nil, (fun _ h => nomatch h), Nat.zero_le _⟩
    refine ⟨_, (pss_cons (ps_set (i := 3) sc_click_box.nd rfl (Or.inl rfl) (pe_mt Mshown hr (by decide) (pe_pr Pcontrols hr (by decide) (pv 0)) (pa_cons (pv 2) pa_nil))) (pss_cons (ps_expr (pe_mt Mshow hr (by decide) (pe_pr Pcontrols hr (by decide) (pv 0)) (pa_cons (pv 2) (pa_cons (pe_not (pv 3)) pa_nil)))) (pss_one (ps_if (pt_not (pt_val (pe_c Gsend hr (by decide) (by rfl) (pa_cons (pv 0) (pa_cons (pv 1) (pa_cons pe_str (pa_cons pe_dnewK pa_nil))))))) (pss_cons (ps_expr (pe_c Gsend hr (by decide) (by rfl) (pa_cons (pv 0) (pa_cons (pv 2) (pa_cons pe_str (pa_cons pe_dnewK pa_nil)))))) (pss_one (ps_expr (pe_c Gsend hr (by decide) (by rfl) (pa_cons (pv 0) (pa_cons (pv 2) (pa_cons pe_str (pa_cons pe_dnewK pa_nil)))))))) (pss_one (ps_if (pt_val (pe_c Gis_box hr (by decide) (by rfl) (pa_cons (pv 0) (pa_cons (pv 2) pa_nil)))) (pss_one (ps_expr (pe_mt Mshow hr (by decide) (pe_pr Pcontrols hr (by decide) (pv 0)) (pa_cons (pv 2) (pa_cons (pv 3) pa_nil))))) pss_nil)))))), ?_⟩
    refine ⟨_, rfl, r, dr, _, rfl, hR1, r, dr, vd, a, sl, pl, rfl, hR1, a, dx, _, rfl, haa, rfl, _, rfl, a, d.num, tb, G, _, rfl, ct, ?_⟩
    rw [sv]
    refine ⟨_, rfl, r, dr, _, rfl, hR1, r, dr, vd, a, sl, pl, rfl, hR1, a, dx, _, rfl, haa, rfl, _, rfl, _, rfl, _, rfl, a, d.num, .bl (!b), tb, G, _, rfl, ct, fun G1 H1 ct1 g1 => ?_⟩
    have rt1 : RtA C G1 H1 M r vd ks (setT tb d.num (.bl (!b))) es prv := ⟨dr, a, sl, pl, us, g1 _ _ hR, ct1, EvA.same evs g1, g1 _ _ hpl, dok.same g1, setT_nbs nb (.inr (.inl ⟨_, rfl⟩))⟩
    refine ⟨_, rfl, _, rfl, fun d1 hd1 => ?_⟩
    refine ⟨r, n, "click", d1, [], G1, M, vd, ks, _, es, prv, rfl, rt1.keep (Sm.new hd1), upd_same, sk0, by omega, fun G2 H2 rt2 g2 _ => ⟨_, rfl, ?_⟩⟩
    unfold sendE at rt2
    rw [hdn, if_neg (show ¬ (false = true) by decide)] at rt2
    rw [show (!disD ks n && (decide (("click" : Str) ∈ prv) && canP "click")) = pkC prv by
      rw [hdn, show canP "click" = true by decide, Bool.and_true]
      rfl]
    have g02 := Same.trans g1 g2
    cases hpk : pkC prv with
    | false =>
      rw [hpk, if_neg (show ¬ (false = true) by decide), if_neg (show ¬ (false = true) by decide)] at q
      refine iteT ?_
      refine ⟨_, rfl, _, rfl, fun d2 hd2 => ?_⟩
      refine ⟨r, d.num, "input", d2, [], G2, M, vd, ks, _, _, prv, rfl, rt2.keep (Sm.new hd2), upd_same, sk0, by rw [List.length_append]; show es.length + 1 ≤ _; omega, fun G3 H3 rt3 g3 _ => ?_⟩
      unfold sendE at rt3
      rw [hdd, if_neg (show ¬ (false = true) by decide)] at rt3
      refine ⟨_, rfl, _, rfl, fun d3 hd3 => ?_⟩
      refine ⟨r, d.num, "change", d3, [], G3, M, vd, ks, _, _, prv, rfl, rt3.keep (Sm.new hd3), upd_same, sk0, by rw [List.length_append, List.length_append]; show es.length + 1 + 1 ≤ _; omega, fun G4 H4 rt4 g4 _ => ?_⟩
      unfold sendE at rt4
      rw [hdd, if_neg (show ¬ (false = true) by decide)] at rt4
      refine q G4 H4 ?_ (Same.trans g02 (Same.trans g3 g4))
      simpa [List.append_assoc, ckE] using rt4
    | true =>
      rw [hpk, if_pos (show true = true from rfl), if_pos (show true = true from rfl)] at q
      refine iteF ?_
      refine ⟨_, rfl, _, rfl, r, d, G2, M, vd, ks, _, _, prv, rfl, rt2, hd, hk, fun H3 s3 => ⟨_, rfl, iteT ?_⟩⟩
      have rt3 := rt2.keep s3
      obtain ⟨dr3, a3, sl3, pl3, us3, hR3, ct3, ev3, hpl3, dok3, nb3⟩ := rt3
      have hR3h := ct3.sm _ _ hR3
      obtain ⟨dx3, kd3, haa3⟩ := ct3.at
      refine ⟨_, rfl, r, dr3, _, rfl, hR3h, r, dr3, vd, a3, sl3, pl3, rfl, hR3h, a3, dx3, _, rfl, haa3, rfl, _, rfl, _, rfl, a3, d.num, .bl b, _, G2, _, rfl, ct3, fun G4 H4 ct4 g4 => ?_⟩
      have nb4 := setT_nbs (n := d.num) (v := .bl b) nb3 (.inr (.inl ⟨_, rfl⟩))
      have rt4 : RtA C G4 H4 M r vd ks (setT (setT tb d.num (.bl (!b))) d.num (.bl b)) (es ++ [(n, ("click" : Str), [])]) prv := ⟨dr3, a3, sl3, pl3, us3, g4 _ _ hR3, ct4, EvA.same ev3 g4, g4 _ _ hpl3, dok3.same g4, nb4⟩
      have e2 : setT (setT tb d.num (.bl (!b))) d.num (.bl b) = tb := by
        obtain ⟨dxx, kdd, kvs, S, tp, tnd, tl⟩ := ct
        rw [setT_setT]
        unfold shV at sv
        split at sv
        · rename_i x ex
          obtain ⟨k0, v0⟩ := x
          have sv : v0 = .bl b := sv
          rw [sv] at ex
          exact setT_same tnd ex
        · exact nomatch sv
      rw [e2] at rt4
      refine q G4 H4 ?_ (Same.trans g02 g4)
      rw [List.append_nil]
      exact rt4
theorem sc_choose_option : FnScope ["root", "number", "option", "selects", "node"] ["root", "number"] (defScope s_choose_option) := ⟨rfl, rfl, rfl, by decide +kernel, rfl, by decide +kernel, by decide +kernel⟩
theorem ok_chooseO (T : Txt K w mg C) : Cal P w K mg base 20 "choose_option" (spChooseO C) := by
  have Gis_disabled := ok_dis (P := P) (base := base) T
  have Gfind_node := ok_find (P := P) (base := base) T
  have Gnodes_on_path := ok_nodes (P := P) (base := base) T
  have Gkind_of_control := ok_kind (P := P) (base := base) T
  have Gis_option := ok_isOpt (P := P) (base := base) T
  have Gvalue_of_option := ok_optV (P := P) (base := base) T
  have Gset_to := ok_setTo (P := P) (base := base) T
  refine cal_of T.d_choose_option sc_choose_option (fun vs H Q E h => ?_) (fun f cdv A outer s H vs Q E hr h => ?_)
  · obtain ⟨r, e, B, G, M, vd, ks, tb, es, prv, rfl, _⟩ := h
    rfl
  · obtain ⟨r, e, B, G, M, vd, ks, tb, es, prv, rfl, rt, el, hB, ho, hde, st, q⟩ := h
    have rt0 := rt
    obtain ⟨dr, a, sl, pl, us, hR, ct, evs, hpl, dok, nb⟩ := rt0
    have hR1 := ct.sm _ _ hR
    have hD := dok.d.same ct.sm
    obtain ⟨lf, ef⟩ := findD_at dok.nd hB
    have ef : findD ks e.num = some (lf, e) := ef
    have hef := mem_flS hB
    refine ⟨_, (pss_cons (ps_if (pt_val (pe_c Gis_disabled hr (by decide) (by rfl) (pa_cons (pe_fld (pv 0) rfl) (pa_cons (pv 1) pa_nil)))) (pss_one ps_retN) pss_nil) (pss_cons (ps_set (i := 2) sc_choose_option.nd rfl (Or.inl rfl) (pe_c Gfind_node hr (by decide) (by rfl) (pa_cons (pe_fld (pv 0) rfl) (pa_cons (pv 1) pa_nil)))) (pss_cons (ps_setLc (i := 3) (own := [("node", 4)]) (g := gName 4) (tt := _) rfl sc_choose_option.nd rfl rfl (sw_true rfl rfl rfl (by decide +kernel)) (pi_list (pe_c Gnodes_on_path hr (by decide) (by rfl) (pa_cons (pe_fld (pv 0) rfl) (pa_cons (pv 1) pa_nil)))) (blkOk_by (N := ["root", "number", "option", "selects", "node"]) (sc := (defScope s_choose_option)) (by decide +kernel)) (fun _ _ _ _ _ => pg_name (i := 4) sc_choose_option.nd rfl (Or.inl rfl)) (fun _ _ _ _ _ => pts_one (pt_cmpR op_eq (pe_c Gkind_of_control hr (by decide) (by rfl) (pa_cons (pv 4) pa_nil)) pe_str (nomark _))) (fun _ _ _ _ _ => (pv 4))) (pss_one (ps_if (PW.pt (pw_and (pt_val (pe_c Gis_option hr (by decide) (by rfl) (pa_cons (pv 2) pa_nil))) (pw_and1 (pt_truth (pv 3) (fun _ => rfl))))) (pss_one (ps_expr (pe_c Gset_to hr (by decide) (by rfl) (pa_cons (pv 0) (pa_cons (pe_ix ix_tup (pe_ix ix_list (pv 3) pe_int (fun _ _ => rfl)) pe_int (fun _ _ => rfl)) (pa_cons pe_str (pa_cons (pe_c Gvalue_of_option hr (by decide) (by rfl) (pa_cons (pv 2) pa_nil)) pa_nil))))))) pss_nil))))), ?_⟩
    refine ⟨_, rfl, r, _, dr, _, _, rfl, hR1, T.cl_Rehearsal, T.n_Rehearsal_document, rfl, _, rfl, vd, ks, e.num, rfl, hD, dok.ok, fun H1 s1 => ⟨_, rfl, ?_⟩⟩
    rw [hde]
    refine iteF ?_
    refine ⟨_, rfl, r, _, dr, _, _, rfl, s1 _ _ hR1, T.cl_Rehearsal, T.n_Rehearsal_document, rfl, _, rfl, vd, ks, e.num, rfl, hD.same s1, fun e0 H2 s2 => (by rw [ef] at e0; cases e0), fun p u H2 e0 hu s2 => ?_⟩
    rw [ef] at e0
    cases e0
    have s12 := Same.trans s1 s2
    obtain ⟨b, ys, rfl, hb⟩ := hu.at
    refine ⟨_, rfl, r, _, dr, _, _, rfl, s12 _ _ hR1, T.cl_Rehearsal, T.n_Rehearsal_document, rfl, _, rfl, vd, ks, e.num, rfl, hD.same s12, fun p us' H3 s3 hp0 hpu hus => ?_⟩
    have ul := hus.len
    have eP : pathD ks e.num = (holdD (e, B)).reverse := pathD_at dok.nd hB
    refine ⟨p, rfl, ⟨_, SqL.of hpu⟩, fun D hD3 => ?_⟩
    have hPl : (pathD ks e.num).length ≤ 1001 := pathD_len dok.d.choose_spec.choose_spec.2.2.2
    refine lc_it (walk_list (K := K) (a := p) (xs := us')) (fun i H' => Same H3 H' ∧ ∃ ws, H' D = some (.lst ws) ∧ NdAs H3 ws (((pathD ks e.num).take i).filter selF)) ⟨Sm.new hD3, [], upd_same, .nil⟩ (fun i H' _ z => SqL.of (z.1 _ _ hpu)) ?_ ?_
    · rintro i x H4 H5 hi ⟨s4, ws, h4, hws⟩ ⟨rfl, hx⟩
      obtain ⟨c, hc, hxc⟩ := hus.get hx
      obtain ⟨hok, hE⟩ := pathD_all dok.ok e.num c (List.mem_of_getElem? hc)
      refine ⟨rfl, _, rfl, x, c, rfl, hxc.same s4, hok, fun H6 s6 => ⟨kv_scal, _, rfl, ?_⟩⟩
      rw [show decide (kV' (kindD c) = V.str "select") = selF c from kv_eq]
      have tk : ((pathD ks e.num).take (i + 1)).filter selF = ((pathD ks e.num).take i).filter selF ++ (if selF c = true then [c] else []) := by
        rw [List.take_add_one, hc, List.filter_append]
        cases h : selF c <;> simp [h]
      have wl : ws.length ≤ 1001 := by
        rw [hws.len]
        refine Nat.le_trans (List.length_filter_le _ _) ?_
        rw [List.length_take]
        omega
      cases hs : selF c with
      | true =>
        rw [hs, if_pos rfl] at tk
        refine iteT ⟨_, rfl, ws, s6 _ _ h4, Nat.lt_of_le_of_lt wl (by decide), fun c' o eo => ?_, ws ++ [x], upd_same, ?_⟩
        · rw [upd_ne (ne_of_none eo hD3)]
          exact s6 _ _ (s4 _ _ eo)
        · rw [tk]
          exact hws.app (.cons hxc .nil)
      | false =>
        rw [hs, if_neg (by decide), List.append_nil] at tk
        exact iteF ⟨Same.trans s4 s6, ws, s6 _ _ h4, by rw [tk]; exact hws⟩
    · rintro H4 ⟨s4, ws, h4, hws⟩
      rw [List.take_of_length_le (by omega)] at hws
      have s34 := Same.trans s12 (Same.trans s3 s4)
      have rt4 := rt.keep s34
      have hu4 := hu.same (Same.trans s2 (Same.trans s3 s4))
      refine ⟨_, rfl, .ref b, e, rfl, hu4, _, rfl, ?_⟩
      rw [ho]
      refine iteT ?_
      have hE : e.isE = true := by
        unfold isOpt at ho
        exact (Bool.and_eq_true_iff.mp ho).1
      have eF : (pathD ks e.num).filter selF = B.reverse.filter selF := by
        rw [eP]
        unfold holdD
        rw [show (e, B).1.isE = true from hE, if_pos rfl, List.reverse_append]
        show (e :: B.reverse).filter selF = _
        rw [List.filter_cons]
        have : selF e = false := by
          unfold selF
          rw [opt_kind ho]
          rfl
        rw [this]
        rfl
      rw [eF] at hws
      have eH : (B.reverse.filter selF).head? = selP B := List.head?_filter
      cases hs : selP B with
      | none =>
        rw [hs] at q eH
        rw [List.head?_eq_none_iff] at eH
        rw [eH] at hws
        cases hws
        exact ⟨_, rfl, false, .inl ⟨_, SqL.of h4, rfl⟩, iteF (q G H4 (by show RtA C G H4 M r vd ks tb (es ++ []) prv; rw [List.append_nil]; exact rt4) (Same.refl _))⟩
      | some s =>
        rw [hs] at q eH
        cases hl : B.reverse.filter selF with
        | nil => rw [hl] at eH; cases eH
        | cons s' l' =>
          rw [hl] at eH hws
          have : s' = s := Option.some.inj eH
          subst this
          cases hws with
          | @cons w0 ws' _ _ hw0 hwt =>
          obtain ⟨b0, ys0, rfl, hb0⟩ := hw0.at
          refine ⟨_, rfl, true, .inl ⟨_, SqL.of h4, rfl⟩, iteT ?_⟩
          refine ⟨_, rfl, _, rfl, D, _, _, _, rfl, rfl, SqL.of h4, at_0, b0, _, _, _, rfl, rfl, SqT.of (s4 _ _ hb0), at_1, _, rfl, .ref b, e, rfl, hu4, hE, fl_ok dok.ok hef, fun H5 s5 => ?_⟩
          exact ⟨r, s'.num, "select", optV e, G, M, vd, ks, tb, es, prv, rfl, rt4.keep s5, by omega, fun G' H' rt' g' => q G' H' rt' g'⟩
theorem sc_click : FnScope ["root", "number", "active"] ["root", "number"] (defScope s_click) := ⟨rfl, rfl, rfl, by decide +kernel, rfl, by decide +kernel, by decide +kernel⟩
theorem ok_click (T : Txt K w mg C) : Cal P w K mg base 24 "click" (spClick C) := by
  have Gis_disabled := ok_dis (P := P) (base := base) T
  have Gactive_part := ok_active (P := P) (base := base) T
  have Gis_option := ok_isOpt (P := P) (base := base) T
  have Gsend := ok_send (P := P) (base := base) T
  have Gchoose_option := ok_chooseO (P := P) (base := base) T
  have Gclick_box := ok_clickB (P := P) (base := base) T
  have Gsettle := ok_settleR (P := P) (base := base) T
  refine cal_of T.d_click sc_click (fun vs H Q E h => ?_) (fun f cdv A outer s H vs Q E hr h => ?_)
  · obtain ⟨r, n, G, M, vd, ks, tb, es, prv, rfl, _⟩ := h
    rfl
  · obtain ⟨r, n, G, M, vd, ks, tb, es, prv, rfl, rt, el, st, bt, hq⟩ := h
    have rt0 := rt
    obtain ⟨dr, a, sl, pl, us, hR, ct, evs, hpl, dok, nb⟩ := rt0
    have hR1 := ct.sm _ _ hR
    have hD := dok.d.same ct.sm
    have sk0 : StrK [] := ⟨List.nodup_nil, (fun _ h => nomatch h), Nat.zero_le _⟩
    refine ⟨_, (pss_cons (ps_if (pt_val (pe_c Gis_disabled hr (by decide) (by rfl) (pa_cons (pe_fld (pv 0) rfl) (pa_cons (pv 1) pa_nil)))) (pss_one ps_retN) pss_nil) (pss_cons (ps_set (i := 2) sc_click.nd rfl (Or.inl rfl) (pe_c Gactive_part hr (by decide) (by rfl) (pa_cons (pv 0) (pa_cons (pv 1) pa_nil)))) (C8.pss_cut (ps_if (pt_cmp (pc_isN (pv 2))) (pss_one (ps_expr (pe_c Gsend hr (by decide) (by rfl) (pa_cons (pv 0) (pa_cons (pv 1) (pa_cons pe_str (pa_cons pe_dnewK pa_nil))))))) (pss_one (ps_if (pt_val (pe_c Gis_option hr (by decide) (by rfl) (pa_cons (pv 2) pa_nil))) (pss_one (ps_if (pt_not (pt_val (pe_c Gsend hr (by decide) (by rfl) (pa_cons (pv 0) (pa_cons (pv 1) (pa_cons pe_str (pa_cons pe_dnewK pa_nil))))))) (pss_one (ps_expr (pe_c Gchoose_option hr (by decide) (by rfl) (pa_cons (pv 0) (pa_cons (pe_ix ix_tup (pv 2) pe_int (fun _ _ => rfl)) pa_nil))))) pss_nil)) (pss_one (ps_expr (pe_c Gclick_box hr (by decide) (by rfl) (pa_cons (pv 0) (pa_cons (pv 1) (pa_cons (pe_ix ix_tup (pv 2) pe_int (fun _ _ => rfl)) pa_nil))))))))) (pss_one (ps_expr (pe_c Gsettle hr (by decide) (by rfl) (pa_cons (pv 0) pa_nil))))))), ?_⟩
    refine ⟨_, rfl, r, _, dr, _, _, rfl, hR1, T.cl_Rehearsal, T.n_Rehearsal_document, rfl, _, rfl, vd, ks, n, rfl, hD, dok.ok, fun H1 s1 => ⟨_, rfl, ?_⟩⟩
    rcases hq with ⟨hd, q⟩ | ⟨d, AR, hp, rfl, hdis, q⟩
    · rw [hd]
      exact iteT (q H1 s1)
    · rw [hdis]
      refine iteF ?_
      refine ⟨_, rfl, _, rfl, r, d, AR, G, M, vd, ks, tb, es, prv, rfl, rt.keep s1, hp, fun H2 s2 => ?_⟩
      have rt2 := rt.keep (Same.trans s1 s2)
      have hsh : shutD (AR ++ [d]) = false := (shut_at dok.nd hp).symm.trans hdis
      have pre : (!disD ks d.num && (decide (("click" : Str) ∈ prv) && canP "click")) = pkC prv := by
        rw [hdis, show canP "click" = true by decide, Bool.and_true]
        rfl
      have ck := clk_ok dok.nd st bt hp hsh (pkC prv)
      refine ⟨fun hn => ?_, fun u e ha hu => ?_⟩
      · refine ⟨fun σ' H' => ∃ (G' : Hp) (tb' : Tb) (y2 : Option V), RtA C G' H' M r vd ks tb' (es ++ (clk ks tb (pkC prv) d AR).1) prv ∧ Same G G' ∧ setlT ks tb' = (clk ks tb (pkC prv) d AR).2 ∧ σ' = [some (.ref r), some (.int d.num), y2], ?_, ?_⟩
        · refine ⟨_, rfl, true, rfl, iteT ⟨_, rfl, _, rfl, fun d1 hd1 => ⟨r, d.num, "click", d1, [], G, M, vd, ks, tb, es, prv, rfl, rt2.keep (Sm.new hd1), upd_same, sk0, by omega, fun G3 H3 rt3 g3 _ => ?_⟩⟩⟩
          unfold sendE at rt3
          rw [hdis, if_neg (show ¬ (false = true) by decide)] at rt3
          unfold clk
          rw [hn]
          exact ⟨G3, tb, _, rt3, g3, st, rfl⟩
        · rintro σ' H3 ⟨G3, tb3, y2, rt3, g3, es3, rfl⟩
          exact ⟨_, rfl, r, G3, M, vd, ks, tb3, _, prv, rfl, rt3, fun G4 H4 rt4 g4 => by rw [es3] at rt4; exact q G4 H4 rt4 (Same.trans g3 g4)⟩
      · obtain ⟨b, ys, rfl, hb⟩ := hu.at
        obtain ⟨hf, j, hj, hB⟩ := act_some hp ha
        have hef := mem_flS hB
        have hbe := bef_at dok.nd hp hj
        have hse : shutD ((AR ++ [d]).take j ++ [e]) = false := by
          have : (AR ++ [d]).take (j + 1) = (AR ++ [d]).take j ++ [e] := by rw [List.take_add_one, hj]; rfl
          rw [← this]
          exact shut_take hsh _
        have hde : disD ks e.num = false := by
          have : disD ks e.num = shutD ((AR ++ [d]).take j ++ [e]) := shut_at dok.nd hB
          rw [this, hse]
        refine ⟨fun σ' H' => ∃ (G' : Hp) (tb' : Tb) (y2 : Option V), RtA C G' H' M r vd ks tb' (es ++ (clk ks tb (pkC prv) d AR).1) prv ∧ Same G G' ∧ setlT ks tb' = (clk ks tb (pkC prv) d AR).2 ∧ σ' = [some (.ref r), some (.int d.num), y2], ?_, ?_⟩
        · refine ⟨_, rfl, false, rfl, iteF ?_⟩
          refine ⟨_, rfl, .ref b, e, rfl, hu, _, rfl, ?_⟩
          unfold clk at ck ⊢
          rw [ha] at ck ⊢
          dsimp only at ck ⊢
          cases ho : isOpt e with
          | true =>
            rw [ho, hbe] at ck
            rw [hbe]
            refine iteT ?_
            refine ⟨_, rfl, _, rfl, fun d1 hd1 => ⟨r, d.num, "click", d1, [], G, M, vd, ks, tb, es, prv, rfl, rt2.keep (Sm.new hd1), upd_same, sk0, by omega, fun G3 H3 rt3 g3 kt => ⟨_, rfl, ?_⟩⟩⟩
            unfold sendE at rt3
            rw [hdis, if_neg (show ¬ (false = true) by decide)] at rt3
            rw [pre]
            cases hpk : pkC prv with
            | true => exact iteF ⟨G3, tb, _, rt3, g3, st, rfl⟩
            | false =>
              rw [hpk] at ck
              refine iteT ?_
              have hb3 := kt _ _ (Sm.new hd1 _ _ hb)
              refine ⟨_, rfl, _, rfl, b, _, _, _, rfl, rfl, SqT.of hb3, at_1, r, e, _, G3, M, vd, ks, tb, _, prv, rfl, rt3, by rw [List.length_append]; show es.length + 1 ≤ _; omega, hB, ho, hde, st, fun G4 H4 rt4 g4 => ?_⟩
              cases hs : selP ((AR ++ [d]).take j) with
              | none =>
                rw [hs] at rt4
                refine ⟨G4, tb, _, ?_, Same.trans g3 g4, st, rfl⟩
                have rt4 : RtA C G4 H4 M r vd ks tb (es ++ [(d.num, ("click" : Str), [])] ++ []) prv := rt4
                rw [List.append_nil] at rt4
                exact rt4
              | some s =>
                rw [hs] at rt4 ck
                refine ⟨G4, setX ks tb s.num (optV e), _, ?_, Same.trans g3 g4, ck.st, rfl⟩
                have rt4 : RtA C G4 H4 M r vd ks (setX ks tb s.num (optV e)) (es ++ [(d.num, ("click" : Str), [])] ++ setY ks tb s.num sS (optV e)) prv := rt4
                rw [List.append_assoc] at rt4
                exact rt4
          | false =>
            have hk : kindD e = some bS := by
              unfold actF at hf
              rw [ho, Bool.false_or] at hf
              exact of_decide_eq_true hf
            obtain ⟨bb, sv⟩ := bt e hef hk
            refine iteF ?_
            refine ⟨_, rfl, _, rfl, _, rfl, b, _, _, _, rfl, rfl, SqT.of hb, at_1, r, d.num, e, bb, G, M, vd, ks, tb, es, prv, rfl, rt2, by omega, hef, hk, sv, hdis, hde, fun G3 H3 rt3 g3 => ?_⟩
            cases hpk : pkC prv with
            | true =>
              rw [hpk, if_pos (show true = true from rfl), if_pos (show true = true from rfl), List.append_nil] at rt3
              exact ⟨G3, tb, _, rt3, g3, st, rfl⟩
            | false =>
              rw [hpk, if_neg (show ¬ (false = true) by decide), if_neg (show ¬ (false = true) by decide)] at rt3
              refine ⟨G3, _, _, rt3, g3, ?_, rfl⟩
              rw [st.set dok.nd hef hk, fix_box, sv]
              rfl
        · rintro σ' H3 ⟨G3, tb3, y2, rt3, g3, es3, rfl⟩
          exact ⟨_, rfl, r, G3, M, vd, ks, tb3, _, prv, rfl, rt3, fun G4 H4 rt4 g4 => by rw [es3] at rt4; exact q G4 H4 rt4 (Same.trans g3 g4)⟩
end
end VL

set_option Elab.async false
set_option linter.all false
set_option pp.maxSteps 700
set_option maxRecDepth 100000
set_option maxHeartbeats 4000000
namespace VL
open PySem PySem.Spec PyProof.Rows L2
theorem selF_el {m : Int} {tg : Str} {as : List (Str × Str)} {kk : List Dn} : selF (.el m tg as kk) = decide (tg = "select") := by
  unfold selF
  by_cases c : tg ∈ [("input" : Str), "area", "select"]
  · rw [kind_in c]
    by_cases c2 : tg = "select"
    · rw [if_pos c2, decide_eq_true c2]
      rfl
    · rw [if_neg c2, decide_eq_false c2]
      split <;> rfl
  · rw [kind_no c]
    have : ¬ tg = "select" := fun z => c (by rw [z]; decide)
    rw [decide_eq_false this]
    rfl
theorem actF_el {m : Int} {tg : Str} {as : List (Str × Str)} {kk : List Dn} : actF (.el m tg as kk) = (decide (tg = "option") || decide (kindD (.el m tg as kk) = some bS)) := rfl
theorem selP_snoc {l : List Dn} {x : Dn} : selP (l ++ [x]) = if selF x = true then some x else selP l := by
  unfold selP
  rw [List.reverse_append]
  show (x :: l.reverse).find? selF = _
  rw [List.find?_cons]
  cases selF x <;> rfl
theorem tw_at {e : Dn} : ∀ {l : List Dn} {j : Nat} {x : Dn}, l[j]? = some x → x.num = e.num → (∀ i, i < j → ∀ y, l[i]? = some y → y.num ≠ e.num) → befP l e = l.take j
  | [], _, _, h, _, _ => by simp at h
  | a :: l, 0, x, h, hx, _ => by
    have : a = x := by simpa using h
    unfold befP
    rw [List.takeWhile_cons, this, hx, decide_eq_true rfl]
    rfl
  | a :: l, j + 1, x, h, hx, hn => by
    have h0 := hn 0 (Nat.succ_pos _) a rfl
    have ih := tw_at (l := l) (j := j) (x := x) (by simpa using h) hx fun i hi y hy => hn (i + 1) (by omega) y (by simpa using hy)
    unfold befP at ih ⊢
    rw [List.takeWhile_cons, decide_eq_false h0]
    show a :: _ = a :: _
    rw [ih]
theorem tw_all {e : Dn} : ∀ {l : List Dn}, (∀ (i : Nat) (y : Dn), l[i]? = some y → y.num ≠ e.num) → befP l e = l
  | [], _ => rfl
  | a :: l, hn => by
    have ih := tw_all (e := e) (l := l) fun i y hy => hn (i + 1) y (by simpa using hy)
    have h0 := hn 0 a rfl
    unfold befP at ih ⊢
    rw [List.takeWhile_cons, decide_eq_false h0]
    show a :: _ = a :: _
    rw [ih]
def spLPart : Sp := fun vs H Q _ => ∃ (vn : V) (ar : Addr) (us : List V) (d : Dn) (AR : List Dn), vs = [vn, .ref ar] ∧ NdA H vn d ∧ H ar = some (.lst us) ∧ NdAs H us AR ∧ AR.length ≤ 1000 ∧
  ∀ H', Same H H' → (actP (AR ++ [d]) = none → Q .non H') ∧ ∀ u e, actP (AR ++ [d]) = some e → NdA H u e → Q u H'
def spLSel : Sp := fun vs H Q _ => ∃ (al : Addr) (vo : V) (us : List V) (e : Dn) (l : List Dn), vs = [.ref al, vo] ∧ H al = some (.lst us) ∧ NdAs H us l ∧ NdA H vo e ∧
  (selP (befP l e) = none → Q .non H) ∧ ∀ u s, selP (befP l e) = some s → NdA H u s → Q u H
section
variable {P : Program} {w : World} {K : PySem.W.Frag} {mg : Str → Option Value} {base : Heap} {C : Ad}
theorem sc__law_part : FnScope ["node", "around", "path", "one"] ["node", "around"] (defScope s__law_part) := ⟨rfl, rfl, rfl, by decide +kernel, rfl, by decide +kernel, by decide +kernel⟩
theorem ok_lpart (T : Txt K w mg C) : Cal P w K mg base 5 "_law_part" spLPart := by
  have G_law_kind := ok_lkind (P := P) (base := base) T
  refine cal_of T.d__law_part sc__law_part (fun vs H Q E h => ?_) (fun f cdv A outer s H vs Q E hr h => ?_)
  · obtain ⟨vn, ar, us, d, AR, rfl, _⟩ := h
    rfl
  · obtain ⟨vn, ar, us, d, AR, rfl, hd, har, hus, hAL, q⟩ := h
    have big : 100000 < sizeLine := by decide
    have ul := hus.len
    refine ⟨_, (pss_cons (ps_set (i := 2) sc__law_part.nd rfl (Or.inl rfl) (pe_op op_cat (pv 1) (pe_lst (pa_cons (pv 0) pa_nil)))) (pss_cons (ps_for PassesOwn.never rfl (pi_list (pe_revL (pv 2))) (pg_name (i := 3) sc__law_part.nd rfl (Or.inl rfl)) (pss_one (ps_if (PW.pt (pw_and (pt_cmpR op_eq (pe_ix ix_tup (pv 3) pe_int (fun _ _ => rfl)) pe_str (nomark _)) (pw_and1 (PW.pt (pw_or (pt_cmpR op_eq (pe_ix ix_tup (pv 3) pe_int (fun _ _ => rfl)) pe_str (nomark _)) (pw_or1 (pt_cmpR op_eq (pe_c G_law_kind hr (by decide) (by rfl) (pa_cons (pv 3) pa_nil)) pe_str (nomark _)))))))) (pss_one (ps_ret (pv 3))) pss_nil))) (pss_one (ps_ret pe_non)))), ?_⟩
    refine ⟨_, rfl, _, rfl, by show 1 ≤ sizeLine; decide, fun e0 he0 => ?_⟩
    have se : Same H (upd H e0 (.lst [vn])) := Sm.new he0
    refine ⟨ar, e0, us, [vn], rfl, rfl, se _ _ har, upd_same, by show us.length + 1 ≤ _; omega, fun c0 hc0 => ?_⟩
    have sc : Same H (upd (upd H e0 (.lst [vn])) c0 (.lst (us ++ [vn]))) := Same.trans se (Sm.new hc0)
    have hcc : upd (upd H e0 (.lst [vn])) c0 (.lst (us ++ [vn])) c0 = some (.lst (us ++ [vn])) := upd_same
    show tSeq _ _ _ _ (upd (upd H e0 (.lst [vn])) c0 (.lst (us ++ [vn])))
    generalize upd (upd H e0 (.lst [vn])) c0 (.lst (us ++ [vn])) = H1 at sc hcc ⊢
    have nu := (hus.app (.cons hd .nil)).rev
    refine ⟨_, rfl, c0, _, rfl, SqL.of hcc, fun r0 hr0 => ?_⟩
    have s2 : Same H (upd H1 r0 (.lst (us ++ [vn]).reverse)) := Same.trans sc (Sm.new hr0)
    have hrr : upd H1 r0 (.lst (us ++ [vn]).reverse) r0 = some (.lst (us ++ [vn]).reverse) := upd_same
    generalize upd H1 r0 (.lst (us ++ [vn]).reverse) = H2 at s2 hrr ⊢
    have n2 := nu.len
    refine ⟨r0, rfl, ⟨_, SqL.of hrr⟩, ?_⟩
    refine for_it (walk_list (K := K) (a := r0) (xs := (us ++ [vn]).reverse)) (fun i σ H' => Same H2 H' ∧ (∃ y3, σ = [some vn, some (.ref ar), some (.ref c0), y3]) ∧ ∀ j x, j < i → (AR ++ [d]).reverse[j]? = some x → actF x = false) ⟨Same.refl _, ⟨_, rfl⟩, fun j _ hj => absurd hj (Nat.not_lt_zero _)⟩ (fun i σ H' _ z => SqL.of (z.1 _ _ hrr)) ?_ ?_
    · rintro i x σ H3 H4 hi ⟨s3, ⟨y3, rfl⟩, no⟩ ⟨rfl, hx⟩
      obtain ⟨e, he, hxe⟩ := nu.get hx
      have hxh := hxe
      have hxe := hxe.same (Same.trans s2 s3)
      have hxe0 := hxe
      have nx : ∀ H', Same H4 H' → actF e = false → Same H2 H' ∧ (∃ y3, [some vn, some (V.ref ar), some (.ref c0), some x] = [some vn, some (V.ref ar), some (.ref c0), y3]) ∧ ∀ j y, j < i + 1 → (AR ++ [d]).reverse[j]? = some y → actF y = false := fun H' s' hf => ⟨Same.trans s3 s', ⟨_, rfl⟩, fun j y hj hy => by
        rcases Nat.lt_succ_iff_lt_or_eq.mp hj with hj | rfl
        · exact no j y hj hy
        · rw [he] at hy
          cases hy
          exact hf⟩
      have hit : ∀ H', Same H4 H' → actF e = true → Q x H' := fun H' s' hf => (q H' (Same.trans s2 (Same.trans s3 s'))).2 x e (find_ix he hf no) hxh
      cases hxe with
      | @tx b m y h2 =>
        exact ⟨_, rfl, _, _, _, _, rfl, rfl, SqT.of h2, at_0, rfl, _, rfl, ite2 (fun c => absurd c (by decide)) (fun _ => iteF (nx H4 (Same.refl _) rfl))⟩
      | @el b pk m tg va as vs kk h1 hA' hk hs =>
        refine ⟨_, rfl, _, _, _, _, rfl, rfl, SqT.of h1, at_0, rfl, _, rfl, ite2 (fun _ => ?_) (fun c => absurd (by decide) c)⟩
        refine ⟨_, rfl, _, _, _, _, rfl, rfl, SqT.of h1, rfl, rfl, _, rfl, ?_⟩
        by_cases c2 : tg = "option"
        · have : actF (.el m tg as kk) = true := by
            rw [actF_el, decide_eq_true c2]
            rfl
          rw [decide_eq_true (show V.str tg = V.str "option" by rw [c2])]
          exact iteT (iteT ⟨_, rfl, hit H4 (Same.refl _) this⟩)
        · rw [decide_eq_false (show ¬ V.str tg = V.str "option" from fun z => c2 (V.str.inj z))]
          refine iteF ?_
          refine ⟨_, rfl, .ref b, _, rfl, hxe0, fun H5 s5 => ?_⟩
          refine ⟨kv_scal, _, rfl, ?_⟩
          rw [show decide (kV' (kindD (Dn.el m tg as kk)) = V.str "box") = decide (kindD (Dn.el m tg as kk) = some bS) from kv_eq]
          have ea : actF (.el m tg as kk) = decide (kindD (Dn.el m tg as kk) = some bS) := by
            rw [actF_el, decide_eq_false c2, Bool.false_or]
          rw [← ea]
          cases hf : actF (.el m tg as kk) with
          | true => exact iteT ⟨_, rfl, hit H5 s5 hf⟩
          | false => exact iteF (nx H5 s5 hf)
    · rintro σ H3 ⟨s3, ⟨y3, rfl⟩, no⟩
      refine (q H3 (Same.trans s2 s3)).1 ?_
      unfold actP
      rw [List.find?_eq_none]
      intro x hx c
      obtain ⟨j, hj, rfl⟩ := List.getElem_of_mem hx
      rw [no j _ (by omega) (List.getElem?_eq_getElem hj)] at c
      cases c
theorem sc__law_select : FnScope ["around", "option", "found", "one"] ["around", "option"] (defScope s__law_select) := ⟨rfl, rfl, rfl, by decide +kernel, rfl, by decide +kernel, by decide +kernel⟩
theorem ok_lsel (T : Txt K w mg C) : Cal P w K mg base 2 "_law_select" spLSel := by
  refine cal_of T.d__law_select sc__law_select (fun vs H Q E h => ?_) (fun f cdv A outer s H vs Q E hr h => ?_)
  · obtain ⟨al, vo, us, e, l, rfl, _⟩ := h
    rfl
  · obtain ⟨al, vo, us, e, l, rfl, hal, hus, he, q0, q1⟩ := h
    have ul := hus.len
    obtain ⟨be, yse, rfl, hbe⟩ := he.at
    refine ⟨_, (pss_cons (ps_set (i := 2) sc__law_select.nd rfl (Or.inl rfl) pe_non) (pss_cons (ps_for PassesOwn.never rfl (pi_list (pv 0)) (pg_name (i := 3) sc__law_select.nd rfl (Or.inl rfl)) (pss_cons (ps_if (pt_cmpR op_eq (pe_ix ix_tup (pv 3) pe_int (fun _ _ => rfl)) (pe_ix ix_tup (pv 1) pe_int (fun _ _ => rfl)) (nomark _)) (pss_one ps_break) pss_nil) (pss_one (ps_if (PW.pt (pw_and (pt_cmpR op_eq (pe_ix ix_tup (pv 3) pe_int (fun _ _ => rfl)) pe_str (nomark _)) (pw_and1 (pt_cmpR op_eq (pe_ix ix_tup (pv 3) pe_int (fun _ _ => rfl)) pe_str (nomark _))))) (pss_one (ps_set (i := 2) sc__law_select.nd rfl (Or.inl rfl) (pv 3))) pss_nil)))) (pss_one (ps_ret (pv 2))))), ?_⟩
    refine ⟨_, rfl, al, rfl, ⟨_, SqL.of hal⟩, ?_⟩
    have fin : ∀ (y2 : V) (L : List Dn), befP l e = L → ((selP L = none ∧ y2 = .non) ∨ ∃ s, selP L = some s ∧ NdA H y2 s) → Q y2 H := fun y2 L eL h => by
      rw [eL] at q0 q1
      rcases h with ⟨h1, rfl⟩ | ⟨s, h1, h2⟩
      · exact q0 h1
      · exact q1 y2 s h1 h2
    refine for_it (walk_list (K := K) (a := al) (xs := us)) (fun i σ H' => H' = H ∧ (∃ y2 y3, σ = [some (.ref al), some (.ref be), some y2, y3] ∧ ((selP (l.take i) = none ∧ y2 = .non) ∨ ∃ s, selP (l.take i) = some s ∧ NdA H y2 s)) ∧ ∀ j x, j < i → l[j]? = some x → x.num ≠ e.num) ⟨rfl, ⟨_, _, rfl, .inl ⟨rfl, rfl⟩⟩, fun j _ hj => absurd hj (Nat.not_lt_zero _)⟩ (fun i σ H' _ z => by rw [z.1]; exact SqL.of hal) ?_ ?_
    · rintro i x σ H3 H4 hi ⟨rfl, ⟨y2, y3, rfl, hy⟩, no⟩ ⟨rfl, hx⟩
      obtain ⟨o, ho, hxo⟩ := hus.get hx
      have tk : l.take (i + 1) = l.take i ++ [o] := by rw [List.take_add_one, ho]; rfl
      obtain ⟨b, ys, rfl, hb⟩ := hxo.at
      refine ⟨_, rfl, _, _, _, _, rfl, rfl, SqT.of hb, at_1, _, rfl, be, _, _, _, rfl, rfl, SqT.of hbe, at_1, rfl, _, rfl, ite2 (fun c => ?_) (fun c => ?_)⟩
      · have en : o.num = e.num := by
          have := of_decide_eq_true c
          injection this
        exact ⟨_, rfl, fin y2 _ (tw_at ho en fun i' hi' y hy' => no i' y hi' hy') hy⟩
      · have en : o.num ≠ e.num := fun z => c (decide_eq_true (by rw [z]))
        have no' : ∀ j x, j < i + 1 → l[j]? = some x → x.num ≠ e.num := fun j x' hj hxx => by
          rcases Nat.lt_succ_iff_lt_or_eq.mp hj with hj | hj
          · exact no j x' hj hxx
          · rw [hj, ho] at hxx
            cases hxx
            exact en
        have hxo0 := hxo
        cases hxo with
        | @tx _ m y h2 =>
          refine ⟨_, rfl, _, _, _, _, rfl, rfl, SqT.of h2, at_0, rfl, _, rfl, ite2 (fun c => absurd c (by decide)) (fun _ => iteF ⟨rfl, ⟨y2, _, rfl, ?_⟩, no'⟩)⟩
          rw [tk, selP_snoc, if_neg (show ¬ selF (Dn.tx m y) = true from fun z => by have : (false : Bool) = true := z; cases this)]
          exact hy
        | @el _ pk m tg va as vs kk h1 hA' hk hs =>
          refine ⟨_, rfl, _, _, _, _, rfl, rfl, SqT.of h1, at_0, rfl, _, rfl, ite2 (fun _ => ?_) (fun c => absurd (by decide) c)⟩
          refine ⟨_, rfl, _, _, _, _, rfl, rfl, SqT.of h1, rfl, rfl, _, rfl, ite2 (fun c2 => ?_) (fun c2 => ?_)⟩
          · have ct : tg = "select" := V.str.inj (of_decide_eq_true c2)
            refine ⟨_, rfl, rfl, ⟨_, _, rfl, .inr ⟨_, ?_, hxo0⟩⟩, no'⟩
            rw [tk, selP_snoc, selF_el, decide_eq_true ct]
            rfl
          · refine ⟨rfl, ⟨y2, _, rfl, ?_⟩, no'⟩
            rw [tk, selP_snoc, selF_el, decide_eq_false (fun z => c2 (decide_eq_true (by rw [z])))]
            exact hy
    · rintro σ H3 ⟨rfl, ⟨y2, y3, rfl, hy⟩, no⟩
      rw [List.take_of_length_le (by omega)] at hy
      exact ⟨_, rfl, fin y2 l (tw_all fun i y hiy => no i y (by rw [ul]; exact (List.getElem?_eq_some_iff.mp hiy).1) hiy) hy⟩
end
end VL

set_option Elab.async false
set_option linter.all false
set_option pp.maxSteps 700
set_option maxRecDepth 100000
set_option maxHeartbeats 4000000
namespace VL
open PySem PySem.Spec PyProof.Rows L2
def CgA (H : Hp) (v : V) (x : Int × V) : Prop := ∃ t, v = .ref t ∧ H t = some (.tup [.int x.1, x.2])
theorem CgA.same {H H' : Hp} {vs : List V} {xs : List (Int × V)} (h : Paired (CgA H) vs xs) (s : Same H H') : Paired (CgA H') vs xs := Paired.mono (fun _ _ ⟨t, e, h⟩ => ⟨t, e, s _ _ h⟩) h
/-- input and change of one node, laid -/
def two (H : Hp) (n : Int) (d2 t2 d3 t3 l2 : Addr) : Hp := upd (upd (upd (upd (upd H d2 (.dK [])) t2 (.tup [.int n, .str "input", .ref d2])) d3 (.dK [])) t3 (.tup [.int n, .str "change", .ref d3])) l2 (.lst [.ref t2, .ref t3])
theorem two_lay {H : Hp} {n : Int} {d2 t2 d3 t3 l2 : Addr} (h1 : H d2 = none) (h2 : upd H d2 (.dK []) t2 = none) (h3 : upd (upd H d2 (.dK [])) t2 (.tup [.int n, .str "input", .ref d2]) d3 = none)
    (h4 : upd (upd (upd H d2 (.dK [])) t2 (.tup [.int n, .str "input", .ref d2])) d3 (.dK []) t3 = none) (h5 : upd (upd (upd (upd H d2 (.dK [])) t2 (.tup [.int n, .str "input", .ref d2])) d3 (.dK [])) t3 (.tup [.int n, .str "change", .ref d3]) l2 = none) :
    Same H (two H n d2 t2 d3 t3 l2) ∧ two H n d2 t2 d3 t3 l2 l2 = some (.lst [.ref t2, .ref t3]) ∧ Paired (EvA (two H n d2 t2 d3 t3 l2)) [.ref t2, .ref t3] [(n, ("input" : Str), []), (n, ("change" : Str), [])] := by
  have s1 := Sm.new (o := .dK []) h1
  have s2 := Sm.new (o := .tup [.int n, .str "input", .ref d2]) h2
  have s3 := Sm.new (o := .dK []) h3
  have s4 := Sm.new (o := .tup [.int n, .str "change", .ref d3]) h4
  have s5 := Sm.new (o := .lst [.ref t2, .ref t3]) h5
  refine ⟨Same.trans s1 (Same.trans s2 (Same.trans s3 (Same.trans s4 s5))), upd_same, .cons ⟨t2, d2, rfl, ?_, ?_⟩ (.cons ⟨t3, d3, rfl, ?_, ?_⟩ .nil)⟩
  · exact s5 _ _ (s4 _ _ (s3 _ _ upd_same))
  · exact s5 _ _ (s4 _ _ (s3 _ _ (s2 _ _ upd_same)))
  · exact s5 _ _ upd_same
  · exact s5 _ _ (s4 _ _ upd_same)
def spLDue : Sp := fun vs H Q _ => ∃ (vn : V) (ar : Addr) (us : List V) (d : Dn) (AR : List Dn) (sd : Addr) (kvs : List (Key × V)) (pl : Addr) (pv : List Str) (ks : List Dn) (tb : Tb), vs = [vn, .ref ar, .ref sd, .ref pl] ∧ (d, AR) ∈ anS [] ks ∧ (numS ks).Nodup ∧ shutD (AR ++ [d]) = false ∧ NdA H vn d ∧ H ar = some (.lst us) ∧ NdAs H us AR ∧ AR.length ≤ 1000 ∧ H sd = some (.dK kvs) ∧ (∀ d' ∈ flS ks, valV kvs (.inl d'.num) = some (shV tb d'.num)) ∧ H pl = some (.lst (pv.map V.str)) ∧ BT ks tb ∧ NbT tb ∧
  ∀ t sl cl us' cs' H', Same H H' → H' t = some (.tup [.ref sl, .ref cl]) → H' sl = some (.lst us') → H' cl = some (.lst cs') → Paired (EvA H') us' (clk ks tb (pkC pv) d AR).1 → Paired (CgA H') cs' (chg ks tb (pkC pv) d AR).toList → Q (.ref t) H'
section
variable {P : Program} {w : World} {K : PySem.W.Frag} {mg : Str → Option Value} {base : Heap} {C : Ad}
theorem sc__law_due : FnScope ["node", "around", "shown", "prevented", "sent", "part", "changes", "value", "select"] ["node", "around", "shown", "prevented"] (defScope s__law_due) := ⟨rfl, rfl, rfl, by decide +kernel, rfl, by decide +kernel, by decide +kernel⟩
theorem ok_ldue (T : Txt K w mg C) : Cal P w K mg base 7 "_law_due" spLDue := by
  have G_law_part := ok_lpart (P := P) (base := base) T
  have G_law_select := ok_lsel (P := P) (base := base) T
  have G_law_bound := ok_lbound (P := P) (base := base) T
  have G_law_attribute := ok_lattr (P := P) (base := base) T
  refine cal_of T.d__law_due sc__law_due (fun vs H Q E h => ?_) (fun f cdv A outer s H vs Q E hr h => ?_)
  · obtain ⟨vn, ar, us, d, AR, sd, kvs, pl, prv, ks, tb, rfl, _⟩ := h
    rfl
  · obtain ⟨vn, ar, us, d, AR, sd, kvs, pl, prv, ks, tb, rfl, hp, nd, hsh, hd, har, hus, hAL, hsd, hkv, hpl, bt, nbt, q⟩ := h
    have hu := hu_of hr
    have big : 100000 < sizeLine := by decide
    have ul := hus.len
    obtain ⟨b, ys, eb, hb⟩ := hd.at
    subst eb
    refine ⟨_, (pss_cons (ps_set (i := 4) sc__law_due.nd rfl (Or.inl rfl) (pe_lst (pa_cons (pe_tup (pa_cons (pe_ix ix_tup (pv 0) pe_int (fun _ _ => rfl)) (pa_cons pe_str (pa_cons pe_dnewK pa_nil)))) pa_nil))) (pss_cons (ps_set (i := 5) sc__law_due.nd rfl (Or.inl rfl) (pe_c G_law_part hr (by decide) (by rfl) (pa_cons (pv 0) (pa_cons (pv 1) pa_nil)))) (pss_cons (ps_set (i := 6) sc__law_due.nd rfl (Or.inl rfl) (pe_lst pa_nil)) (pss_cons (ps_if (PW.pt (pw_or (pt_cmpR op_in_seq pe_str (pv 3) rfl) (pw_or1 (pt_cmp (pc_isN (pv 5)))))) (pss_one (ps_ret (pe_tup (pa_cons (pv 4) (pa_cons (pv 6) pa_nil))))) pss_nil) (pss_cons (ps_if (pt_cmpR op_ne (pe_ix ix_tup (pv 5) pe_int (fun _ _ => rfl)) pe_str (nomark _)) (pss_cons (ps_set (i := 7) sc__law_due.nd rfl (Or.inl rfl) (pe_not (pe_dget hu (pv 2) (pe_ix ix_tup (pv 5) pe_int (fun _ _ => rfl)) (fun _ _ => rfl)))) (C8.pss_cut (ps_if (pt_cmp (pc_notN (pe_c G_law_bound hr (by decide) (by rfl) (pa_cons (pv 5) pa_nil)))) (pss_one (ps_set (i := 7) sc__law_due.nd rfl (Or.inl rfl) (pe_cmpR op_eq (pe_c G_law_bound hr (by decide) (by rfl) (pa_cons (pv 5) pa_nil)) pe_str (nomark _)))) pss_nil) (pss_cons (ps_set (i := 4) sc__law_due.nd rfl (Or.inl rfl) (pe_op op_cat (pv 4) (pe_lst (pa_cons (pe_tup (pa_cons (pe_ix ix_tup (pv 5) pe_int (fun _ _ => rfl)) (pa_cons pe_str (pa_cons pe_dnewK pa_nil)))) (pa_cons (pe_tup (pa_cons (pe_ix ix_tup (pv 5) pe_int (fun _ _ => rfl)) (pa_cons pe_str (pa_cons pe_dnewK pa_nil)))) pa_nil))))) (pss_one (ps_ret (pe_tup (pa_cons (pv 4) (pa_cons (pe_lst (pa_cons (pe_tup (pa_cons (pe_ix ix_tup (pv 5) pe_int (fun _ _ => rfl)) (pa_cons (pv 7) pa_nil))) pa_nil)) pa_nil)))))))) pss_nil) (pss_cons (ps_set (i := 8) sc__law_due.nd rfl (Or.inl rfl) (pe_c G_law_select hr (by decide) (by rfl) (pa_cons (pe_op op_cat (pv 1) (pe_lst (pa_cons (pv 0) pa_nil))) (pa_cons (pv 5) pa_nil)))) (pss_cons (ps_if (pt_cmp (pc_isN (pv 8))) (pss_one (ps_ret (pe_tup (pa_cons (pv 4) (pa_cons (pv 6) pa_nil))))) pss_nil) (pss_cons (ps_set (i := 7) sc__law_due.nd rfl (Or.inl rfl) (pe_c G_law_attribute hr (by decide) (by rfl) (pa_cons (pv 5) (pa_cons pe_str pa_nil)))) (C8.pss_cut (ps_set (i := 7) sc__law_due.nd rfl (Or.inl rfl) (pe_ifExp (pt_cmp (pc_isN (pv 7))) pe_str (pv 7))) (pss_cons (ps_if (pt_cmpR op_ne (pe_dget hu (pv 2) (pe_ix ix_tup (pv 8) pe_int (fun _ _ => rfl)) (fun _ _ => rfl)) (pv 7) (nomark _)) (pss_cons (ps_set (i := 4) sc__law_due.nd rfl (Or.inl rfl) (pe_op op_cat (pv 4) (pe_lst (pa_cons (pe_tup (pa_cons (pe_ix ix_tup (pv 8) pe_int (fun _ _ => rfl)) (pa_cons pe_str (pa_cons pe_dnewK pa_nil)))) (pa_cons (pe_tup (pa_cons (pe_ix ix_tup (pv 8) pe_int (fun _ _ => rfl)) (pa_cons pe_str (pa_cons pe_dnewK pa_nil)))) pa_nil))))) (pss_one (ps_if (pt_cmp (pc_isN (pe_c G_law_bound hr (by decide) (by rfl) (pa_cons (pv 8) pa_nil)))) (pss_one (ps_set (i := 6) sc__law_due.nd rfl (Or.inl rfl) (pe_lst (pa_cons (pe_tup (pa_cons (pe_ix ix_tup (pv 8) pe_int (fun _ _ => rfl)) (pa_cons (pv 7) pa_nil))) pa_nil)))) pss_nil))) pss_nil) (pss_one (ps_ret (pe_tup (pa_cons (pv 4) (pa_cons (pv 6) pa_nil))))))))))))))), ?_⟩
    refine ⟨_, rfl, b, _, _, _, rfl, rfl, SqT.of hb, at_1, fun d1 hd1 => ⟨by show 3 ≤ sizeLine; decide, fun t1 ht1 => ⟨by show 1 ≤ sizeLine; decide, fun sl hsl => ?_⟩⟩⟩
    have s1 := Sm.new (o := .dK []) hd1
    have s2 := Sm.new (o := .tup [.int d.num, .str "click", .ref d1]) ht1
    have s3 := Sm.new (o := .lst [.ref t1]) hsl
    have sH1 := Same.trans s1 (Same.trans s2 s3)
    have ev1 : Paired (EvA (upd (upd (upd H d1 (.dK [])) t1 (.tup [.int d.num, .str "click", .ref d1])) sl (.lst [.ref t1]))) [.ref t1] (ckE d.num) := .cons ⟨t1, d1, rfl, s3 _ _ upd_same, s3 _ _ (s2 _ _ upd_same)⟩ .nil
    have hsl1 : upd (upd (upd H d1 (.dK [])) t1 (.tup [.int d.num, .str "click", .ref d1])) sl (.lst [.ref t1]) sl = some (.lst [.ref t1]) := upd_same
    clear s1 s2 s3
    generalize upd (upd (upd H d1 (.dK [])) t1 (.tup [.int d.num, .str "click", .ref d1])) sl (.lst [.ref t1]) = H1 at sH1 ev1 hsl1 ⊢
    refine ⟨_, rfl, _, rfl, .ref b, ar, us, d, AR, rfl, hd.same sH1, sH1 _ _ har, hus.same sH1, hAL, fun H2 s2 => ⟨fun hn => ?_, fun u e ha hue => ?_⟩⟩
    · have sH2 := Same.trans sH1 s2
      refine ⟨by show 0 ≤ sizeLine; decide, fun cl hcl => ?_⟩
      have s3 := Sm.new (o := .lst []) hcl
      refine ⟨_, rfl, pl, _, rfl, .inl (SqL.of (s3 _ _ (sH2 _ _ hpl))), rfl, flat_strs _, _, rfl, ?_⟩
      have fin : ∀ (t : Addr) (ht : upd H2 cl (.lst []) t = none), Q (.ref t) (upd (upd H2 cl (.lst [])) t (.tup [.ref sl, .ref cl])) := fun t ht => by
        have s4 := Sm.new (o := .tup [.ref sl, .ref cl]) ht
        have s14 := Same.trans s2 (Same.trans s3 s4)
        refine q t sl cl [.ref t1] [] _ (Same.trans sH1 s14) upd_same (s14 _ _ hsl1) (s4 _ _ upd_same) ?_ ?_
        · unfold clk
          rw [hn]
          exact EvA.same ev1 s14
        · unfold chg
          rw [hn]
          exact .nil
      rw [show inV (.str "click") (prv.map V.str) = pkC prv from inV_s "click" prv]
      cases hpk : pkC prv with
      | true => exact iteT (iteT ⟨_, rfl, _, rfl, by show 2 ≤ sizeLine; decide, fin⟩)
      | false => exact iteF ⟨_, rfl, true, rfl, iteT ⟨_, rfl, _, rfl, by show 2 ≤ sizeLine; decide, fin⟩⟩
    · have sH2 := Same.trans sH1 s2
      obtain ⟨hf, j, hj, hB⟩ := act_some hp ha
      have hef := mem_flS hB
      have hbe := bef_at nd hp hj
      have hue2 := hue.same s2
      refine ⟨by show 0 ≤ sizeLine; decide, fun cl hcl => ?_⟩
      have s3 := Sm.new (o := .lst []) hcl
      have hcl3 : upd H2 cl (.lst []) cl = some (.lst []) := upd_same
      have sH3 := Same.trans sH2 s3
      have s13 := Same.trans s2 s3
      refine ⟨_, rfl, pl, _, rfl, .inl (SqL.of (sH3 _ _ hpl)), rfl, flat_strs _, _, rfl, ?_⟩
      generalize upd H2 cl (.lst []) = H3 at s3 hcl3 sH3 s13 ⊢
      rw [show inV (.str "click") (prv.map V.str) = pkC prv from inV_s "click" prv]
      have hue3 := hue2.same s3
      have ev3 := EvA.same ev1 s13
      have hsl3 := s13 _ _ hsl1
      cases hpk : pkC prv with
      | true =>
        refine iteT (iteT ⟨_, rfl, _, rfl, by show 2 ≤ sizeLine; decide, fun t ht => ?_⟩)
        have s4 := Sm.new (o := .tup [.ref sl, .ref cl]) ht
        refine q t sl cl [.ref t1] [] _ (Same.trans sH3 s4) upd_same (s4 _ _ hsl3) (s4 _ _ hcl3) ?_ ?_
        · unfold clk
          rw [ha, hpk]
          exact EvA.same ev3 s4
        · unfold chg
          rw [ha, hpk]
          exact .nil
      | false =>
        have hue4 := hue3
        cases hue4 with
        | @tx b' m y h2 => exact absurd hf (by show ¬ actF (Dn.tx m y) = true; exact fun z => by have : (false : Bool) = true := z; cases this)
        | @el b' pk m tg va as vs kk h1 hA' hk hs =>
          refine iteF ⟨_, rfl, false, rfl, iteF ?_⟩
          refine ⟨_, rfl, b', _, _, _, rfl, rfl, SqT.of h1, rfl, rfl, _, rfl, ?_⟩
          by_cases ct : tg = "option"
          · have ho : isOpt (.el m tg as kk) = true := by
              show (true && decide (tg = "option")) = true
              rw [decide_eq_true ct]
              rfl
            rw [decide_eq_true (show V.str tg = V.str "option" by rw [ct])]
            refine iteF ?_
            have hbH3 := sH3 _ _ (hd.at.choose_spec.choose_spec.2)
            refine ⟨_, rfl, _, rfl, by show 1 ≤ sizeLine; decide, fun e0 he0 => ?_⟩
            have u1 := Sm.new (o := .lst [V.ref b]) he0
            have nus := (hus.same sH3).app (.cons (hd.same sH3) .nil)
            refine ⟨ar, e0, us, [.ref b], rfl, rfl, u1 _ _ (sH3 _ _ har), upd_same, by show us.length + 1 ≤ _; omega, fun c0 hc0 => ?_⟩
            have s4 := Same.trans u1 (Sm.new (o := .lst (us ++ [V.ref b])) hc0)
            have hcc : upd (upd H3 e0 (.lst [.ref b])) c0 (.lst (us ++ [.ref b])) c0 = some (.lst (us ++ [.ref b])) := upd_same
            generalize upd (upd H3 e0 (.lst [.ref b])) c0 (.lst (us ++ [.ref b])) = H4 at s4 hcc ⊢
            refine ⟨_, rfl, c0, .ref b', us ++ [.ref b], _, AR ++ [d], rfl, hcc, nus.same s4, hue3.same s4, fun hn => ?_, fun u s hs hsn => ?_⟩
            · rw [hbe] at hn
              refine ⟨_, rfl, true, rfl, iteT ⟨_, rfl, _, rfl, by show 2 ≤ sizeLine; decide, fun t ht => ?_⟩⟩
              have s5 := Sm.new (o := .tup [.ref sl, .ref cl]) ht
              have s45 := Same.trans s4 s5
              refine q t sl cl [.ref t1] [] _ (Same.trans sH3 s45) upd_same (s45 _ _ hsl3) (s45 _ _ hcl3) ?_ ?_
              · unfold clk
                rw [ha, hpk]
                dsimp only
                rw [if_neg (by decide), ho, if_pos rfl, hbe, hn]
                exact EvA.same ev3 s45
              · unfold chg
                rw [ha, hpk]
                dsimp only
                rw [if_neg (by decide), ho, if_pos rfl, hbe, hn]
                exact .nil
            · rw [hbe] at hs
              obtain ⟨hk, hsf, hes, j2, hj2, hB2⟩ := sel_some hB hs
              obtain ⟨bs, yss, rfl, hbs⟩ := hsn.at
              refine ⟨_, rfl, false, rfl, iteF ?_⟩
              refine ⟨_, rfl, .ref b', .el m tg as kk, "value", rfl, hue3.same s4, rfl, ?_⟩
              refine ⟨fun σ' H' => H' = H4 ∧ σ' = [some (.ref b), some (.ref ar), some (.ref sd), some (.ref pl), some (.ref sl), some (.ref b'), some (.ref cl), some (.str (optV (.el m tg as kk))), some (.ref bs)], ?_, ?_⟩
              · unfold optV
                rcases attrD_cases as "value" with e | ⟨y, e⟩
                · have e' : attrD (Dn.el m tg as kk).as "value" = .non := e
                  rw [e']
                  exact ⟨_, rfl, true, rfl, iteT ⟨rfl, rfl⟩⟩
                · have e' : attrD (Dn.el m tg as kk).as "value" = .str y := e
                  rw [e']
                  exact ⟨_, rfl, false, rfl, iteF ⟨_, rfl, rfl, rfl⟩⟩
              · rintro σ' H5 ⟨rfl, rfl⟩
                have dg := DGet.k (H := H5) (k := .inl s.num) (s4 _ _ (sH3 _ _ hsd))
                rw [show valV kvs (.inl s.num) = some (shV tb s.num) from hkv _ hsf] at dg
                have nbq : nbs (shV tb s.num) := shV_nbs nbt
                refine ⟨_, rfl, _, rfl, bs, _, _, _, rfl, rfl, SqT.of hbs, at_1, sd, _, rfl, dg, _, rfl, nbs_scal nbq (.inr (.inr ⟨_, rfl⟩)), _, rfl, ?_⟩
                have hds : disD ks s.num = false := by
                  have e1 : disD ks s.num = shutD (((AR ++ [d]).take j).take j2 ++ [s]) := shut_at nd hB2
                  rw [e1, show ((AR ++ [d]).take j).take j2 ++ [s] = ((AR ++ [d]).take j).take (j2 + 1) by rw [List.take_add_one, hj2]; rfl]
                  exact shut_take (shut_take hsh _) _
                by_cases cv : shV tb s.num = .str (optV (.el m tg as kk))
                · rw [show (!decide (shV tb s.num = .str (optV (.el m tg as kk)))) = false by rw [decide_eq_true cv]; rfl]
                  refine iteF ⟨_, rfl, _, rfl, by show 2 ≤ sizeLine; decide, fun t ht => ?_⟩
                  have s5 := Sm.new (o := .tup [.ref sl, .ref cl]) ht
                  have s45 := Same.trans s4 s5
                  refine q t sl cl [.ref t1] [] _ (Same.trans sH3 s45) upd_same (s45 _ _ hsl3) (s45 _ _ hcl3) ?_ ?_
                  · unfold clk
                    rw [ha, hpk]
                    dsimp only
                    rw [if_neg (by decide), ho, if_pos rfl, hbe, hs]
                    dsimp only
                    rw [show setY ks tb s.num sS (optV (.el m tg as kk)) = [] from if_pos cv, List.append_nil]
                    exact EvA.same ev3 s45
                  · unfold chg
                    rw [ha, hpk]
                    dsimp only
                    rw [if_neg (by decide), ho, if_pos rfl, hbe, hs]
                    dsimp only
                    rw [if_pos cv]
                    exact .nil
                · rw [show (!decide (shV tb s.num = .str (optV (.el m tg as kk)))) = true by rw [decide_eq_false cv]; rfl]
                  have eY : setY ks tb s.num sS (optV (.el m tg as kk)) = [(s.num, ("input" : Str), []), (s.num, ("change" : Str), [])] := by
                    have e1 : setY ks tb s.num sS (optV (.el m tg as kk)) = setE ks s.num sS := if_neg cv
                    rw [e1]
                    unfold setE sendE
                    rw [hds]
                    rfl
                  refine iteT ?_
                  refine ⟨_, rfl, _, rfl, bs, _, _, _, rfl, rfl, SqT.of hbs, at_1, fun d2 hd2 => ⟨by show 3 ≤ sizeLine; decide, fun t2 ht2 => ?_⟩⟩
                  have u2 := Sm.new (o := .dK []) hd2
                  have u3 := Sm.new (o := .tup [.int s.num, .str "input", .ref d2]) ht2
                  refine ⟨_, rfl, bs, _, _, _, rfl, rfl, SqT.of (u3 _ _ (u2 _ _ hbs)), at_1, fun d3 hd3 => ⟨by show 3 ≤ sizeLine; decide, fun t3 ht3 => ⟨by show 2 ≤ sizeLine; decide, fun l2 hl2 => ?_⟩⟩⟩
                  obtain ⟨s5, hl5, ev5⟩ := two_lay hd2 ht2 hd3 ht3 hl2
                  clear u2 u3
                  unfold two at s5 hl5 ev5
                  refine ⟨sl, l2, _, _, rfl, rfl, s5 _ _ (s4 _ _ hsl3), hl5, by show 3 ≤ _; omega, fun c5 hc5 => ?_⟩
                  have s6 := Sm.new (o := .lst ([V.ref t1] ++ [.ref t2, .ref t3])) hc5
                  have hc6 : upd (upd (upd (upd (upd (upd H5 d2 (.dK [])) t2 (.tup [.int s.num, .str "input", .ref d2])) d3 (.dK [])) t3 (.tup [.int s.num, .str "change", .ref d3])) l2 (.lst [.ref t2, .ref t3])) c5 (.lst ([V.ref t1] ++ [.ref t2, .ref t3])) c5 = some (.lst ([V.ref t1] ++ [.ref t2, .ref t3])) := upd_same
                  have s46 := Same.trans s5 s6
                  have ev6 := EvA.same ev5 s6
                  show tSeq _ _ _ _ (upd (upd (upd (upd (upd (upd H5 d2 (.dK [])) t2 (.tup [.int s.num, .str "input", .ref d2])) d3 (.dK [])) t3 (.tup [.int s.num, .str "change", .ref d3])) l2 (.lst [.ref t2, .ref t3])) c5 (.lst ([V.ref t1] ++ [.ref t2, .ref t3])))
                  generalize upd (upd (upd (upd (upd (upd H5 d2 (.dK [])) t2 (.tup [.int s.num, .str "input", .ref d2])) d3 (.dK [])) t3 (.tup [.int s.num, .str "change", .ref d3])) l2 (.lst [.ref t2, .ref t3])) c5 (.lst ([V.ref t1] ++ [.ref t2, .ref t3])) = H6 at s46 hc6 ev6 ⊢
                  clear s5 hl5 ev5 s6
                  have ev01 := EvA.same ev3 (Same.trans s4 s46)
                  refine ⟨_, rfl, .ref bs, s, sS, rfl, hsn.same s46, hk, fun H7 s7 => ?_⟩
                  have s57 := Same.trans s46 s7
                  have eclk : ∀ H', Same H7 H' → Paired (EvA H') [.ref t1, .ref t2, .ref t3] (clk ks tb (pkC prv) d AR).1 := fun H' s' => by
                    unfold clk
                    rw [ha, hpk]
                    dsimp only
                    rw [if_neg (by decide), ho, if_pos rfl, hbe, hs]
                    dsimp only
                    rw [eY]
                    exact EvA.same (paired_app ev01 ev6) (Same.trans s7 s')
                  have echg : chg ks tb (pkC prv) d AR = if boundD s sS = .non then some (s.num, .str (optV (.el m tg as kk))) else none := by
                    unfold chg
                    rw [ha, hpk]
                    dsimp only
                    rw [if_neg (by decide), ho, if_pos rfl, hbe, hs]
                    dsimp only
                    rw [if_neg cv]
                  by_cases cb : boundD s sS = .non
                  · rw [cb]
                    refine ⟨_, rfl, iteT ?_⟩
                    have h17 := s57 _ _ hbs
                    refine ⟨_, rfl, bs, _, _, _, rfl, rfl, SqT.of h17, at_1, _, rfl, by show 2 ≤ sizeLine; decide, fun t4 ht4 => ⟨by show 1 ≤ sizeLine; decide, fun l3 hl3 => ⟨_, rfl, _, rfl, by show 2 ≤ sizeLine; decide, fun t ht => ?_⟩⟩⟩
                    have v1 := Sm.new (o := .tup [.int s.num, .str (optV (.el m tg as kk))]) ht4
                    have v2 := Sm.new (o := .lst [.ref t4]) hl3
                    have v3 := Sm.new (o := .tup [.ref c5, .ref l3]) ht
                    have v23 := Same.trans v2 v3
                    have v13 := Same.trans v1 v23
                    refine q t c5 l3 _ [.ref t4] _ (Same.trans sH3 (Same.trans s4 (Same.trans s57 v13))) upd_same (v13 _ _ (s7 _ _ hc6)) (v3 _ _ upd_same) (eclk _ v13) ?_
                    rw [echg, if_pos cb]
                    exact .cons ⟨t4, rfl, v23 _ _ upd_same⟩ .nil
                  · have tn : ∃ y, boundD s sS = .str y := by
                      rcases attrD_cases s.as (if sS = "box" then "checked" else "value") with e | ⟨y, e⟩
                      · exact absurd e cb
                      · exact ⟨y, e⟩
                    obtain ⟨y, ey⟩ := tn
                    rw [ey]
                    refine ⟨_, rfl, iteF ⟨_, rfl, _, rfl, by show 2 ≤ sizeLine; decide, fun t ht => ?_⟩⟩
                    have v3 := Sm.new (o := .tup [.ref c5, .ref cl]) ht
                    refine q t c5 cl _ [] _ (Same.trans sH3 (Same.trans s4 (Same.trans s57 v3))) upd_same (v3 _ _ (s7 _ _ hc6)) (v3 _ _ (s57 _ _ (s4 _ _ hcl3))) (eclk _ v3) ?_
                    rw [echg, if_neg cb]
                    exact .nil
          · have ho : isOpt (.el m tg as kk) = false := by
              show (true && decide (tg = "option")) = false
              rw [decide_eq_false ct]
              rfl
            have hkb : kindD (.el m tg as kk) = some bS := by
              unfold actF at hf
              rw [ho, Bool.false_or] at hf
              exact of_decide_eq_true hf
            obtain ⟨bb, sv⟩ := bt _ hef hkb
            rw [decide_eq_false (show ¬ V.str tg = V.str "option" from fun z => ct (V.str.inj z))]
            refine iteT ?_
            have dg := DGet.k (H := H3) (k := .inl m) (sH3 _ _ hsd)
            rw [show valV kvs (.inl m) = some (.bl bb) by rw [← sv]; exact hkv _ hef] at dg
            refine ⟨_, rfl, _, rfl, b', _, _, _, rfl, rfl, SqT.of h1, at_1, sd, _, rfl, dg, bb, rfl, ?_⟩
            refine ⟨fun σ' H' => Same H3 H' ∧ σ' = [some (.ref b), some (.ref ar), some (.ref sd), some (.ref pl), some (.ref sl), some (.ref b'), some (.ref cl), some (boxV (.el m tg as kk) (!bb)), none], ?_, ?_⟩
            · refine ⟨_, rfl, .ref b', _, bS, rfl, hue3, hkb, fun H4 s4 => ?_⟩
              by_cases cb : boundD (.el m tg as kk) bS = .non
              · rw [cb]
                refine ⟨_, rfl, iteF ⟨s4, ?_⟩⟩
                unfold boxV
                rw [if_pos cb]
                rfl
              · obtain ⟨y, ey⟩ : ∃ y, boundD (.el m tg as kk) bS = .str y := by
                  rcases attrD_cases as (if bS = "box" then "checked" else "value") with e | ⟨y, e⟩
                  · exact absurd e cb
                  · exact ⟨y, e⟩
                rw [ey]
                refine ⟨_, rfl, iteT ?_⟩
                refine ⟨_, rfl, .ref b', _, bS, rfl, hue3.same s4, hkb, fun H5 s5 => ?_⟩
                rw [ey]
                refine ⟨rfl, Same.trans s4 s5, ?_⟩
                unfold boxV
                rw [ey, if_neg (by exact nofun)]
                rfl
            · rintro σ' H4 ⟨s4, rfl⟩
              have hsl4 := s4 _ _ hsl3
              have h14 := s4 _ _ h1
              refine ⟨_, rfl, _, rfl, b', _, _, _, rfl, rfl, SqT.of h14, at_1, fun d2 hd2 => ⟨by show 3 ≤ sizeLine; decide, fun t2 ht2 => ?_⟩⟩
              have u2 := Sm.new (o := .dK []) hd2
              have u3 := Sm.new (o := .tup [.int m, .str "input", .ref d2]) ht2
              refine ⟨_, rfl, b', _, _, _, rfl, rfl, SqT.of (u3 _ _ (u2 _ _ h14)), at_1, fun d3 hd3 => ⟨by show 3 ≤ sizeLine; decide, fun t3 ht3 => ⟨by show 2 ≤ sizeLine; decide, fun l2 hl2 => ?_⟩⟩⟩
              obtain ⟨s5, hl5, ev5⟩ := two_lay hd2 ht2 hd3 ht3 hl2
              clear u2 u3
              unfold two at s5 hl5 ev5
              refine ⟨sl, l2, _, _, rfl, rfl, s5 _ _ hsl4, hl5, by show 3 ≤ _; omega, fun c5 hc5 => ?_⟩
              have s6 := Sm.new (o := .lst ([V.ref t1] ++ [.ref t2, .ref t3])) hc5
              have hc6 : upd (upd (upd (upd (upd (upd H4 d2 (.dK [])) t2 (.tup [.int m, .str "input", .ref d2])) d3 (.dK [])) t3 (.tup [.int m, .str "change", .ref d3])) l2 (.lst [.ref t2, .ref t3])) c5 (.lst ([V.ref t1] ++ [.ref t2, .ref t3])) c5 = some (.lst ([V.ref t1] ++ [.ref t2, .ref t3])) := upd_same
              have s46 := Same.trans s5 s6
              have ev6 := EvA.same ev5 s6
              show tSeq _ _ _ _ (upd (upd (upd (upd (upd (upd H4 d2 (.dK [])) t2 (.tup [.int m, .str "input", .ref d2])) d3 (.dK [])) t3 (.tup [.int m, .str "change", .ref d3])) l2 (.lst [.ref t2, .ref t3])) c5 (.lst ([V.ref t1] ++ [.ref t2, .ref t3])))
              generalize upd (upd (upd (upd (upd (upd H4 d2 (.dK [])) t2 (.tup [.int m, .str "input", .ref d2])) d3 (.dK [])) t3 (.tup [.int m, .str "change", .ref d3])) l2 (.lst [.ref t2, .ref t3])) c5 (.lst ([V.ref t1] ++ [.ref t2, .ref t3])) = H6 at s46 hc6 ev6 ⊢
              clear s5 hl5 ev5 s6
              have ev01 := EvA.same ev3 (Same.trans s4 s46)
              have h16 := s46 _ _ h14
              refine ⟨_, rfl, _, rfl, b', _, _, _, rfl, rfl, SqT.of h16, at_1, _, rfl, by show 2 ≤ sizeLine; decide, fun t4 ht4 => ⟨by show 1 ≤ sizeLine; decide, fun l3 hl3 => ⟨by show 2 ≤ sizeLine; decide, fun t ht => ?_⟩⟩⟩
              have v1 := Sm.new (o := .tup [.int m, boxV (.el m tg as kk) (!bb)]) ht4
              have v2 := Sm.new (o := .lst [.ref t4]) hl3
              have v3 := Sm.new (o := .tup [.ref c5, .ref l3]) ht
              have v23 := Same.trans v2 v3
              have v13 := Same.trans v1 v23
              refine q t c5 l3 _ [.ref t4] _ (Same.trans sH3 (Same.trans s4 (Same.trans s46 v13))) upd_same (v13 _ _ hc6) (v3 _ _ upd_same) ?_ ?_
              · unfold clk
                rw [ha, hpk]
                dsimp only
                rw [if_neg (by decide), ho, if_neg (by decide)]
                exact EvA.same (paired_app ev01 ev6) v13
              · unfold chg
                rw [ha, hpk]
                dsimp only
                rw [if_neg (by decide), ho, if_neg (by decide), show shV tb (Dn.el m tg as kk).num = .bl bb from sv]
                exact .cons ⟨t4, rfl, v23 _ _ upd_same⟩ .nil
end
end VL

set_option Elab.async false
set_option linter.all false
set_option pp.maxSteps 700
set_option maxRecDepth 100000
set_option maxHeartbeats 4000000
namespace VL
open PySem PySem.Spec PyProof.Rows L2
def spLaw (K : PySem.W.Frag) : Sp := fun vs H Q _ => ∃ (a : Addr) (ns : List Int), vs = [.ref a] ∧ SqL K H a (ns.map V.int) ∧ ns.length ≤ 63 ∧ ∀ H', Q (.bl true) H'
def vD : V → PyData
  | .str x => .str x
  | _ => .none
def evD (e : Ev) : PyData := .tuple [.int e.1, .str e.2.1, .dict (zipK e.2.2 (e.2.2.map fun p => vD p.2))]
theorem str_dqs {H : Hp} : ∀ {l : List (Key × V)}, (∀ p ∈ l, ∃ y, p.2 = .str y) → DqAll H (l.map (·.2)) (l.map fun p => vD p.2)
  | [], _ => .nil
  | (k, v) :: l, h => by
    obtain ⟨y, e⟩ := h _ List.mem_cons_self
    have e : v = .str y := e
    subst e
    exact .cons (.str y) (str_dqs fun p hp => h p (List.mem_cons_of_mem _ hp))
theorem ev_dq {H : Hp} {vs : List V} {es : List Ev} (h : Paired (EvA H) vs es) (he : ∀ e ∈ es, StrK e.2.2) : DqAll H vs (es.map evD) := by
  induction h with
  | nil => exact .nil
  | @cons v e vs es hv hr ih =>
    obtain ⟨t, d, rfl, h1, h2⟩ := hv
    have e0 := he e List.mem_cons_self
    exact .cons (.tup h1 (.cons (.int _) (.cons (.str _) (.cons (.dic h2 e0.1 (str_dqs e0.2.1)) .nil)))) (ih fun e he' => he e (List.mem_cons_of_mem _ he'))
theorem zk_depth : ∀ {l : List (Key × V)}, (∀ p ∈ l, ∃ y, p.2 = .str y) → PyData.depthKv (zipK l (l.map fun p => vD p.2)) = 0
  | [], _ => rfl
  | (k, v) :: l, h => by
    obtain ⟨y, e⟩ := h _ List.mem_cons_self
    have e : v = .str y := e
    subst e
    have ih := zk_depth (l := l) fun p hp => h p (List.mem_cons_of_mem _ hp)
    show max (max (PyData.depth (enK k)) (PyData.depth (.str y))) (PyData.depthKv (zipK l (l.map fun p => vD p.2))) = 0
    rw [ih]
    cases k <;> rfl
theorem ev_depth {es : List Ev} (he : ∀ e ∈ es, StrK e.2.2) : PyData.depthAll (es.map evD) ≤ 60 := dpAll_mem fun d hd => by
  obtain ⟨e, hm, rfl⟩ := List.mem_map.mp hd
  have := zk_depth (he e hm).2.1
  show PyData.depth (.tuple [.int e.1, .str e.2.1, .dict (zipK e.2.2 (e.2.2.map fun p => vD p.2))]) ≤ 60
  simp [PyData.depth, PyData.depthAll, this]
theorem paired_drop {α β : Type} {R : α → β → Prop} : ∀ {xs : List α} {ys : List β} (n : Nat), Paired R xs ys → Paired R (xs.drop n) (ys.drop n)
  | _, _, 0, h => h
  | _, _, _ + 1, .nil => .nil
  | _, _, n + 1, .cons _ t => paired_drop n t
theorem at_get {l : List V} {i : Nat} (h : i < l.length) : atI l (i : Int) = some l[i] := by
  unfold atI ixN
  rw [if_pos (by omega), if_pos (by omega)]
  show l[((i : Nat) : Int).toNat]? = _
  rw [Int.toNat_natCast, List.getElem?_eq_getElem h]
theorem RtA.more {C : Ad} {G H H' : Hp} {M : List (Addr × HO)} {r : Addr} {vd : V} {ks : List Dn} {tb : Tb} {es : List Ev} {pv : List Str} (h : RtA C G H M r vd ks tb es pv) (s : Same H H') : ∃ G', RtA C G' H' M r vd ks tb es pv ∧ Same G G' ∧ Same (newer H H') G' := by
  obtain ⟨dr, a, sl, pl, us, hR, ct, ev, hpl, dok, nb⟩ := h
  obtain ⟨G', ct', g, gn⟩ := ct.more s
  exact ⟨G', ⟨dr, a, sl, pl, us, g _ _ hR, ct', EvA.same ev g, g _ _ hpl, dok.same g, nb⟩, g, gn⟩
theorem TldA.same {tb : Tb} {H H' : Hp} {ts : List V} {ps : List (Dn × List Dn)} (h : TldA tb H ts ps) (s : Same H H') : TldA tb H' ts ps := Paired.mono (fun _ _ ⟨t, e, h⟩ => ⟨t, e, s _ _ h⟩) h
theorem cut_drop {xs : List V} {k : Nat} (h : k ≤ xs.length) : cutV xs (some (k : Int)) none = xs.drop k := by
  have e1 : HT.sIx xs.length 0 (some (k : Int)) = k := by
    rw [HT.sIx_nat]
    exact Nat.min_eq_left h
  have e2 : HT.sIx xs.length xs.length none = xs.length := rfl
  unfold cutV
  rw [e1, e2, List.take_of_length_le]
  rw [List.length_drop]
  exact Nat.le_refl _
mutual
theorem allN_of {P : Dn → Prop} : ∀ d : Dn, (∀ e ∈ flN d, P e) → AllD P d
  | .tx n x, h => h _ (by simp [flN])
  | .el n t as ks, h => ⟨h _ (by simp [flN]), allS_of ks fun e he => h e (by simp only [flN, List.mem_cons]; exact .inr he)⟩
theorem allS_of {P : Dn → Prop} : ∀ ks : List Dn, (∀ e ∈ flS ks, P e) → AllS P ks
  | [], _ => trivial
  | d :: r, h => ⟨allN_of d fun e he => h e (by simp only [flS, List.mem_append]; exact .inl he), allS_of r fun e he => h e (by simp only [flS, List.mem_append]; exact .inr he)⟩
end
theorem ev0 : StrK [] := ⟨List.nodup_nil, (fun _ h => nomatch h), Nat.zero_le _⟩
theorem RtA.take {C : Ad} {G H H' : Hp} {M : List (Addr × HO)} {r t : Addr} {o : HO} {vd : V} {ks : List Dn} {tb : Tb} {es : List Ev} {pv : List Str} (h : RtA C G H M r vd ks tb es pv) (s : Same H H') (h0 : H t = none) (h1 : H' t = some o) : RtA C G H' ((t, o) :: M) r vd ks tb es pv := by
  obtain ⟨dr, a, sl, pl, us, hR, ct, h⟩ := h
  exact ⟨dr, a, sl, pl, us, hR, (ct.take s h0 h1).perm (.swap _ _ _), h⟩
theorem RtA.put {C : Ad} {G H : Hp} {M : List (Addr × HO)} {r t : Addr} {o u : HO} {vd : V} {ks : List Dn} {tb : Tb} {es : List Ev} {pv : List Str} (h : RtA C G H ((t, o) :: M) r vd ks tb es pv) : RtA C G (upd H t u) ((t, u) :: M) r vd ks tb es pv := by
  obtain ⟨dr, a, sl, pl, us, hR, ct, h⟩ := h
  exact ⟨dr, a, sl, pl, us, hR, ct.put2, h⟩
theorem RtA.mem {C : Ad} {G H : Hp} {M : List (Addr × HO)} {r : Addr} {vd : V} {ks : List Dn} {tb : Tb} {es : List Ev} {pv : List Str} (h : RtA C G H M r vd ks tb es pv) {p : Addr × HO} (hp : p ∈ M) : H p.1 = some p.2 := by
  obtain ⟨dr, a, sl, pl, us, hR, ct, h⟩ := h
  exact ct.mem (List.mem_cons_of_mem _ hp)
theorem RtA.drop {C : Ad} {G H : Hp} {M : List (Addr × HO)} {r t : Addr} {o : HO} {vd : V} {ks : List Dn} {tb : Tb} {es : List Ev} {pv : List Str} (h : RtA C G H ((t, o) :: M) r vd ks tb es pv) : RtA C (upd G t o) H M r vd ks tb es pv ∧ Same G (upd G t o) := by
  obtain ⟨dr, a, sl, pl, us, hR, ct, ev, hpl, dok, nb⟩ := h
  obtain ⟨ct', g⟩ := (ct.perm (.swap _ _ _)).drop
  exact ⟨⟨dr, a, sl, pl, us, g _ _ hR, ct', EvA.same ev g, g _ _ hpl, dok.same g, nb⟩, g⟩
/-- events without details stay when a dict that is not empty changes -/
theorem EvA.put {H : Hp} {sd : Addr} {kvs : List (Key × V)} {o : HO} (hs : H sd = some (.dK kvs)) (hk : kvs ≠ []) {us : List V} {es : List Ev} (h : Paired (EvA H) us es) (e0 : ∀ e ∈ es, e.2.2 = []) : Paired (EvA (upd H sd o)) us es := by
  induction h with
  | nil => exact .nil
  | @cons v e vs es hv hr ih =>
    obtain ⟨t, d, rfl, h1, h2⟩ := hv
    have e1 := e0 e List.mem_cons_self
    refine .cons ⟨t, d, rfl, ?_, ?_⟩ (ih fun e he => e0 e (List.mem_cons_of_mem _ he))
    · rw [upd_ne (fun z => by rw [z, hs] at h1; cases h1)]
      exact h1
    · rw [upd_ne (fun z => by
        rw [z, hs, e1] at h2
        cases h2
        exact hk rfl)]
      exact h2
def putA (kvs : List (Key × V)) (l : List (Int × V)) : List (Key × V) := l.foldl (fun k x => putK k (.inl x.1) x.2) kvs
theorem putK_nn {kvs : List (Key × V)} {k : Key} {v : V} : putK kvs k v ≠ [] := fun z => by
  have := valV_put kvs k k v
  rw [z, if_pos rfl] at this
  cases this
theorem putA_nn {kvs : List (Key × V)} (h : kvs ≠ []) : ∀ l : List (Int × V), putA kvs l ≠ []
  | [] => h
  | _ :: l => putA_nn putK_nn l
theorem putA_len {kvs : List (Key × V)} : ∀ l : List (Int × V), (putA kvs l).length ≤ kvs.length + l.length
  | [] => Nat.le_refl _
  | x :: l => by
    have h1 := putA_len (kvs := putK kvs (.inl x.1) x.2) l
    have h2 := length_putK kvs (.inl x.1) x.2
    show (putA (putK kvs (.inl x.1) x.2) l).length ≤ kvs.length + (l.length + 1)
    omega
theorem putA_val {kvs : List (Key × V)} {n : Int} : ∀ ch : Option (Int × V), valV (putA kvs ch.toList) (.inl n) = match ch with
    | some x => if n = x.1 then some x.2 else valV kvs (.inl n)
    | none => valV kvs (.inl n)
  | none => rfl
  | some x => by
    show valV (putK kvs (.inl x.1) x.2) (.inl n) = _
    rw [valV_put]
    by_cases c : n = x.1
    · rw [if_pos (by rw [c])]
      exact (if_pos c).symm
    · rw [if_neg (fun z => c (Sum.inl.inj z))]
      exact (if_neg c).symm
theorem clk_e0 {ks : List Dn} {tb : Tb} {pk : Bool} {d : Dn} {AR : List Dn} : ∀ e ∈ (clk ks tb pk d AR).1, e.2.2 = [] := by
  have ck : ∀ e ∈ ckE d.num, e.2.2 = [] := fun e he => by rw [List.mem_singleton.mp he]
  have sE : ∀ (n : Int) (ev : Str), ∀ e ∈ sendE ks n ev [], e.2.2 = [] := fun n ev e he => by
    unfold sendE at he
    split at he
    · exact nomatch he
    · rw [List.mem_singleton.mp he]
  intro e he
  unfold clk at he
  split at he
  · exact ck e he
  · split at he
    · exact ck e he
    · split at he
      · split at he
        · exact ck e he
        · rcases List.mem_append.mp he with he | he
          · exact ck e he
          · unfold setY at he
            split at he
            · exact nomatch he
            · unfold setE at he
              rcases List.mem_append.mp he with he | he
              · exact sE _ _ e he
              · split at he
                · exact sE _ _ e he
                · exact nomatch he
      · rcases List.mem_append.mp he with he | he
        · exact ck e he
        · rcases List.mem_cons.mp he with rfl | he
          · rfl
          · rw [List.mem_singleton.mp he]
theorem setl_box {ks : List Dn} (nd : (numS ks).Nodup) : BT ks (setlT ks []) := fun d hd hk => by
  have e := gt_setl nd [] hd
  rw [hk] at e
  have e := shV_of (k := bS) (v := fixV ks d bS (gt [] d.num)) e
  rw [e, show gt [] d.num = none from rfl]
  unfold fixV
  rw [if_neg (fun z => absurd z.1 (by decide))]
  unfold setV
  split
  · exact ⟨_, rfl⟩
  · exact ⟨_, rfl⟩
/-- what one turn of the law does -/
structure StepC (ks : List Dn) (tb : Tb) (d : Dn) (AR : List Dn) (pk : Bool) (tb' : Tb) (nev : List Ev) (ch : Option (Int × V)) : Prop where
  ok : ClkOk ks tb tb' ch
  e0 : ∀ e ∈ nev, e.2.2 = []
  le : nev.length ≤ 3
  no : shutD (AR ++ [d]) = true → nev = [] ∧ ch = none
  ye : shutD (AR ++ [d]) = false → nev = (clk ks tb pk d AR).1 ∧ ch = chg ks tb pk d AR
section
variable {P : Program} {w : World} {K : PySem.W.Frag} {mg : Str → Option Value} {base : Heap} {C : Ad}
theorem sc_law : FnScope ["script", "rows", "document", "prevented", "root", "pairs", "k", "node", "around", "shown", "pair", "count", "sent", "changes", "due", "number", "value"] ["script"] (defScope s_law) := ⟨rfl, rfl, rfl, by decide +kernel, rfl, by decide +kernel, by decide +kernel⟩
theorem ok_law {f : Addr} {fd : FuncData} (F : Fun K "law" "law" s_law f fd) (T : Txt K w mg C) : FnOk P w K mg base CX0 30 f fd ["script"] (spLaw K) := by
  have G_law_rows := ok_rows (P := P) (base := base) T
  have G_law_document := ok_doc (P := P) (base := base) T
  have G_law_all := lall_N (P := P) (base := base) T 5
  have G_law_shut := ok_shut (P := P) (base := base) T
  have G_law_due := ok_ldue (P := P) (base := base) T
  have Gclick := ok_click (P := P) (base := base) T
  have KRehearsal := ok_initR (P := P) (base := base) T
  have Pcontrols := ok_panel (P := P) (base := base) T
  have Mshown := ok_shown (P := P) (base := base) T
  refine F.ok sc_law (fun vs H Q E h => ?_) (fun cdv A outer s H vs Q E hr h => ?_)
  · obtain ⟨a, ns, rfl, _⟩ := h
    rfl
  · obtain ⟨sa, ns, rfl, hS, hlen, kq⟩ := h
    have hu := hu_of hr
    have big : 10000000 < sizeLine := by decide
    refine ⟨_, (pss_cons (ps_set (i := 1) sc_law.nd rfl (Or.inl rfl) (pe_c G_law_rows hr (by decide) (by rfl) (pa_cons (pv 0) (pa_cons pe_int pa_nil)))) (pss_cons (ps_set (i := 2) sc_law.nd rfl (Or.inl rfl) (pe_c G_law_document hr (by decide) (by rfl) (pa_cons (pv 1) (pa_cons pe_int (pa_cons (pe_op op_add pe_int (pe_op op_mod (pe_callTy call_int1 (by rfl) T.z_int (by decide +kernel) (pa_cons (pe_ix ix_list (pv 1) pe_int (fun _ _ => rfl)) pa_nil)) pe_int)) pa_nil))))) (pss_cons (ps_set (i := 3) sc_law.nd rfl (Or.inl rfl) (pe_ix ix_list (pe_lst (pa_cons (pe_lst (pa_cons pe_str pa_nil)) (pa_cons (pe_lst pa_nil) (pa_cons (pe_lst (pa_cons pe_str (pa_cons pe_str pa_nil))) (pa_cons (pe_lst pa_nil) pa_nil))))) (pe_op op_mod (pe_callTy call_int1 (by rfl) T.z_int (by decide +kernel) (pa_cons (pe_op op_fdiv (pe_ix ix_list (pv 1) pe_int (fun _ _ => rfl)) pe_int) pa_nil)) pe_int) (fun _ _ => rfl))) (pss_cons (ps_set (i := 4) sc_law.nd rfl (Or.inl rfl) (pe_mkK KRehearsal hr (by decide) (by rfl) (pa_cons (pv 2) pa_nil) (pk_cons (pe_callTy call_list_of (by rfl) T.z_list (by decide +kernel) (pa_cons (pv 3) pa_nil)) pk_nil))) (pss_cons (ps_set (i := 5) sc_law.nd rfl (Or.inl rfl) (pe_c G_law_all hr (by decide) (by rfl) (pa_cons (pv 2) (pa_cons (pe_lst pa_nil) pa_nil)))) (pss_cons (ps_for PassesOwn.never rfl (pi_range1 (by rfl) T.z_range (pa_cons (pe_callB call_len_seq (by rfl) T.z_len PySem.boot_len (pa_cons (pv 5) pa_nil)) pa_nil)) (pg_name (i := 6) sc_law.nd rfl (Or.inl rfl)) (pss_cons (ps_asg (pe_ix ix_list (pv 5) (pe_op op_mod (pe_callTy call_int1 (by rfl) T.z_int (by decide +kernel) (pa_cons (pe_ix ix_list (pv 1) (pe_op op_add (pv 6) pe_int) (fun _ _ => rfl)) pa_nil)) (pe_callB call_len_seq (by rfl) T.z_len PySem.boot_len (pa_cons (pv 5) pa_nil))) (fun _ _ => rfl)) (pg_tup rfl (pgs_cons (pg_name (i := 7) sc_law.nd rfl (Or.inl rfl)) (pgs_cons (pg_name (i := 8) sc_law.nd rfl (Or.inl rfl)) pgs_nil)))) (pss_cons (ps_set (i := 9) sc_law.nd rfl (Or.inl rfl) pe_dnewK) (pss_cons (ps_for PassesOwn.never rfl (pi_list (pv 5)) (pg_name (i := 10) sc_law.nd rfl (Or.inl rfl)) (pss_one (ps_dput hu (pv 9) (pe_ix ix_tup (pe_ix ix_tup (pv 10) pe_int (fun _ _ => rfl)) pe_int (fun _ _ => rfl)) (pe_mt Mshown hr (by decide) (pe_pr Pcontrols hr (by decide) (pv 4)) (pa_cons (pe_ix ix_tup (pe_ix ix_tup (pv 10) pe_int (fun _ _ => rfl)) pe_int (fun _ _ => rfl)) pa_nil)) rfl))) (pss_cons (ps_set (i := 11) sc_law.nd rfl (Or.inl rfl) (pe_callB call_len_seq (by rfl) T.z_len PySem.boot_len (pa_cons (pe_fld (pv 4) rfl) pa_nil))) (C8.pss_cut (ps_if (pt_cmp (pc_notN (pe_c Gclick hr (by decide) (by rfl) (pa_cons (pv 4) (pa_cons (pe_ix ix_tup (pv 7) pe_int (fun _ _ => rfl)) pa_nil))))) (pss_one (ps_ret pe_bl)) pss_nil) (pss_cons (ps_set (i := 12) sc_law.nd rfl (Or.inl rfl) (pe_slice sl_list (pe_fld (pv 4) rfl) (po_some (pv 11)) po_none)) (pss_cons (ps_set (i := 13) sc_law.nd rfl (Or.inl rfl) (pe_lst pa_nil)) (pss_cons (ps_set (i := 14) sc_law.nd rfl (Or.inl rfl) (pe_lst pa_nil)) (C8.pss_cut (ps_if (pt_not (pt_val (pe_c G_law_shut hr (by decide) (by rfl) (pa_cons (pv 7) (pa_cons (pv 8) pa_nil))))) (pss_one (ps_asg (pe_c G_law_due hr (by decide) (by rfl) (pa_cons (pv 7) (pa_cons (pv 8) (pa_cons (pv 9) (pa_cons (pv 3) pa_nil))))) (pg_tup rfl (pgs_cons (pg_name (i := 14) sc_law.nd rfl (Or.inl rfl)) (pgs_cons (pg_name (i := 13) sc_law.nd rfl (Or.inl rfl)) pgs_nil))))) pss_nil) (pss_cons (ps_for PassesOwn.never rfl (pi_list (pv 13)) (pg_tup rfl (pgs_cons (pg_name (i := 15) sc_law.nd rfl (Or.inl rfl)) (pgs_cons (pg_name (i := 16) sc_law.nd rfl (Or.inl rfl)) pgs_nil))) (pss_one (ps_dput hu (pv 9) (pv 15) (pv 16) rfl))) (pss_cons (ps_if (pt_cmpR (op_neQ hr.units) (pv 12) (pv 14) (nomark _)) (pss_one (ps_ret pe_bl)) pss_nil) (pss_one (ps_for PassesOwn.never rfl (pi_list (pv 5)) (pg_name (i := 10) sc_law.nd rfl (Or.inl rfl)) (pss_one (ps_if (pt_cmpR op_ne (pe_mt Mshown hr (by decide) (pe_pr Pcontrols hr (by decide) (pv 4)) (pa_cons (pe_ix ix_tup (pe_ix ix_tup (pv 10) pe_int (fun _ _ => rfl)) pe_int (fun _ _ => rfl)) pa_nil)) (pe_dget hu (pv 9) (pe_ix ix_tup (pe_ix ix_tup (pv 10) pe_int (fun _ _ => rfl)) pe_int (fun _ _ => rfl)) (fun _ _ => rfl)) (nomark _)) (pss_one (ps_ret pe_bl)) pss_nil)))))))))))))))) (pss_cons (ps_set (i := 11) sc_law.nd rfl (Or.inl rfl) (pe_callB call_len_seq (by rfl) T.z_len PySem.boot_len (pa_cons (pe_fld (pv 4) rfl) pa_nil))) (pss_cons (ps_expr (pe_c Gclick hr (by decide) (by rfl) (pa_cons (pv 4) (pa_cons pe_int pa_nil)))) (pss_one (ps_ret (pe_cmpR op_eq (pe_callB call_len_seq (by rfl) T.z_len PySem.boot_len (pa_cons (pe_fld (pv 4) rfl) pa_nil)) (pv 11) (nomark _)))))))))))), ?_⟩
    refine ⟨_, rfl, sa, ns, 60, rfl, hS, hlen, by decide, fun rl zs H1 s1 hrl0 hrl zl => ?_⟩
    obtain ⟨z0, hz0⟩ := map_int_atR (ns := zs) (j := 0) (by decide) (by omega)
    have q0 : 0 ≤ z0 % 22 := Int.emod_nonneg _ (by decide)
    have q1 : z0 % 22 < 22 := Int.emod_lt_of_pos _ (by decide)
    obtain ⟨m, hm⟩ := Int.eq_ofNat_of_zero_le (show 0 ≤ 1 + z0 % 22 by omega)
    refine ⟨_, rfl, _, rfl, rl, _, _, _, rfl, rfl, SqL.of hrl, hz0, .inl ⟨_, rfl, _, _, rfl, rfl, (by show (0 : Int) < 22; decide), _, _, rfl, rfl, rl, zs, 1, m, H1, [], by show [_, _, V.int (1 + z0 % 22)] = _; rw [hm], Sb.nil, hrl, by omega, by omega, fun p xs ks G4 H4 S4 g4 hp nk ak dk nd nl nb => ?_⟩⟩
    have hxl : (itS 1 ks).length ≤ 1000 := by
      rw [← List.length_map (f := fun p : Int × Dn => p.2.num), itS_num]
      omega
    have dok4 : DocOk G4 (.ref p) ks := ⟨⟨p, xs, rfl, hp, nk, hxl⟩, ak, nd, nl⟩
    have hrl4 := S4.s _ _ (g4 _ _ hrl)
    refine ⟨by show 1 ≤ sizeLine; decide, fun a1 ha1 => ⟨by show 0 ≤ sizeLine; decide, fun a2 ha2 => ⟨by show 2 ≤ sizeLine; decide, fun a3 ha3 => ⟨by show 0 ≤ sizeLine; decide, fun a4 ha4 => ⟨by show 4 ≤ sizeLine; decide, fun aa haa => ?_⟩⟩⟩⟩⟩
    have b1 := Sm.new (o := .lst [V.str "click"]) ha1
    have b2 := Sm.new (o := .lst []) ha2
    have b3 := Sm.new (o := .lst [V.str "input", .str "change"]) ha3
    have b4 := Sm.new (o := .lst []) ha4
    have b5 := Sm.new (o := .lst [V.ref a1, .ref a2, .ref a3, .ref a4]) haa
    have e1 := b5 _ _ (b4 _ _ (b3 _ _ (b2 _ _ (show upd H4 a1 (.lst [V.str "click"]) a1 = some (.lst [V.str "click"]) from upd_same))))
    have e2 := b5 _ _ (b4 _ _ (b3 _ _ (show upd (upd H4 a1 (.lst [V.str "click"])) a2 (.lst []) a2 = some (.lst []) from upd_same)))
    have e3 := b5 _ _ (b4 _ _ (show upd (upd (upd H4 a1 (.lst [V.str "click"])) a2 (.lst [])) a3 (.lst [V.str "input", .str "change"]) a3 = some (.lst [V.str "input", .str "change"]) from upd_same))
    have e4 := b5 _ _ (show upd (upd (upd (upd H4 a1 (.lst [V.str "click"])) a2 (.lst [])) a3 (.lst [V.str "input", .str "change"])) a4 (.lst []) a4 = some (.lst []) from upd_same)
    have e5 : upd (upd (upd (upd (upd H4 a1 (.lst [V.str "click"])) a2 (.lst [])) a3 (.lst [V.str "input", .str "change"])) a4 (.lst [])) aa (.lst [V.ref a1, .ref a2, .ref a3, .ref a4]) aa = some (.lst [V.ref a1, .ref a2, .ref a3, .ref a4]) := upd_same
    have n2 := Same.free b1 ha2
    have n3 := Same.free b1 (Same.free b2 ha3)
    have n4 := Same.free b1 (Same.free b2 (Same.free b3 ha4))
    have s45 := Same.trans b1 (Same.trans b2 (Same.trans b3 (Same.trans b4 b5)))
    clear b1 b2 b3 b4 b5
    generalize upd (upd (upd (upd (upd H4 a1 (.lst [V.str "click"])) a2 (.lst [])) a3 (.lst [V.str "input", .str "change"])) a4 (.lst [])) aa (.lst [V.ref a1, .ref a2, .ref a3, .ref a4]) = H5 at e1 e2 e3 e4 e5 s45 ⊢
    have w0 : 0 ≤ z0 / 22 % 4 := Int.emod_nonneg _ (by decide)
    have w1 : z0 / 22 % 4 < 4 := Int.emod_lt_of_pos _ (by decide)
    obtain ⟨pli, prv, hat, hpli, hpn⟩ : ∃ (pli : Addr) (prv : List Str), atI [V.ref a1, .ref a2, .ref a3, .ref a4] (z0 / 22 % 4) = some (.ref pli) ∧ H5 pli = some (.lst (prv.map V.str)) ∧ H4 pli = none := by
      generalize z0 / 22 % 4 = kk at w0 w1
      obtain ⟨jn, rfl⟩ := Int.eq_ofNat_of_zero_le w0
      rcases (show jn = 0 ∨ jn = 1 ∨ jn = 2 ∨ jn = 3 by omega) with rfl | rfl | rfl | rfl
      · exact ⟨a1, ["click"], rfl, e1, ha1⟩
      · exact ⟨a2, [], rfl, e2, n2⟩
      · exact ⟨a3, ["input", "change"], rfl, e3, n3⟩
      · exact ⟨a4, [], rfl, e4, n4⟩
    have S5 := S4.call s45
    have g5 : Same G4 (joinH G4 (newer H4 H5)) := joinH_l
    have hpl5 := joinH_r S4.s _ _ (newer_mk hpn hpli)
    generalize joinH G4 (newer H4 H5) = G5 at S5 g5 hpl5
    refine ⟨_, rfl, rl, _, _, _, rfl, rfl, SqL.of (s45 _ _ hrl4), hz0, _, _, rfl, rfl, ⟨by decide, by decide⟩, .inl ⟨_, rfl, _, _, rfl, rfl, (by show (0 : Int) < 4; decide), aa, _, _, _, rfl, rfl, SqL.of e5, hat, ?_⟩⟩
    refine ⟨_, rfl, _, rfl, pli, _, rfl, .inl (SqL.of (S5.s _ _ hpl5)), fun p0 hp0 => ⟨rfl, rfl, fun r dr nr ndr ndr2 => ?_⟩⟩
    have S6 := S5.alloc (o := .lst (prv.map V.str)) hp0
    have g6 := S5.grow (o := .lst (prv.map V.str)) hp0
    have S6' := (S6.keepS (Sm.new (o := .own r) ndr)).add (t := r) (o := .ins C.Rehearsal dr []) (by rw [upd_ne ndr2.symm]; exact nr)
    have g46 := Same.trans g5 g6
    refine ⟨r, dr, .ref p, p0, prv, ks, _, [], rfl, S6', upd_same, dok4.same g46, fun G7 H7 rt7 g7 => ⟨rfl, ?_⟩⟩
    have g47 := Same.trans g46 g7
    have st7 : Stl ks (setlT ks []) := setl_idem nd []
    have bt7 : BT ks (setlT ks []) := setl_box nd
    refine ⟨_, rfl, by show 0 ≤ sizeLine; decide, fun ar har => ?_⟩
    obtain ⟨dr7, a, sl, pl, us7, hR7, ct7, ev7, hpl7, dok7, nb7⟩ := rt7
    obtain ⟨dxa, kda, kva, S7, tp7, tnd7, tl7⟩ := ct7
    have S8 := S7.alloc (o := .lst []) har
    have g8 := S7.grow (o := .lst []) har
    have g48 := Same.trans g47 g8
    refine ⟨p, ar, _, _, xs, [], ks, [], rfl, S8, g48 _ _ hp, nk.same g48, upd_same, .nil, dk, by decide, nl, fun kl rs G9 H9 S9 g9 hkl kn => ?_⟩
    have g79 := Same.trans g8 g9
    have rt9 : RtA C G9 H9 [] r (.ref p) ks (setlT ks []) [] prv := ⟨dr7, a, sl, pl, us7, g79 _ _ hR7, ⟨dxa, kda, kva, S9, tp7.same g79, tnd7, tl7⟩, EvA.same ev7 g79, g79 _ _ hpl7, dok7.same g79, nb7⟩
    have rl22 : rs.length = (anS [] ks).length := Paired.length kn
    have al22 : (anS [] ks).length ≤ 22 := by rw [anS_num]; exact nl
    have hrlG := (Same.trans g4 (Same.trans g47 g79)) _ _ hrl
    have hplG := (Same.trans g6 (Same.trans g7 g79)) _ _ hpl5
    have hkl9 := S9.s _ _ hkl
    have hpr9 : 0 ≤ (rs.length : Int) ∧ (rs.length : Int) ≤ 22 := by omega
    refine ⟨_, rfl, kl, _, rfl, .inl (SqL.of hkl9), _, rfl, by omega, by omega, ?_⟩
    refine for_range (lo := 0) (n := ((rs.length : Nat) : Int).toNat) (fun i σ H' => ∃ (tb : Tb) (es : List Ev) (G : Hp) (y6 y7 y8 y9 y10 y11 y12 y13 y14 y15 y16 : Option V), RtA C G H' [] r (.ref p) ks tb es prv ∧ Same G9 G ∧ Stl ks tb ∧ BT ks tb ∧ es.length ≤ 3 * i ∧
      σ = [some (.ref sa), some (.ref rl), some (.ref p), some (.ref pli), some (.ref r), some (.ref kl), y6, y7, y8, y9, y10, y11, y12, y13, y14, y15, y16]) ⟨_, _, _, _, _, _, _, _, _, _, _, _, _, _, rt9, Same.refl _, st7, bt7, Nat.zero_le _, rfl⟩ ?_ ?_
    · rintro i σ Ha hi ⟨tb, es, G, y6, y7, y8, y9, y10, y11, y12, y13, y14, y15, y16, rt, gG, st, bt, el, rfl⟩
      have hi' : i < rs.length := by omega
      have sG := rt.sm
      have hkla := sG _ _ (gG _ _ hkl)
      have hrla := sG _ _ (gG _ _ hrlG)
      obtain ⟨z2, hz2⟩ := map_int_atR (ns := zs) (j := 0 + (i : Int) + 2) (by omega) (by omega)
      have j0 : 0 ≤ z2 % (rs.length : Int) := Int.emod_nonneg _ (by omega)
      have j1 : z2 % (rs.length : Int) < (rs.length : Int) := Int.emod_lt_of_pos _ (by omega)
      obtain ⟨jn, ej⟩ := Int.eq_ofNat_of_zero_le j0
      have jl : jn < rs.length := by omega
      have knG := kn.same gG
      obtain ⟨pr, hpr, t, u, al, us, et, ht, hu1, hal, hus⟩ := paired_get knG (List.getElem?_eq_getElem jl)
      have hprm := List.mem_of_getElem? hpr
      obtain ⟨d, AR⟩ := pr
      have hat2 : atI rs (z2 % (rs.length : Int)) = some (.ref t) := by rw [ej, at_get jl, et]
      obtain ⟨b, ys, eu, hb⟩ := hu1.at
      subst eu
      refine ⟨_, rfl, _, rfl, _, rfl, _, _, rfl, rfl, rl, _, _, _, rfl, rfl, SqL.of hrla, hz2, .inl ⟨_, rfl, _, rfl, kl, _, rfl, .inl (SqL.of hkla), _, _, rfl, rfl, (by omega), kl, _, _, _, rfl, rfl, SqL.of hkla, hat2, _, _, rfl, SqT.of (sG _ _ ht), rfl, _, _, rfl, _, _, rfl, rfl, ?_⟩⟩
      refine fun sd hsd0 => ?_
      have rt1 := rt.take (t := sd) (o := .dK []) (Sm.new hsd0) hsd0 upd_same
      show tSeq _ _ _ _ (upd Ha sd (.dK []))
      generalize upd Ha sd (.dK []) = Hb at rt1 ⊢
      have sGb := rt1.sm
      have hklb := sGb _ _ (gG _ _ hkl)
      refine ⟨_, rfl, kl, rfl, ⟨_, SqL.of hklb⟩, ?_⟩
      refine for_it (walk_list (K := K) (a := kl) (xs := rs)) (fun j σ H' => ∃ (kvs : List (Key × V)) (y10 : Option V), RtA C G H' [(sd, .dK kvs)] r (.ref p) ks tb es prv ∧ kvs.length ≤ j ∧ (∀ (j' : Nat) (p' : Dn × List Dn), j' < j → (anS [] ks)[j']? = some p' → valV kvs (.inl p'.1.num) = some (shV tb p'.1.num)) ∧
        σ = [some (.ref sa), some (.ref rl), some (.ref p), some (.ref pli), some (.ref r), some (.ref kl), some (.int (0 + (i : Int))), some (.ref b), some (.ref al), some (.ref sd), y10, y11, y12, y13, y14, y15, y16]) ⟨[], _, rt1, Nat.zero_le _, fun j' _ z => absurd z (Nat.not_lt_zero _), rfl⟩ (fun j σ H' _ z => SqL.of (z.choose_spec.choose_spec.1.sm _ _ (gG _ _ hkl))) ?_ ?_
      · rintro j v σ H3 H4 hj ⟨kvs, y10, rt3, kvl, kvv, rfl⟩ ⟨rfl, hxv⟩
        obtain ⟨p', hp', t', u', al', us', rfl, ht', hu', hal', hus'⟩ := paired_get knG hxv
        obtain ⟨b', ys', rfl, hb'⟩ := hu'.at
        have s3 := rt3.sm
        have rt3' := rt3
        obtain ⟨dr3, a3, sl3, pl3, us3, hR3, ct3, ev3, hpl3, dok3, nb3⟩ := rt3'
        have hR3h := s3 _ _ hR3
        obtain ⟨dx3, kd3, haa3⟩ := ct3.at
        have h1' := SqT.of (K := K) (s3 _ _ ht')
        have h2' := SqT.of (K := K) (s3 _ _ hb')
        refine ⟨_, rfl, r, dr3, _, rfl, hR3h, r, dr3, .ref p, a3, sl3, pl3, rfl, hR3h, a3, dx3, _, rfl, haa3, rfl, _, rfl, t', _, _, _, rfl, rfl, h1', at_0, b', _, _, _, rfl, rfl, h2', at_1, a3, p'.1.num, tb, G, _, rfl, ct3, ?_⟩
        have hsd := rt3.mem (p := (sd, .dK kvs)) List.mem_cons_self
        refine ⟨_, rfl, _, rfl, t', _, _, _, rfl, rfl, h1', at_0, b', _, _, _, rfl, rfl, h2', at_1, sd, _, rfl, DPut.k (k := .inl p'.1.num) hsd (by omega), ?_⟩
        refine ⟨putK kvs (.inl p'.1.num) (shV tb p'.1.num), _, rt3.put, by have := length_putK kvs (.inl p'.1.num) (shV tb p'.1.num); omega, fun j' p'' hj' hp'' => ?_, rfl⟩
        rw [valV_put]
        by_cases en : p''.1.num = p'.1.num
        · rw [if_pos (by rw [en]), en]
        · rw [if_neg (fun z => en (Sum.inl.inj z))]
          rcases Nat.lt_succ_iff_lt_or_eq.mp hj' with hj' | rfl
          · exact kvv j' p'' hj' hp''
          · rw [hp'] at hp''
            cases hp''
            exact absurd rfl en
      rintro σ Hc ⟨kvs, y10, rt3, kvl, kvv, rfl⟩
      have kvA : ∀ p' ∈ anS [] ks, valV kvs (.inl p'.1.num) = some (shV tb p'.1.num) := fun p' hp' => by
        obtain ⟨j, hj, e⟩ := List.getElem_of_mem hp'
        exact kvv j p' (by omega) (by rw [← e]; exact List.getElem?_eq_getElem hj)
      have kvn : kvs ≠ [] := fun z => by
        have := kvA _ hprm
        rw [z] at this
        cases this
      have kvl : kvs.length ≤ 22 := by omega
      have rt3' := rt3
      obtain ⟨dr3, a3, sl3, pl3, us3, hR3, ct3, ev3, hpl3, dok3, nb3⟩ := rt3'
      have s3 := rt3.sm
      have hR3h := s3 _ _ hR3
      have hsl3 := ct3.mem (p := (sl3, .lst us3)) List.mem_cons_self
      have ul3 := Paired.length ev3
      refine ⟨_, rfl, r, _, dr3, _, _, rfl, hR3h, T.cl_Rehearsal, T.n_Rehearsal_sent, rfl, sl3, _, rfl, .inl (SqL.of hsl3), ?_⟩
      rw [ul3]
      have hbc := s3 _ _ hb
      have hsd := shut_at nd hprm
      refine ⟨fun σ' H' => ∃ (G' : Hp) (tb' : Tb) (nev : List Ev) (ch : Option (Int × V)), RtA C G' H' [(sd, .dK kvs)] r (.ref p) ks tb' (es ++ nev) prv ∧ Same G G' ∧ StepC ks tb d AR (pkC prv) tb' nev ch ∧ σ' = [some (.ref sa), some (.ref rl), some (.ref p), some (.ref pli), some (.ref r), some (.ref kl), some (.int (0 + (i : Int))), some (.ref b), some (.ref al), some (.ref sd), y10, some (.int (es.length : Int)), y12, y13, y14, y15, y16], ?_, ?_⟩
      · refine ⟨_, rfl, _, rfl, b, _, _, _, rfl, rfl, SqT.of hbc, at_1, r, d.num, G, [(sd, .dK kvs)], .ref p, ks, tb, es, prv, rfl, rt3, by omega, st, bt, ?_⟩
        cases hsh : shutD (AR ++ [d]) with
        | true =>
          refine .inl ⟨hsd.trans hsh, fun H' s' => ⟨_, rfl, iteF ⟨G, tb, [], none, by rw [List.append_nil]; exact rt3.keep s', Same.refl _, ⟨⟨st, bt, fun _ => rfl⟩, (fun _ z => nomatch z), Nat.zero_le _, fun _ => ⟨rfl, rfl⟩, fun z => by rw [hsh] at z; cases z⟩, rfl⟩⟩⟩
        | false =>
          refine .inr ⟨d, AR, hprm, rfl, hsd.trans hsh, fun G' H' rt' g' => ⟨_, rfl, iteF ⟨G', _, _, chg ks tb (pkC prv) d AR, rt', g', ⟨clk_ok nd st bt hprm hsh _, clk_e0, clk_len ks tb (pkC prv) d AR, fun z => (by rw [hsh] at z; cases z), fun _ => ⟨rfl, rfl⟩⟩, rfl⟩⟩⟩
      rintro σ' Hd ⟨G', tb', nev, ch, rt4, g4', stp, rfl⟩
      have gGG := Same.trans gG g4'
      have rt4' := rt4
      obtain ⟨dr4, a4', sl4, pl4, us4, hR4, ct4, ev4, hpl4, dok4', nb4⟩ := rt4'
      have hR4h := ct4.sm _ _ hR4
      have hsl4 := ct4.mem (p := (sl4, .lst us4)) List.mem_cons_self
      have hsd4 := rt4.mem (p := (sd, .dK kvs)) List.mem_cons_self
      have evz := paired_drop es.length (EvA.same ev4 ct4.sm)
      rw [List.drop_left] at evz
      have ul4 := Paired.length ev4
      rw [List.length_append] at ul4
      refine ⟨_, rfl, r, _, dr4, _, _, rfl, hR4h, T.cl_Rehearsal, T.n_Rehearsal_sent, rfl, _, rfl, _, rfl, sl4, _, rfl, SqL.of hsl4, fun q1 hq1 => ?_⟩
      rw [cut_drop (by omega)]
      have s1' := Sm.new (o := .lst (us4.drop es.length)) hq1
      have hq2 : upd Hd q1 (.lst (us4.drop es.length)) q1 = some (.lst (us4.drop es.length)) := upd_same
      refine ⟨by show 0 ≤ sizeLine; decide, fun cg hcg => ⟨by show 0 ≤ sizeLine; decide, fun du hdu => ?_⟩⟩
      have s2' := Sm.new (o := .lst []) hcg
      have s3' := Sm.new (o := .lst []) hdu
      have hcg2 := s3' _ _ (show upd (upd Hd q1 (.lst (us4.drop es.length))) cg (.lst []) cg = some (.lst []) from upd_same)
      have hq3 := s3' _ _ (s2' _ _ hq2)
      have hdu2 : upd (upd (upd Hd q1 (.lst (us4.drop es.length))) cg (.lst [])) du (.lst []) du = some (.lst []) := upd_same
      have s45 := Same.trans s1' (Same.trans s2' s3')
      show C8.tCut _ _ _ _ (upd (upd (upd Hd q1 (.lst (us4.drop es.length))) cg (.lst [])) du (.lst []))
      clear s1' s2' s3' hq2
      generalize upd (upd (upd Hd q1 (.lst (us4.drop es.length))) cg (.lst [])) du (.lst []) = He at hcg2 hq3 hdu2 s45 ⊢
      have rt5 := rt4.keep s45
      have sGe := rt5.sm
      have kvF : ∀ d' ∈ flS ks, valV kvs (.inl d'.num) = some (shV tb d'.num) := fun d' hd' => by
        obtain ⟨B, hB⟩ := fl_an hd'
        exact kvA _ hB
      have arl := anS_len [] ks _ hprm
      simp only [List.length_nil] at arl
      refine ⟨fun σ' H' => ∃ (cg' du' : Addr) (cs' dl : List V), Same He H' ∧ H' cg' = some (.lst cs') ∧ Paired (CgA H') cs' ch.toList ∧ H' du' = some (.lst dl) ∧ Paired (EvA H') dl nev ∧
        σ' = [some (.ref sa), some (.ref rl), some (.ref p), some (.ref pli), some (.ref r), some (.ref kl), some (.int (0 + (i : Int))), some (.ref b), some (.ref al), some (.ref sd), y10, some (.int (es.length : Int)), some (.ref q1), some (.ref cg'), some (.ref du'), y15, y16], ?_, ?_⟩
      · have hde := (hu1.same g4').same sGe
        have hale := sGe _ _ (g4' _ _ hal)
        have huse := (hus.same g4').same sGe
        refine ⟨_, rfl, _, rfl, .ref b, al, us, d, AR, rfl, hde, hale, huse, by omega, fun Hg sg => ⟨_, rfl, ?_⟩⟩
        cases hsh : shutD (AR ++ [d]) with
        | true =>
          obtain ⟨e1, e2⟩ := stp.no hsh
          refine iteF ⟨cg, du, [], [], sg, sg _ _ hcg2, ?_, sg _ _ hdu2, ?_, rfl⟩
          · rw [e2]
            exact .nil
          · rw [e1]
            exact .nil
        | false =>
          obtain ⟨e1, e2⟩ := stp.ye hsh
          refine iteT ⟨_, rfl, _, rfl, _, rfl, _, rfl, .ref b, al, us, d, AR, sd, kvs, pli, prv, ks, tb, rfl, hprm, nd, hsh, hde.same sg, sg _ _ hale, huse.same sg, by omega, sg _ _ (s45 _ _ hsd4), kvF, sg _ _ (sGe _ _ (gGG _ _ hplG)), bt, nb3, fun t' sl' cl' us' cs' H' s' ht' hsl' hcl' ev' cv' => ?_⟩
          exact ⟨_, _, rfl, SqT.of ht', rfl, _, _, rfl, _, _, rfl, rfl, cl', sl', cs', us', Same.trans sg s', hcl', by rw [e2]; exact cv', hsl', by rw [e1]; exact ev', rfl⟩
      rintro σ' Hz ⟨cg', du', cs', dl, sz, hcgz, cvz, hduz, dev, rfl⟩
      have rtz := rt5.keep sz
      have evq := EvA.same evz (Same.trans s45 sz)
      have hqz := sz _ _ hq3
      have hsdz := rtz.mem (p := (sd, .dK kvs)) List.mem_cons_self
      have cvl := Paired.length cvz
      have chl : ch.toList.length ≤ 1 := by
        cases ch with
        | none => exact Nat.zero_le _
        | some x => exact Nat.le_refl _
      have ncg : cg' ≠ sd := fun z => by rw [z, hsdz] at hcgz; cases hcgz
      have nq1 : q1 ≠ sd := fun z => by rw [z, hsdz] at hqz; cases hqz
      have ndu : du' ≠ sd := fun z => by rw [z, hsdz] at hduz; cases hduz
      refine ⟨_, rfl, cg', rfl, ⟨_, SqL.of hcgz⟩, ?_⟩
      refine for_it (walk_list (K := K) (a := cg') (xs := cs')) (fun j σ H' => ∃ (y15 y16 : Option V), RtA C G' H' [(sd, .dK (putA kvs (ch.toList.take j)))] r (.ref p) ks tb' (es ++ nev) prv ∧ (∀ a o, a ≠ sd → Hz a = some o → H' a = some o) ∧ Paired (EvA H') (us4.drop es.length) nev ∧ Paired (EvA H') dl nev ∧
        σ = [some (.ref sa), some (.ref rl), some (.ref p), some (.ref pli), some (.ref r), some (.ref kl), some (.int (0 + (i : Int))), some (.ref b), some (.ref al), some (.ref sd), y10, some (.int (es.length : Int)), some (.ref q1), some (.ref cg'), some (.ref du'), y15, y16]) ⟨_, _, rtz, fun _ _ _ h => h, evq, dev, rfl⟩ (fun j σ H' _ z => SqL.of (z.choose_spec.choose_spec.2.1 _ _ ncg hcgz)) ?_ ?_
      · rintro j v σ H3 H4 hj ⟨y15, y16, rt6, kp, evq6, dev6, rfl⟩ ⟨rfl, hxv⟩
        obtain ⟨x, hx, t', rfl, ht'⟩ := paired_get cvz hxv
        have hsd6 := rt6.mem (p := (sd, .dK (putA kvs (ch.toList.take j)))) List.mem_cons_self
        have nt : t' ≠ sd := fun z => by rw [z, hsdz] at ht'; cases ht'
        have pl6 := putA_len (kvs := kvs) (ch.toList.take j)
        have tk : putA kvs (ch.toList.take (j + 1)) = putK (putA kvs (ch.toList.take j)) (.inl x.1) x.2 := by
          rw [List.take_add_one, hx]
          unfold putA
          rw [List.foldl_append]
          rfl
        rw [List.length_take] at pl6
        refine ⟨_, _, rfl, SqT.of (kp _ _ nt ht'), rfl, _, _, rfl, _, _, rfl, rfl, ?_⟩
        refine ⟨_, rfl, _, rfl, _, rfl, sd, _, rfl, DPut.k (k := .inl x.1) hsd6 (by omega), ?_⟩
        refine ⟨_, _, by rw [tk]; exact rt6.put, fun a o na ha => by rw [upd_ne na]; exact kp a o na ha, EvA.put hsd6 (putA_nn kvn _) evq6 stp.e0, EvA.put hsd6 (putA_nn kvn _) dev6 stp.e0, rfl⟩
      rintro σ Hy ⟨y15, y16, rt6, kp, evq6, dev6, rfl⟩
      rw [List.take_of_length_le (by omega)] at rt6
      have sk : ∀ e ∈ nev, StrK e.2.2 := fun e he => by rw [stp.e0 e he]; exact ev0
      refine ⟨_, rfl, _, rfl, nev.map evD, ev_depth sk, .lst (kp _ _ nq1 hqz) (ev_dq evq6 sk), .lst (kp _ _ ndu hduz) (ev_dq dev6 sk), _, rfl, iteF ?_⟩
      have s6 := rt6.sm
      have hkly := s6 _ _ (gGG _ _ hkl)
      have knG' := knG.same g4'
      refine ⟨_, rfl, kl, rfl, ⟨_, SqL.of hkly⟩, ?_⟩
      refine for_it (walk_list (K := K) (a := kl) (xs := rs)) (fun j σ H' => H' = Hy ∧ ∃ y10 : Option V, σ = [some (.ref sa), some (.ref rl), some (.ref p), some (.ref pli), some (.ref r), some (.ref kl), some (.int (0 + (i : Int))), some (.ref b), some (.ref al), some (.ref sd), y10, some (.int (es.length : Int)), some (.ref q1), some (.ref cg'), some (.ref du'), y15, y16]) ⟨rfl, _, rfl⟩ (fun j σ H' _ z => by rw [z.1]; exact SqL.of hkly) ?_ ?_
      · rintro j v σ H3 H4 hj ⟨rfl, y10, rfl⟩ ⟨rfl, hxv⟩
        obtain ⟨p', hp', t', u', al', us', rfl, ht', hu', hal', hus'⟩ := paired_get knG' hxv
        obtain ⟨b', ys', rfl, hb'⟩ := hu'.at
        have rt6' := rt6
        obtain ⟨dr6, a6, sl6, pl6, us6, hR6, ct6, ev6, hpl6, dok6, nb6⟩ := rt6'
        have hR6h := s6 _ _ hR6
        obtain ⟨dx6, kd6, haa6⟩ := ct6.at
        have h1' := SqT.of (K := K) (s6 _ _ ht')
        have h2' := SqT.of (K := K) (s6 _ _ hb')
        have hsd6 := rt6.mem (p := (sd, .dK (putA kvs ch.toList))) List.mem_cons_self
        have dg := DGet.k (k := .inl p'.1.num) hsd6
        have ev : valV (putA kvs ch.toList) (.inl p'.1.num) = some (shV tb' p'.1.num) := by
          have hm := kvA _ (List.mem_of_getElem? hp')
          rw [putA_val ch, stp.ok.sh p'.1.num]
          cases ch with
          | none => exact hm
          | some x =>
            show (if p'.1.num = x.1 then some x.2 else _) = some (if p'.1.num = x.1 then x.2 else _)
            split
            · rfl
            · exact hm
        rw [ev] at dg
        have n6 := shV_nbs (n := p'.1.num) nb6
        refine ⟨_, rfl, r, dr6, _, rfl, hR6h, r, dr6, .ref p, a6, sl6, pl6, rfl, hR6h, a6, dx6, _, rfl, haa6, rfl, _, rfl, t', _, _, _, rfl, rfl, h1', at_0, b', _, _, _, rfl, rfl, h2', at_1, a6, p'.1.num, tb', G', _, rfl, ct6, ?_⟩
        refine ⟨_, rfl, _, rfl, t', _, _, _, rfl, rfl, h1', at_0, b', _, _, _, rfl, rfl, h2', at_1, sd, _, rfl, dg, nbs_scal n6 n6, _, rfl, ?_⟩
        rw [show (!decide (shV tb' p'.1.num = shV tb' p'.1.num)) = false by simp]
        exact iteF ⟨rfl, _, rfl⟩
      · rintro σ H3 ⟨rfl, y10, rfl⟩
        obtain ⟨rt7, g7'⟩ := rt6.drop
        exact ⟨tb', es ++ nev, _, _, _, _, _, _, _, _, _, _, _, _, rt7, Same.trans gGG g7', stp.ok.st, stp.ok.bt, by rw [List.length_append]; have := stp.le; omega, rfl⟩
    · rintro σ Ha ⟨tb, es, G, y6, y7, y8, y9, y10, y11, y12, y13, y14, y15, y16, rt, gG, st, bt, el, rfl⟩
      have rt' := rt
      obtain ⟨dr2, a2, sl2, pl2, us2, hR2, ct2, ev2, hpl2, dok2, nb2⟩ := rt'
      have hR2c := ct2.sm _ _ hR2
      have hsl2 := ct2.mem (p := (sl2, .lst us2)) List.mem_cons_self
      have ul2 := Paired.length ev2
      refine ⟨_, rfl, r, _, dr2, _, _, rfl, hR2c, T.cl_Rehearsal, T.n_Rehearsal_sent, rfl, sl2, _, rfl, .inl (SqL.of hsl2), ?_⟩
      rw [ul2]
      have h99 : disD ks 99 = true := dis_no fun hm99 => by
        have := nb 99 hm99
        omega
      refine ⟨_, rfl, r, 99, G, [], .ref p, ks, tb, es, prv, rfl, rt, by omega, st, bt, .inl ⟨h99, fun H3 s3 => ?_⟩⟩
      obtain ⟨dr3, a3, sl3, pl3, us3, hR3, ct3, ev3, hpl3, dok3, nb3⟩ := rt.keep s3
      have hsl3 := ct3.mem (p := (sl3, .lst us3)) List.mem_cons_self
      have ul3 := Paired.length ev3
      refine ⟨_, rfl, r, _, dr3, _, _, rfl, ct3.sm _ _ hR3, T.cl_Rehearsal, T.n_Rehearsal_sent, rfl, sl3, _, rfl, .inl (SqL.of hsl3), ?_⟩
      rw [ul3]
      refine ⟨_, rfl, rfl, ?_⟩
      rw [decide_eq_true rfl]
      exact kq H3
end
end VL

set_option Elab.async false
set_option linter.all false
set_option maxRecDepth 100000
set_option maxHeartbeats 4000000
namespace VL
open PySem PySem.Spec PyProof.Rows L2
theorem all_mk {l : PySem.W.OpenLaw} {w : World} {K : PySem.W.Frag} {h : Heap} {mg : Str → Option Value} {fa aControls aRehearsal t_CONTROLS t_EVENTS_TO_THE_END f1 f2 f3 f4 f5 f6 f7 f8 f9 f10 f11 f12 f13 f14 f15 f16 f17 f18 f19 f20 f21 f22 f23 f24 f25 f26 f27 f28 f29 f30 f31 f32 f33 f34 p34 f35 f36 f37 f38 f39 f40 f41 f42 f43 f44 f45 f46 f47 f48 : Addr} (X : K.In h) (G : h.Ns mainGlobals mg) (hfa : mg "law" = some (.ref fa))
    {od1 an1 od2 an2 od3 an3 od4 an4 od5 an5 od6 an6 od7 an7 od8 an8 od9 an9 od10 an10 od11 an11 od12 an12 od13 an13 od14 an14 od15 an15 od16 an16 od17 an17 od18 an18 od19 an19 od20 an20 od21 an21 od22 an22 od23 an23 od24 an24 od25 an25 od26 an26 od27 an27 od28 an28 od29 an29 od30 an30 od31 an31 od32 an32 od33 an33 od34 an34 od35 an35 od36 an36 od37 an37 od38 an38 od39 an39 od40 an40 od41 an41 od42 an42 od43 an43 od44 an44 od45 an45 od46 an46 od47 an47 od48 an48 : Option Addr} {ts_CONTROLS ts_EVENTS_TO_THE_END sl1 sl2 sl3 sl4 sl5 sl6 sl7 sl8 sl9 sl10 sl11 sl12 sl13 sl14 sl15 sl16 sl17 sl18 sl19 sl20 sl21 sl22 sl23 sl24 sl25 sl26 sl27 sl28 sl29 sl30 sl31 sl32 sl33 sl34 sl35 sl36 sl37 sl38 sl39 sl40 sl41 sl42 sl43 sl44 sl45 sl46 sl47 sl48 : Array (Option Value)} {oc1 kV1 dc1 pm1 cd1 ct1 oc2 kV2 dc2 pm2 cd2 ct2 oc3 kV3 dc3 pm3 cd3 ct3 oc4 kV4 dc4 pm4 cd4 ct4 oc5 kV5 dc5 pm5 cd5 ct5 oc6 kV6 dc6 pm6 cd6 ct6 oc7 kV7 dc7 pm7 cd7 ct7 oc8 kV8 dc8 pm8 cd8 ct8 oc9 kV9 dc9 pm9 cd9 ct9 oc10 kV10 dc10 pm10 cd10 ct10 oc11 kV11 dc11 pm11 cd11 ct11 oc12 kV12 dc12 pm12 cd12 ct12 oc13 kV13 dc13 pm13 cd13 ct13 oc14 kV14 dc14 pm14 cd14 ct14 oc15 kV15 dc15 pm15 cd15 ct15 oc16 kV16 dc16 pm16 cd16 ct16 oc17 kV17 dc17 pm17 cd17 ct17 oc18 kV18 dc18 pm18 cd18 ct18 oc19 kV19 dc19 pm19 cd19 ct19 oc20 kV20 dc20 pm20 cd20 ct20 oc21 kV21 dc21 pm21 cd21 ct21 oc22 kV22 dc22 pm22 cd22 ct22 oc23 kV23 dc23 pm23 cd23 ct23 oc24 kV24 dc24 pm24 cd24 ct24 oc25 kV25 dc25 pm25 cd25 ct25 oc26 kV26 dc26 pm26 cd26 ct26 oc27 kV27 dc27 pm27 cd27 ct27 oc28 kV28 dc28 pm28 cd28 ct28 oc29 kV29 dc29 pm29 cd29 ct29 oc30 kV30 dc30 pm30 cd30 ct30 oc31 kV31 dc31 pm31 cd31 ct31 oc32 kV32 dc32 pm32 cd32 ct32 oc33 kV33 dc33 pm33 cd33 ct33 oc34 kV34 dc34 pm34 cd34 ct34 oc35 kV35 dc35 pm35 cd35 ct35 oc36 kV36 dc36 pm36 cd36 ct36 oc37 kV37 dc37 pm37 cd37 ct37 oc38 kV38 dc38 pm38 cd38 ct38 oc39 kV39 dc39 pm39 cd39 ct39 oc40 kV40 dc40 pm40 cd40 ct40 oc41 kV41 dc41 pm41 cd41 ct41 oc42 kV42 dc42 pm42 cd42 ct42 oc43 kV43 dc43 pm43 cd43 ct43 oc44 kV44 dc44 pm44 cd44 ct44 oc45 kV45 dc45 pm45 cd45 ct45 oc46 kV46 dc46 pm46 cd46 ct46 oc47 kV47 dc47 pm47 cd47 ct47 oc48 kV48 dc48 pm48 cd48 ct48 : Value} {ti_CONTROLS ti_EVENTS_TO_THE_END : Array Value} {tn_CONTROLS tn_EVENTS_TO_THE_END : Nat} {rs34 : List Value} 
    (q_Controls : PySem.W.nsIn K mainGlobals "Controls" = some (some (.ref aControls)))
    (pg_Controls : PySem.W.plainGet K aControls Str.empty = true)
    (hd_Controls : PySem.W.hasDictIn K aControls = true)
    (po_Controls : PySem.W.plainOver K aControls = true)
    (sa_Controls : PySem.W.findIn K (.ref aControls) "__setattr__" = some (some (.builtin "object.__setattr__")))
    (mk_Controls : PySem.W.makesIn K aControls = true)
    (kc_Controls : PySem.W.keepIn K (.ref aControls) = true)
    (n_Controls_known : PySem.W.findIn K (.ref aControls) "known" = some none)
    (q_Rehearsal : PySem.W.nsIn K mainGlobals "Rehearsal" = some (some (.ref aRehearsal)))
    (pg_Rehearsal : PySem.W.plainGet K aRehearsal Str.empty = true)
    (hd_Rehearsal : PySem.W.hasDictIn K aRehearsal = true)
    (po_Rehearsal : PySem.W.plainOver K aRehearsal = true)
    (sa_Rehearsal : PySem.W.findIn K (.ref aRehearsal) "__setattr__" = some (some (.builtin "object.__setattr__")))
    (mk_Rehearsal : PySem.W.makesIn K aRehearsal = true)
    (kc_Rehearsal : PySem.W.keepIn K (.ref aRehearsal) = true)
    (n_Rehearsal_document : PySem.W.findIn K (.ref aRehearsal) "document" = some none)
    (n_Rehearsal_panel : PySem.W.findIn K (.ref aRehearsal) "panel" = some none)
    (n_Rehearsal_sent : PySem.W.findIn K (.ref aRehearsal) "sent" = some none)
    (n_Rehearsal_prevented : PySem.W.findIn K (.ref aRehearsal) "prevented" = some none)
    (z_any : PySem.W.nsIn K mainGlobals "any" = some none)
    (z_dict : PySem.W.nsIn K mainGlobals "dict" = some none)
    (z_int : PySem.W.nsIn K mainGlobals "int" = some none)
    (z_isinstance : PySem.W.nsIn K mainGlobals "isinstance" = some none)
    (z_len : PySem.W.nsIn K mainGlobals "len" = some none)
    (z_list : PySem.W.nsIn K mainGlobals "list" = some none)
    (z_property : PySem.W.nsIn K mainGlobals "property" = some none)
    (z_range : PySem.W.nsIn K mainGlobals "range" = some none)
    (z_reversed : PySem.W.nsIn K mainGlobals "reversed" = some none)
    (z_str : PySem.W.nsIn K mainGlobals "str" = some none)
    (z_tuple : PySem.W.nsIn K mainGlobals "tuple" = some none)
    (g_CONTROLS : PySem.W.nsIn K mainGlobals "CONTROLS" = some (some (.ref t_CONTROLS)))
    (tl_CONTROLS : K.lookup t_CONTROLS = some ⟨.type "tuple", none, .seq ti_CONTROLS tn_CONTROLS, ts_CONTROLS⟩)
    (tz_CONTROLS : ti_CONTROLS.size ≤ sizeLine)
    (tv_CONTROLS : Vals VL.t_CONTROLS ti_CONTROLS.toList)
    (g_EVENTS_TO_THE_END : PySem.W.nsIn K mainGlobals "EVENTS_TO_THE_END" = some (some (.ref t_EVENTS_TO_THE_END)))
    (tl_EVENTS_TO_THE_END : K.lookup t_EVENTS_TO_THE_END = some ⟨.type "tuple", none, .seq ti_EVENTS_TO_THE_END tn_EVENTS_TO_THE_END, ts_EVENTS_TO_THE_END⟩)
    (tz_EVENTS_TO_THE_END : ti_EVENTS_TO_THE_END.size ≤ sizeLine)
    (tv_EVENTS_TO_THE_END : Vals VL.t_EVENTS_TO_THE_END ti_EVENTS_TO_THE_END.toList)
    (a1 : PySem.W.nsIn K mainGlobals "walk" = some (some (.ref f1)))
    (l1 : K.lookup f1 = some ⟨oc1, od1, .func (PySem.W.fnOf "walk" "walk" (defArgs s_walk) (defBody s_walk) (defScope s_walk) .none kV1 dc1 pm1 an1 cd1 ct1), sl1⟩)
    (c1 : PySem.W.codeIn K cd1 "walk" = true)
    (k1 : PySem.W.keepIn K (.ref f1) = true)
    (a2 : PySem.W.nsIn K mainGlobals "kids_in" = some (some (.ref f2)))
    (l2 : K.lookup f2 = some ⟨oc2, od2, .func (PySem.W.fnOf "kids_in" "kids_in" (defArgs s_kids_in) (defBody s_kids_in) (defScope s_kids_in) .none kV2 dc2 pm2 an2 cd2 ct2), sl2⟩)
    (c2 : PySem.W.codeIn K cd2 "kids_in" = true)
    (k2 : PySem.W.keepIn K (.ref f2) = true)
    (a3 : PySem.W.nsIn K mainGlobals "find_node" = some (some (.ref f3)))
    (l3 : K.lookup f3 = some ⟨oc3, od3, .func (PySem.W.fnOf "find_node" "find_node" (defArgs s_find_node) (defBody s_find_node) (defScope s_find_node) .none kV3 dc3 pm3 an3 cd3 ct3), sl3⟩)
    (c3 : PySem.W.codeIn K cd3 "find_node" = true)
    (k3 : PySem.W.keepIn K (.ref f3) = true)
    (a4 : PySem.W.nsIn K mainGlobals "nodes_on_path" = some (some (.ref f4)))
    (l4 : K.lookup f4 = some ⟨oc4, od4, .func (PySem.W.fnOf "nodes_on_path" "nodes_on_path" (defArgs s_nodes_on_path) (defBody s_nodes_on_path) (defScope s_nodes_on_path) .none kV4 dc4 pm4 an4 cd4 ct4), sl4⟩)
    (c4 : PySem.W.codeIn K cd4 "nodes_on_path" = true)
    (k4 : PySem.W.keepIn K (.ref f4) = true)
    (a5 : PySem.W.nsIn K mainGlobals "is_disabled" = some (some (.ref f5)))
    (l5 : K.lookup f5 = some ⟨oc5, od5, .func (PySem.W.fnOf "is_disabled" "is_disabled" (defArgs s_is_disabled) (defBody s_is_disabled) (defScope s_is_disabled) .none kV5 dc5 pm5 an5 cd5 ct5), sl5⟩)
    (c5 : PySem.W.codeIn K cd5 "is_disabled" = true)
    (k5 : PySem.W.keepIn K (.ref f5) = true)
    (a6 : PySem.W.nsIn K mainGlobals "attribute_in" = some (some (.ref f6)))
    (l6 : K.lookup f6 = some ⟨oc6, od6, .func (PySem.W.fnOf "attribute_in" "attribute_in" (defArgs s_attribute_in) (defBody s_attribute_in) (defScope s_attribute_in) .none kV6 dc6 pm6 an6 cd6 ct6), sl6⟩)
    (c6 : PySem.W.codeIn K cd6 "attribute_in" = true)
    (k6 : PySem.W.keepIn K (.ref f6) = true)
    (a7 : PySem.W.nsIn K mainGlobals "copied" = some (some (.ref f7)))
    (l7 : K.lookup f7 = some ⟨oc7, od7, .func (PySem.W.fnOf "copied" "copied" (defArgs s_copied) (defBody s_copied) (defScope s_copied) .none kV7 dc7 pm7 an7 cd7 ct7), sl7⟩)
    (c7 : PySem.W.codeIn K cd7 "copied" = true)
    (k7 : PySem.W.keepIn K (.ref f7) = true)
    (a8 : PySem.W.nsIn K mainGlobals "copy_of" = some (some (.ref f8)))
    (l8 : K.lookup f8 = some ⟨oc8, od8, .func (PySem.W.fnOf "copy_of" "copy_of" (defArgs s_copy_of) (defBody s_copy_of) (defScope s_copy_of) .none kV8 dc8 pm8 an8 cd8 ct8), sl8⟩)
    (c8 : PySem.W.codeIn K cd8 "copy_of" = true)
    (k8 : PySem.W.keepIn K (.ref f8) = true)
    (a9 : PySem.W.nsIn K mainGlobals "kind_of_control" = some (some (.ref f9)))
    (l9 : K.lookup f9 = some ⟨oc9, od9, .func (PySem.W.fnOf "kind_of_control" "kind_of_control" (defArgs s_kind_of_control) (defBody s_kind_of_control) (defScope s_kind_of_control) .none kV9 dc9 pm9 an9 cd9 ct9), sl9⟩)
    (c9 : PySem.W.codeIn K cd9 "kind_of_control" = true)
    (k9 : PySem.W.keepIn K (.ref f9) = true)
    (a10 : PySem.W.nsIn K mainGlobals "open_values" = some (some (.ref f10)))
    (l10 : K.lookup f10 = some ⟨oc10, od10, .func (PySem.W.fnOf "open_values" "open_values" (defArgs s_open_values) (defBody s_open_values) (defScope s_open_values) .none kV10 dc10 pm10 an10 cd10 ct10), sl10⟩)
    (c10 : PySem.W.codeIn K cd10 "open_values" = true)
    (k10 : PySem.W.keepIn K (.ref f10) = true)
    (a11 : PySem.W.nsIn K mainGlobals "is_option" = some (some (.ref f11)))
    (l11 : K.lookup f11 = some ⟨oc11, od11, .func (PySem.W.fnOf "is_option" "is_option" (defArgs s_is_option) (defBody s_is_option) (defScope s_is_option) .none kV11 dc11 pm11 an11 cd11 ct11), sl11⟩)
    (c11 : PySem.W.codeIn K cd11 "is_option" = true)
    (k11 : PySem.W.keepIn K (.ref f11) = true)
    (a12 : PySem.W.nsIn K mainGlobals "value_of_option" = some (some (.ref f12)))
    (l12 : K.lookup f12 = some ⟨oc12, od12, .func (PySem.W.fnOf "value_of_option" "value_of_option" (defArgs s_value_of_option) (defBody s_value_of_option) (defScope s_value_of_option) .none kV12 dc12 pm12 an12 cd12 ct12), sl12⟩)
    (c12 : PySem.W.codeIn K cd12 "value_of_option" = true)
    (k12 : PySem.W.keepIn K (.ref f12) = true)
    (a13 : PySem.W.nsIn K mainGlobals "bound_text" = some (some (.ref f13)))
    (l13 : K.lookup f13 = some ⟨oc13, od13, .func (PySem.W.fnOf "bound_text" "bound_text" (defArgs s_bound_text) (defBody s_bound_text) (defScope s_bound_text) .none kV13 dc13 pm13 an13 cd13 ct13), sl13⟩)
    (c13 : PySem.W.codeIn K cd13 "bound_text" = true)
    (k13 : PySem.W.keepIn K (.ref f13) = true)
    (a14 : PySem.W.nsIn K mainGlobals "shown_for" = some (some (.ref f14)))
    (l14 : K.lookup f14 = some ⟨oc14, od14, .func (PySem.W.fnOf "shown_for" "shown_for" (defArgs s_shown_for) (defBody s_shown_for) (defScope s_shown_for) .none kV14 dc14 pm14 an14 cd14 ct14), sl14⟩)
    (c14 : PySem.W.codeIn K cd14 "shown_for" = true)
    (k14 : PySem.W.keepIn K (.ref f14) = true)
    (a15 : PySem.W.findIn K (.ref aControls) "__init__" = some (some (.ref f15)))
    (i15 : PySem.W.isFn K (.ref f15) = true)
    (l15 : K.lookup f15 = some ⟨oc15, od15, .func (PySem.W.fnOf "__init__" "Controls.__init__" (defArgs s_Controls___init__) (defBody s_Controls___init__) (defScope s_Controls___init__) .none kV15 dc15 pm15 an15 cd15 ct15), sl15⟩)
    (c15 : PySem.W.codeIn K cd15 "Controls.__init__" = true)
    (k15 : PySem.W.keepIn K (.ref f15) = true)
    (a16 : PySem.W.findIn K (.ref aControls) "__len__" = some (some (.ref f16)))
    (i16 : PySem.W.isFn K (.ref f16) = true)
    (l16 : K.lookup f16 = some ⟨oc16, od16, .func (PySem.W.fnOf "__len__" "Controls.__len__" (defArgs s_Controls___len__) (defBody s_Controls___len__) (defScope s_Controls___len__) .none kV16 dc16 pm16 an16 cd16 ct16), sl16⟩)
    (c16 : PySem.W.codeIn K cd16 "Controls.__len__" = true)
    (k16 : PySem.W.keepIn K (.ref f16) = true)
    (a17 : PySem.W.findIn K (.ref aControls) "__contains__" = some (some (.ref f17)))
    (i17 : PySem.W.isFn K (.ref f17) = true)
    (l17 : K.lookup f17 = some ⟨oc17, od17, .func (PySem.W.fnOf "__contains__" "Controls.__contains__" (defArgs s_Controls___contains__) (defBody s_Controls___contains__) (defScope s_Controls___contains__) .none kV17 dc17 pm17 an17 cd17 ct17), sl17⟩)
    (c17 : PySem.W.codeIn K cd17 "Controls.__contains__" = true)
    (k17 : PySem.W.keepIn K (.ref f17) = true)
    (a18 : PySem.W.findIn K (.ref aControls) "settle" = some (some (.ref f18)))
    (i18 : PySem.W.isFn K (.ref f18) = true)
    (l18 : K.lookup f18 = some ⟨oc18, od18, .func (PySem.W.fnOf "settle" "Controls.settle" (defArgs s_Controls_settle) (defBody s_Controls_settle) (defScope s_Controls_settle) .none kV18 dc18 pm18 an18 cd18 ct18), sl18⟩)
    (c18 : PySem.W.codeIn K cd18 "Controls.settle" = true)
    (k18 : PySem.W.keepIn K (.ref f18) = true)
    (a19 : PySem.W.findIn K (.ref aControls) "settled" = some (some (.ref f19)))
    (i19 : PySem.W.isFn K (.ref f19) = true)
    (l19 : K.lookup f19 = some ⟨oc19, od19, .func (PySem.W.fnOf "settled" "Controls.settled" (defArgs s_Controls_settled) (defBody s_Controls_settled) (defScope s_Controls_settled) .none kV19 dc19 pm19 an19 cd19 ct19), sl19⟩)
    (c19 : PySem.W.codeIn K cd19 "Controls.settled" = true)
    (k19 : PySem.W.keepIn K (.ref f19) = true)
    (a20 : PySem.W.findIn K (.ref aControls) "settle_select" = some (some (.ref f20)))
    (i20 : PySem.W.isFn K (.ref f20) = true)
    (l20 : K.lookup f20 = some ⟨oc20, od20, .func (PySem.W.fnOf "settle_select" "Controls.settle_select" (defArgs s_Controls_settle_select) (defBody s_Controls_settle_select) (defScope s_Controls_settle_select) .none kV20 dc20 pm20 an20 cd20 ct20), sl20⟩)
    (c20 : PySem.W.codeIn K cd20 "Controls.settle_select" = true)
    (k20 : PySem.W.keepIn K (.ref f20) = true)
    (a21 : PySem.W.findIn K (.ref aControls) "shown" = some (some (.ref f21)))
    (i21 : PySem.W.isFn K (.ref f21) = true)
    (l21 : K.lookup f21 = some ⟨oc21, od21, .func (PySem.W.fnOf "shown" "Controls.shown" (defArgs s_Controls_shown) (defBody s_Controls_shown) (defScope s_Controls_shown) .none kV21 dc21 pm21 an21 cd21 ct21), sl21⟩)
    (c21 : PySem.W.codeIn K cd21 "Controls.shown" = true)
    (k21 : PySem.W.keepIn K (.ref f21) = true)
    (a22 : PySem.W.findIn K (.ref aControls) "show" = some (some (.ref f22)))
    (i22 : PySem.W.isFn K (.ref f22) = true)
    (l22 : K.lookup f22 = some ⟨oc22, od22, .func (PySem.W.fnOf "show" "Controls.show" (defArgs s_Controls_show) (defBody s_Controls_show) (defScope s_Controls_show) .none kV22 dc22 pm22 an22 cd22 ct22), sl22⟩)
    (c22 : PySem.W.codeIn K cd22 "Controls.show" = true)
    (k22 : PySem.W.keepIn K (.ref f22) = true)
    (a23 : PySem.W.nsIn K mainGlobals "send" = some (some (.ref f23)))
    (l23 : K.lookup f23 = some ⟨oc23, od23, .func (PySem.W.fnOf "send" "send" (defArgs s_send) (defBody s_send) (defScope s_send) .none kV23 dc23 pm23 an23 cd23 ct23), sl23⟩)
    (c23 : PySem.W.codeIn K cd23 "send" = true)
    (k23 : PySem.W.keepIn K (.ref f23) = true)
    (a24 : PySem.W.nsIn K mainGlobals "settle" = some (some (.ref f24)))
    (l24 : K.lookup f24 = some ⟨oc24, od24, .func (PySem.W.fnOf "settle" "settle" (defArgs s_settle) (defBody s_settle) (defScope s_settle) .none kV24 dc24 pm24 an24 cd24 ct24), sl24⟩)
    (c24 : PySem.W.codeIn K cd24 "settle" = true)
    (k24 : PySem.W.keepIn K (.ref f24) = true)
    (a25 : PySem.W.nsIn K mainGlobals "click" = some (some (.ref f25)))
    (l25 : K.lookup f25 = some ⟨oc25, od25, .func (PySem.W.fnOf "click" "click" (defArgs s_click) (defBody s_click) (defScope s_click) .none kV25 dc25 pm25 an25 cd25 ct25), sl25⟩)
    (c25 : PySem.W.codeIn K cd25 "click" = true)
    (k25 : PySem.W.keepIn K (.ref f25) = true)
    (a26 : PySem.W.nsIn K mainGlobals "active_part" = some (some (.ref f26)))
    (l26 : K.lookup f26 = some ⟨oc26, od26, .func (PySem.W.fnOf "active_part" "active_part" (defArgs s_active_part) (defBody s_active_part) (defScope s_active_part) .none kV26 dc26 pm26 an26 cd26 ct26), sl26⟩)
    (c26 : PySem.W.codeIn K cd26 "active_part" = true)
    (k26 : PySem.W.keepIn K (.ref f26) = true)
    (a27 : PySem.W.nsIn K mainGlobals "click_box" = some (some (.ref f27)))
    (l27 : K.lookup f27 = some ⟨oc27, od27, .func (PySem.W.fnOf "click_box" "click_box" (defArgs s_click_box) (defBody s_click_box) (defScope s_click_box) .none kV27 dc27 pm27 an27 cd27 ct27), sl27⟩)
    (c27 : PySem.W.codeIn K cd27 "click_box" = true)
    (k27 : PySem.W.keepIn K (.ref f27) = true)
    (a28 : PySem.W.nsIn K mainGlobals "is_box" = some (some (.ref f28)))
    (l28 : K.lookup f28 = some ⟨oc28, od28, .func (PySem.W.fnOf "is_box" "is_box" (defArgs s_is_box) (defBody s_is_box) (defScope s_is_box) .none kV28 dc28 pm28 an28 cd28 ct28), sl28⟩)
    (c28 : PySem.W.codeIn K cd28 "is_box" = true)
    (k28 : PySem.W.keepIn K (.ref f28) = true)
    (a29 : PySem.W.nsIn K mainGlobals "choose_option" = some (some (.ref f29)))
    (l29 : K.lookup f29 = some ⟨oc29, od29, .func (PySem.W.fnOf "choose_option" "choose_option" (defArgs s_choose_option) (defBody s_choose_option) (defScope s_choose_option) .none kV29 dc29 pm29 an29 cd29 ct29), sl29⟩)
    (c29 : PySem.W.codeIn K cd29 "choose_option" = true)
    (k29 : PySem.W.keepIn K (.ref f29) = true)
    (a30 : PySem.W.nsIn K mainGlobals "set_to" = some (some (.ref f30)))
    (l30 : K.lookup f30 = some ⟨oc30, od30, .func (PySem.W.fnOf "set_to" "set_to" (defArgs s_set_to) (defBody s_set_to) (defScope s_set_to) .none kV30 dc30 pm30 an30 cd30 ct30), sl30⟩)
    (c30 : PySem.W.codeIn K cd30 "set_to" = true)
    (k30 : PySem.W.keepIn K (.ref f30) = true)
    (a31 : PySem.W.nsIn K mainGlobals "can_prevent" = some (some (.ref f31)))
    (l31 : K.lookup f31 = some ⟨oc31, od31, .func (PySem.W.fnOf "can_prevent" "can_prevent" (defArgs s_can_prevent) (defBody s_can_prevent) (defScope s_can_prevent) .none kV31 dc31 pm31 an31 cd31 ct31), sl31⟩)
    (c31 : PySem.W.codeIn K cd31 "can_prevent" = true)
    (k31 : PySem.W.keepIn K (.ref f31) = true)
    (a32 : PySem.W.nsIn K mainGlobals "copied_names" = some (some (.ref f32)))
    (l32 : K.lookup f32 = some ⟨oc32, od32, .func (PySem.W.fnOf "copied_names" "copied_names" (defArgs s_copied_names) (defBody s_copied_names) (defScope s_copied_names) .none kV32 dc32 pm32 an32 cd32 ct32), sl32⟩)
    (c32 : PySem.W.codeIn K cd32 "copied_names" = true)
    (k32 : PySem.W.keepIn K (.ref f32) = true)
    (a33 : PySem.W.findIn K (.ref aRehearsal) "__init__" = some (some (.ref f33)))
    (i33 : PySem.W.isFn K (.ref f33) = true)
    (l33 : K.lookup f33 = some ⟨oc33, od33, .func (PySem.W.fnOf "__init__" "Rehearsal.__init__" (defArgs s_Rehearsal___init__) (defBody s_Rehearsal___init__) (defScope s_Rehearsal___init__) .none kV33 dc33 pm33 an33 cd33 ct33), sl33⟩)
    (c33 : PySem.W.codeIn K cd33 "Rehearsal.__init__" = true)
    (k33 : PySem.W.keepIn K (.ref f33) = true)
    (a34 : PySem.W.findIn K (.ref aRehearsal) "controls" = some (some (.ref p34)))
    (pq34 : PySem.W.specialIn K (.ref p34) "__get__" = some (some (.builtin "property.__get__")))
    (pt34 : PySem.W.takesIn K (.ref p34) = some true)
    (pr34 : PySem.W.recIn K p34 "property" = some (.ref f34 :: rs34))
    (l34 : K.lookup f34 = some ⟨oc34, od34, .func (PySem.W.fnOf "controls" "Rehearsal.controls" (defArgs s_Rehearsal_controls) (defBody s_Rehearsal_controls) (defScope s_Rehearsal_controls) .none kV34 dc34 pm34 an34 cd34 ct34), sl34⟩)
    (c34 : PySem.W.codeIn K cd34 "Rehearsal.controls" = true)
    (k34 : PySem.W.keepIn K (.ref f34) = true)
    (a35 : PySem.W.findIn K (.ref aRehearsal) "send_event" = some (some (.ref f35)))
    (i35 : PySem.W.isFn K (.ref f35) = true)
    (l35 : K.lookup f35 = some ⟨oc35, od35, .func (PySem.W.fnOf "send_event" "Rehearsal.send_event" (defArgs s_Rehearsal_send_event) (defBody s_Rehearsal_send_event) (defScope s_Rehearsal_send_event) .none kV35 dc35 pm35 an35 cd35 ct35), sl35⟩)
    (c35 : PySem.W.codeIn K cd35 "Rehearsal.send_event" = true)
    (k35 : PySem.W.keepIn K (.ref f35) = true)
    (a36 : PySem.W.nsIn K mainGlobals "_law_rows" = some (some (.ref f36)))
    (l36 : K.lookup f36 = some ⟨oc36, od36, .func (PySem.W.fnOf "_law_rows" "_law_rows" (defArgs s__law_rows) (defBody s__law_rows) (defScope s__law_rows) .none kV36 dc36 pm36 an36 cd36 ct36), sl36⟩)
    (c36 : PySem.W.codeIn K cd36 "_law_rows" = true)
    (k36 : PySem.W.keepIn K (.ref f36) = true)
    (a37 : PySem.W.nsIn K mainGlobals "_law_attributes" = some (some (.ref f37)))
    (l37 : K.lookup f37 = some ⟨oc37, od37, .func (PySem.W.fnOf "_law_attributes" "_law_attributes" (defArgs s__law_attributes) (defBody s__law_attributes) (defScope s__law_attributes) .none kV37 dc37 pm37 an37 cd37 ct37), sl37⟩)
    (c37 : PySem.W.codeIn K cd37 "_law_attributes" = true)
    (k37 : PySem.W.keepIn K (.ref f37) = true)
    (a38 : PySem.W.nsIn K mainGlobals "_law_nodes" = some (some (.ref f38)))
    (l38 : K.lookup f38 = some ⟨oc38, od38, .func (PySem.W.fnOf "_law_nodes" "_law_nodes" (defArgs s__law_nodes) (defBody s__law_nodes) (defScope s__law_nodes) .none kV38 dc38 pm38 an38 cd38 ct38), sl38⟩)
    (c38 : PySem.W.codeIn K cd38 "_law_nodes" = true)
    (k38 : PySem.W.keepIn K (.ref f38) = true)
    (a39 : PySem.W.nsIn K mainGlobals "_law_document" = some (some (.ref f39)))
    (l39 : K.lookup f39 = some ⟨oc39, od39, .func (PySem.W.fnOf "_law_document" "_law_document" (defArgs s__law_document) (defBody s__law_document) (defScope s__law_document) .none kV39 dc39 pm39 an39 cd39 ct39), sl39⟩)
    (c39 : PySem.W.codeIn K cd39 "_law_document" = true)
    (k39 : PySem.W.keepIn K (.ref f39) = true)
    (a40 : PySem.W.nsIn K mainGlobals "_law_all" = some (some (.ref f40)))
    (l40 : K.lookup f40 = some ⟨oc40, od40, .func (PySem.W.fnOf "_law_all" "_law_all" (defArgs s__law_all) (defBody s__law_all) (defScope s__law_all) .none kV40 dc40 pm40 an40 cd40 ct40), sl40⟩)
    (c40 : PySem.W.codeIn K cd40 "_law_all" = true)
    (k40 : PySem.W.keepIn K (.ref f40) = true)
    (a41 : PySem.W.nsIn K mainGlobals "_law_attribute" = some (some (.ref f41)))
    (l41 : K.lookup f41 = some ⟨oc41, od41, .func (PySem.W.fnOf "_law_attribute" "_law_attribute" (defArgs s__law_attribute) (defBody s__law_attribute) (defScope s__law_attribute) .none kV41 dc41 pm41 an41 cd41 ct41), sl41⟩)
    (c41 : PySem.W.codeIn K cd41 "_law_attribute" = true)
    (k41 : PySem.W.keepIn K (.ref f41) = true)
    (a42 : PySem.W.nsIn K mainGlobals "_law_kind" = some (some (.ref f42)))
    (l42 : K.lookup f42 = some ⟨oc42, od42, .func (PySem.W.fnOf "_law_kind" "_law_kind" (defArgs s__law_kind) (defBody s__law_kind) (defScope s__law_kind) .none kV42 dc42 pm42 an42 cd42 ct42), sl42⟩)
    (c42 : PySem.W.codeIn K cd42 "_law_kind" = true)
    (k42 : PySem.W.keepIn K (.ref f42) = true)
    (a43 : PySem.W.nsIn K mainGlobals "_law_shut" = some (some (.ref f43)))
    (l43 : K.lookup f43 = some ⟨oc43, od43, .func (PySem.W.fnOf "_law_shut" "_law_shut" (defArgs s__law_shut) (defBody s__law_shut) (defScope s__law_shut) .none kV43 dc43 pm43 an43 cd43 ct43), sl43⟩)
    (c43 : PySem.W.codeIn K cd43 "_law_shut" = true)
    (k43 : PySem.W.keepIn K (.ref f43) = true)
    (a44 : PySem.W.nsIn K mainGlobals "_law_bound" = some (some (.ref f44)))
    (l44 : K.lookup f44 = some ⟨oc44, od44, .func (PySem.W.fnOf "_law_bound" "_law_bound" (defArgs s__law_bound) (defBody s__law_bound) (defScope s__law_bound) .none kV44 dc44 pm44 an44 cd44 ct44), sl44⟩)
    (c44 : PySem.W.codeIn K cd44 "_law_bound" = true)
    (k44 : PySem.W.keepIn K (.ref f44) = true)
    (a45 : PySem.W.nsIn K mainGlobals "_law_part" = some (some (.ref f45)))
    (l45 : K.lookup f45 = some ⟨oc45, od45, .func (PySem.W.fnOf "_law_part" "_law_part" (defArgs s__law_part) (defBody s__law_part) (defScope s__law_part) .none kV45 dc45 pm45 an45 cd45 ct45), sl45⟩)
    (c45 : PySem.W.codeIn K cd45 "_law_part" = true)
    (k45 : PySem.W.keepIn K (.ref f45) = true)
    (a46 : PySem.W.nsIn K mainGlobals "_law_select" = some (some (.ref f46)))
    (l46 : K.lookup f46 = some ⟨oc46, od46, .func (PySem.W.fnOf "_law_select" "_law_select" (defArgs s__law_select) (defBody s__law_select) (defScope s__law_select) .none kV46 dc46 pm46 an46 cd46 ct46), sl46⟩)
    (c46 : PySem.W.codeIn K cd46 "_law_select" = true)
    (k46 : PySem.W.keepIn K (.ref f46) = true)
    (a47 : PySem.W.nsIn K mainGlobals "_law_due" = some (some (.ref f47)))
    (l47 : K.lookup f47 = some ⟨oc47, od47, .func (PySem.W.fnOf "_law_due" "_law_due" (defArgs s__law_due) (defBody s__law_due) (defScope s__law_due) .none kV47 dc47 pm47 an47 cd47 ct47), sl47⟩)
    (c47 : PySem.W.codeIn K cd47 "_law_due" = true)
    (k47 : PySem.W.keepIn K (.ref f47) = true)
    (a48 : PySem.W.nsIn K mainGlobals "law" = some (some (.ref f48)))
    (l48 : K.lookup f48 = some ⟨oc48, od48, .func (PySem.W.fnOf "law" "law" (defArgs s_law) (defBody s_law) (defScope s_law) .none kV48 dc48 pm48 an48 cd48 ct48), sl48⟩)
    (c48 : PySem.W.codeIn K cd48 "law" = true)
    (k48 : PySem.W.keepIn K (.ref f48) = true)
    : ∃ fd : FuncData, (∀ (s : Shared) (v : Value), BindsTo s fd ⟨[v], []⟩ [("script", v)]) ∧ ∀ base : Heap, K.In base → base.Ns mainGlobals mg → FnOk l.prog w K mg base CX0 30 fa fd ["script"] (spLaw K) := by
  have e := hfa.symm.trans (PySem.W.mg_of X G a48)
  cases e
  have F1 := fun_mk (st := s_walk) l1 c1 k1
  have b1 := F1.binds (ps := ["document"]) fun _ _ _ _ _ _ us hl => match us, hl with | [_], _ => rfl
  have F2 := fun_mk (st := s_kids_in) l2 c2 k2
  have b2 := F2.binds (ps := ["node"]) fun _ _ _ _ _ _ us hl => match us, hl with | [_], _ => rfl
  have F3 := fun_mk (st := s_find_node) l3 c3 k3
  have b3 := F3.binds (ps := ["document", "number"]) fun _ _ _ _ _ _ us hl => match us, hl with | [_, _], _ => rfl
  have F4 := fun_mk (st := s_nodes_on_path) l4 c4 k4
  have b4 := F4.binds (ps := ["document", "number"]) fun _ _ _ _ _ _ us hl => match us, hl with | [_, _], _ => rfl
  have F5 := fun_mk (st := s_is_disabled) l5 c5 k5
  have b5 := F5.binds (ps := ["document", "number"]) fun _ _ _ _ _ _ us hl => match us, hl with | [_, _], _ => rfl
  have F6 := fun_mk (st := s_attribute_in) l6 c6 k6
  have b6 := F6.binds (ps := ["node", "name"]) fun _ _ _ _ _ _ us hl => match us, hl with | [_, _], _ => rfl
  have F7 := fun_mk (st := s_copied) l7 c7 k7
  have b7 := F7.binds (ps := ["value"]) fun _ _ _ _ _ _ us hl => match us, hl with | [_], _ => rfl
  have F8 := fun_mk (st := s_copy_of) l8 c8 k8
  have b8 := F8.binds (ps := ["value"]) fun _ _ _ _ _ _ us hl => match us, hl with | [_], _ => rfl
  have F9 := fun_mk (st := s_kind_of_control) l9 c9 k9
  have b9 := F9.binds (ps := ["node"]) fun _ _ _ _ _ _ us hl => match us, hl with | [_], _ => rfl
  have F10 := fun_mk (st := s_open_values) l10 c10 k10
  have b10 := F10.binds (ps := ["document", "select"]) fun _ _ _ _ _ _ us hl => match us, hl with | [_, _], _ => rfl
  have F11 := fun_mk (st := s_is_option) l11 c11 k11
  have b11 := F11.binds (ps := ["node"]) fun _ _ _ _ _ _ us hl => match us, hl with | [_], _ => rfl
  have F12 := fun_mk (st := s_value_of_option) l12 c12 k12
  have b12 := F12.binds (ps := ["node"]) fun _ _ _ _ _ _ us hl => match us, hl with | [_], _ => rfl
  have F13 := fun_mk (st := s_bound_text) l13 c13 k13
  have b13 := F13.binds (ps := ["node", "kind"]) fun _ _ _ _ _ _ us hl => match us, hl with | [_, _], _ => rfl
  have F14 := fun_mk (st := s_shown_for) l14 c14 k14
  have b14 := F14.binds (ps := ["text", "kind"]) fun _ _ _ _ _ _ us hl => match us, hl with | [_, _], _ => rfl
  have F15 := fun_mk (st := s_Controls___init__) l15 c15 k15
  have b15 := F15.binds (ps := ["self"]) fun _ _ _ _ _ _ us hl => match us, hl with | [_], _ => rfl
  have F16 := fun_mk (st := s_Controls___len__) l16 c16 k16
  have b16 := F16.binds (ps := ["self"]) fun _ _ _ _ _ _ us hl => match us, hl with | [_], _ => rfl
  have F17 := fun_mk (st := s_Controls___contains__) l17 c17 k17
  have b17 := F17.binds (ps := ["self", "number"]) fun _ _ _ _ _ _ us hl => match us, hl with | [_, _], _ => rfl
  have F18 := fun_mk (st := s_Controls_settle) l18 c18 k18
  have b18 := F18.binds (ps := ["self", "document"]) fun _ _ _ _ _ _ us hl => match us, hl with | [_, _], _ => rfl
  have F19 := fun_mk (st := s_Controls_settled) l19 c19 k19
  have b19 := F19.binds (ps := ["self", "node", "kind", "before"]) fun _ _ _ _ _ _ us hl => match us, hl with | [_, _, _, _], _ => rfl
  have F20 := fun_mk (st := s_Controls_settle_select) l20 c20 k20
  have b20 := F20.binds (ps := ["self", "document", "node"]) fun _ _ _ _ _ _ us hl => match us, hl with | [_, _, _], _ => rfl
  have F21 := fun_mk (st := s_Controls_shown) l21 c21 k21
  have b21 := F21.binds (ps := ["self", "number"]) fun _ _ _ _ _ _ us hl => match us, hl with | [_, _], _ => rfl
  have F22 := fun_mk (st := s_Controls_show) l22 c22 k22
  have b22 := F22.binds (ps := ["self", "number", "value"]) fun _ _ _ _ _ _ us hl => match us, hl with | [_, _, _], _ => rfl
  have F23 := fun_mk (st := s_send) l23 c23 k23
  have b23 := F23.binds (ps := ["root", "number", "event", "details"]) fun _ _ _ _ _ _ us hl => match us, hl with | [_, _, _, _], _ => rfl
  have F24 := fun_mk (st := s_settle) l24 c24 k24
  have b24 := F24.binds (ps := ["root"]) fun _ _ _ _ _ _ us hl => match us, hl with | [_], _ => rfl
  have F25 := fun_mk (st := s_click) l25 c25 k25
  have b25 := F25.binds (ps := ["root", "number"]) fun _ _ _ _ _ _ us hl => match us, hl with | [_, _], _ => rfl
  have F26 := fun_mk (st := s_active_part) l26 c26 k26
  have b26 := F26.binds (ps := ["root", "number"]) fun _ _ _ _ _ _ us hl => match us, hl with | [_, _], _ => rfl
  have F27 := fun_mk (st := s_click_box) l27 c27 k27
  have b27 := F27.binds (ps := ["root", "number", "box"]) fun _ _ _ _ _ _ us hl => match us, hl with | [_, _, _], _ => rfl
  have F28 := fun_mk (st := s_is_box) l28 c28 k28
  have b28 := F28.binds (ps := ["root", "number"]) fun _ _ _ _ _ _ us hl => match us, hl with | [_, _], _ => rfl
  have F29 := fun_mk (st := s_choose_option) l29 c29 k29
  have b29 := F29.binds (ps := ["root", "number"]) fun _ _ _ _ _ _ us hl => match us, hl with | [_, _], _ => rfl
  have F30 := fun_mk (st := s_set_to) l30 c30 k30
  have b30 := F30.binds (ps := ["root", "number", "kind", "text"]) fun _ _ _ _ _ _ us hl => match us, hl with | [_, _, _, _], _ => rfl
  have F31 := fun_mk (st := s_can_prevent) l31 c31 k31
  have b31 := F31.binds (ps := ["event"]) fun _ _ _ _ _ _ us hl => match us, hl with | [_], _ => rfl
  have F32 := fun_mk (st := s_copied_names) l32 c32 k32
  have b32 := F32.binds (ps := ["environment"]) fun _ _ _ _ _ _ us hl => match us, hl with | [_], _ => rfl
  have F33 := fun_mk (st := s_Rehearsal___init__) l33 c33 k33
  have b33 := fun_kbn F33 (ps := ["self", "document", "prevented"]) 2 ["prevented"] fun _ _ _ _ _ _ us ws hl hw => match us, ws, hl, hw with | [_, _], [_], _, _ => rfl
  have F34 := fun_mk (st := s_Rehearsal_controls) l34 c34 k34
  have b34 := F34.binds (ps := ["self"]) fun _ _ _ _ _ _ us hl => match us, hl with | [_], _ => rfl
  have F35 := fun_mk (st := s_Rehearsal_send_event) l35 c35 k35
  have b35 := F35.binds (ps := ["self", "number", "event", "details"]) fun _ _ _ _ _ _ us hl => match us, hl with | [_, _, _, _], _ => rfl
  have F36 := fun_mk (st := s__law_rows) l36 c36 k36
  have b36 := F36.binds (ps := ["script", "count"]) fun _ _ _ _ _ _ us hl => match us, hl with | [_, _], _ => rfl
  have F37 := fun_mk (st := s__law_attributes) l37 c37 k37
  have b37 := F37.binds (ps := ["row"]) fun _ _ _ _ _ _ us hl => match us, hl with | [_], _ => rfl
  have F38 := fun_mk (st := s__law_nodes) l38 c38 k38
  have b38 := F38.binds (ps := ["rows", "world", "depth"]) fun _ _ _ _ _ _ us hl => match us, hl with | [_, _, _], _ => rfl
  have F39 := fun_mk (st := s__law_document) l39 c39 k39
  have b39 := F39.binds (ps := ["rows", "seed", "many"]) fun _ _ _ _ _ _ us hl => match us, hl with | [_, _, _], _ => rfl
  have F40 := fun_mk (st := s__law_all) l40 c40 k40
  have b40 := F40.binds (ps := ["nodes", "around"]) fun _ _ _ _ _ _ us hl => match us, hl with | [_, _], _ => rfl
  have F41 := fun_mk (st := s__law_attribute) l41 c41 k41
  have b41 := F41.binds (ps := ["node", "name"]) fun _ _ _ _ _ _ us hl => match us, hl with | [_, _], _ => rfl
  have F42 := fun_mk (st := s__law_kind) l42 c42 k42
  have b42 := F42.binds (ps := ["node"]) fun _ _ _ _ _ _ us hl => match us, hl with | [_], _ => rfl
  have F43 := fun_mk (st := s__law_shut) l43 c43 k43
  have b43 := F43.binds (ps := ["node", "around"]) fun _ _ _ _ _ _ us hl => match us, hl with | [_, _], _ => rfl
  have F44 := fun_mk (st := s__law_bound) l44 c44 k44
  have b44 := F44.binds (ps := ["node"]) fun _ _ _ _ _ _ us hl => match us, hl with | [_], _ => rfl
  have F45 := fun_mk (st := s__law_part) l45 c45 k45
  have b45 := F45.binds (ps := ["node", "around"]) fun _ _ _ _ _ _ us hl => match us, hl with | [_, _], _ => rfl
  have F46 := fun_mk (st := s__law_select) l46 c46 k46
  have b46 := F46.binds (ps := ["around", "option"]) fun _ _ _ _ _ _ us hl => match us, hl with | [_, _], _ => rfl
  have F47 := fun_mk (st := s__law_due) l47 c47 k47
  have b47 := F47.binds (ps := ["node", "around", "shown", "prevented"]) fun _ _ _ _ _ _ us hl => match us, hl with | [_, _, _, _], _ => rfl
  have T : Txt K w mg ⟨(), aControls, aRehearsal⟩ := {
    g_Controls := ⟨_, PySem.W.mg_of X G q_Controls, rfl⟩,
    cl_Controls := ⟨pg_Controls, hd_Controls, po_Controls, sa_Controls⟩,
    n_Controls_known := n_Controls_known,
    g_Rehearsal := ⟨_, PySem.W.mg_of X G q_Rehearsal, rfl⟩,
    cl_Rehearsal := ⟨pg_Rehearsal, hd_Rehearsal, po_Rehearsal, sa_Rehearsal⟩,
    n_Rehearsal_document := n_Rehearsal_document,
    n_Rehearsal_panel := n_Rehearsal_panel,
    n_Rehearsal_sent := n_Rehearsal_sent,
    n_Rehearsal_prevented := n_Rehearsal_prevented,
    z_any := PySem.W.mg_none_of X G z_any,
    z_dict := PySem.W.mg_none_of X G z_dict,
    z_int := PySem.W.mg_none_of X G z_int,
    z_isinstance := PySem.W.mg_none_of X G z_isinstance,
    z_len := PySem.W.mg_none_of X G z_len,
    z_list := PySem.W.mg_none_of X G z_list,
    z_property := PySem.W.mg_none_of X G z_property,
    z_range := PySem.W.mg_none_of X G z_range,
    z_reversed := PySem.W.mg_none_of X G z_reversed,
    z_str := PySem.W.mg_none_of X G z_str,
    z_tuple := PySem.W.mg_none_of X G z_tuple,
    g_CONTROLS := ⟨_, ⟨_, PySem.W.mg_of X G g_CONTROLS, rfl⟩, fun H => .inr ⟨_, _, _, tl_CONTROLS, rfl, rfl, tz_CONTROLS, tv_CONTROLS⟩, ⟨_, _, _, tl_CONTROLS, rfl, rfl, tz_CONTROLS, tv_CONTROLS, rfl⟩⟩,
    g_EVENTS_TO_THE_END := ⟨_, ⟨_, PySem.W.mg_of X G g_EVENTS_TO_THE_END, rfl⟩, fun H => .inr ⟨_, _, _, tl_EVENTS_TO_THE_END, rfl, rfl, tz_EVENTS_TO_THE_END, tv_EVENTS_TO_THE_END⟩, ⟨_, _, _, tl_EVENTS_TO_THE_END, rfl, rfl, tz_EVENTS_TO_THE_END, tv_EVENTS_TO_THE_END, rfl⟩⟩,
    d_walk := ⟨_, _, F1, PySem.W.mg_of X G a1, b1⟩,
    d_kids_in := ⟨_, _, F2, PySem.W.mg_of X G a2, b2⟩,
    d_find_node := ⟨_, _, F3, PySem.W.mg_of X G a3, b3⟩,
    d_nodes_on_path := ⟨_, _, F4, PySem.W.mg_of X G a4, b4⟩,
    d_is_disabled := ⟨_, _, F5, PySem.W.mg_of X G a5, b5⟩,
    d_attribute_in := ⟨_, _, F6, PySem.W.mg_of X G a6, b6⟩,
    d_copied := ⟨_, _, F7, PySem.W.mg_of X G a7, b7⟩,
    d_copy_of := ⟨_, _, F8, PySem.W.mg_of X G a8, b8⟩,
    d_kind_of_control := ⟨_, _, F9, PySem.W.mg_of X G a9, b9⟩,
    d_open_values := ⟨_, _, F10, PySem.W.mg_of X G a10, b10⟩,
    d_is_option := ⟨_, _, F11, PySem.W.mg_of X G a11, b11⟩,
    d_value_of_option := ⟨_, _, F12, PySem.W.mg_of X G a12, b12⟩,
    d_bound_text := ⟨_, _, F13, PySem.W.mg_of X G a13, b13⟩,
    d_shown_for := ⟨_, _, F14, PySem.W.mg_of X G a14, b14⟩,
    i_Controls := ⟨_, _, F15, ⟨mk_Controls, a15, i15, kc_Controls⟩, PySem.W.mg_of X G q_Controls, b15⟩,
    m_Controls___len__ := ⟨_, _, F16, ⟨a16, i16, k16⟩, b16⟩,
    m_Controls___contains__ := ⟨_, _, F17, ⟨a17, i17, k17⟩, b17⟩,
    m_Controls_settle := ⟨_, _, F18, ⟨a18, i18, k18⟩, b18⟩,
    m_Controls_settled := ⟨_, _, F19, ⟨a19, i19, k19⟩, b19⟩,
    m_Controls_settle_select := ⟨_, _, F20, ⟨a20, i20, k20⟩, b20⟩,
    m_Controls_shown := ⟨_, _, F21, ⟨a21, i21, k21⟩, b21⟩,
    m_Controls_show := ⟨_, _, F22, ⟨a22, i22, k22⟩, b22⟩,
    d_send := ⟨_, _, F23, PySem.W.mg_of X G a23, b23⟩,
    d_settle := ⟨_, _, F24, PySem.W.mg_of X G a24, b24⟩,
    d_click := ⟨_, _, F25, PySem.W.mg_of X G a25, b25⟩,
    d_active_part := ⟨_, _, F26, PySem.W.mg_of X G a26, b26⟩,
    d_click_box := ⟨_, _, F27, PySem.W.mg_of X G a27, b27⟩,
    d_is_box := ⟨_, _, F28, PySem.W.mg_of X G a28, b28⟩,
    d_choose_option := ⟨_, _, F29, PySem.W.mg_of X G a29, b29⟩,
    d_set_to := ⟨_, _, F30, PySem.W.mg_of X G a30, b30⟩,
    d_can_prevent := ⟨_, _, F31, PySem.W.mg_of X G a31, b31⟩,
    d_copied_names := ⟨_, _, F32, PySem.W.mg_of X G a32, b32⟩,
    i_Rehearsal := ⟨_, _, F33, ⟨mk_Rehearsal, a33, i33, kc_Rehearsal⟩, PySem.W.mg_of X G q_Rehearsal, b33⟩,
    p_Rehearsal_controls := ⟨_, _, _, ⟨a34, pq34, pt34, _, pr34⟩, F34, b34⟩,
    m_Rehearsal_send_event := ⟨_, _, F35, ⟨a35, i35, k35⟩, b35⟩,
    d__law_rows := ⟨_, _, F36, PySem.W.mg_of X G a36, b36⟩,
    d__law_attributes := ⟨_, _, F37, PySem.W.mg_of X G a37, b37⟩,
    d__law_nodes := ⟨_, _, F38, PySem.W.mg_of X G a38, b38⟩,
    d__law_document := ⟨_, _, F39, PySem.W.mg_of X G a39, b39⟩,
    d__law_all := ⟨_, _, F40, PySem.W.mg_of X G a40, b40⟩,
    d__law_attribute := ⟨_, _, F41, PySem.W.mg_of X G a41, b41⟩,
    d__law_kind := ⟨_, _, F42, PySem.W.mg_of X G a42, b42⟩,
    d__law_shut := ⟨_, _, F43, PySem.W.mg_of X G a43, b43⟩,
    d__law_bound := ⟨_, _, F44, PySem.W.mg_of X G a44, b44⟩,
    d__law_part := ⟨_, _, F45, PySem.W.mg_of X G a45, b45⟩,
    d__law_select := ⟨_, _, F46, PySem.W.mg_of X G a46, b46⟩,
    d__law_due := ⟨_, _, F47, PySem.W.mg_of X G a47, b47⟩ }
  exact ⟨_, fun s v => .of_eq rfl, fun base _ _ => ok_law (fun_mk (st := s_law) l48 c48 k48) T⟩
theorem walk {l : PySem.W.OpenLaw} {q : Program} {loose : List Str} {XP : (Str → Option Value) → Heap → Prop} {YP : World → Heap → Prop} {d : DefRec} {K : Params → PySem.W.Frag} (hn : l.most = some 63) (hdf : d.params.defaults = [])
    (hY : ∀ (w : World) (h : Heap), YP w h → (K w.params).In h)
    (F : ∀ (w : World) (mg : Str → Option Value) (fa : Addr) (h : Heap), (K w.params).In h → h.Ns mainGlobals mg → mg d.name = some (.ref fa) →
      ∃ fd : FuncData, (∀ (s : Shared) (u : Value), BindsTo s fd ⟨[u], []⟩ [("script", u)]) ∧ ∀ base : Heap, (K w.params).In base → base.Ns mainGlobals mg → FnOk l.prog w (K w.params) mg base CX0 30 fa fd ["script"] (spLaw (K w.params))) :
    PySem.W.WalkO q loose XP YP l.row.toRowW d [] (fun f vs => PySem.call f vs) :=
  L2.walk_of (n := 63) (k := 30) (x := "script") (CX := fun _ => CX0) (sp := fun w => spLaw (K w.params)) hn (by decide) hdf ⟨rfl, by decide, by decide⟩ hY F (fun _ _ a ns hl _ hS => ⟨a, ns, rfl, hS, hl, fun _ => rfl⟩) fun _ _ _ _ _ z => z
end VL

open PySem PySem.W PyProof.Rows in
set_option maxRecDepth 100000 in
set_option maxHeartbeats 0 in
set_option pp.maxSteps 60 in
theorem PySem.Challenge.cw_viewloom_k63_clicks_holds : PySem.Challenge.rw_viewloom_k63_clicks.Holds := by
  w_on; o_law; k_head; (case hw => w_witness2)
  k_fill
  refine VL.walk (l := PySem.Challenge.rw_viewloom_k63_clicks) rfl rfl (fun w h Y => PySem.W.kIn_of Y) ?F
  case F =>
    intro w mg fa h KX G hmg
    refine' VL.all_mk KX G hmg ?q_Controls ?pg_Controls ?hd_Controls ?po_Controls ?sa_Controls ?mk_Controls ?kc_Controls ?n_Controls_known ?q_Rehearsal ?pg_Rehearsal ?hd_Rehearsal ?po_Rehearsal ?sa_Rehearsal ?mk_Rehearsal ?kc_Rehearsal ?n_Rehearsal_document ?n_Rehearsal_panel ?n_Rehearsal_sent ?n_Rehearsal_prevented ?z_any ?z_dict ?z_int ?z_isinstance ?z_len ?z_list ?z_property ?z_range ?z_reversed ?z_str ?z_tuple ?g_CONTROLS ?tl_CONTROLS ?tz_CONTROLS ?tv_CONTROLS ?g_EVENTS_TO_THE_END ?tl_EVENTS_TO_THE_END ?tz_EVENTS_TO_THE_END ?tv_EVENTS_TO_THE_END ?a1 ?l1 ?c1 ?k1 ?a2 ?l2 ?c2 ?k2 ?a3 ?l3 ?c3 ?k3 ?a4 ?l4 ?c4 ?k4 ?a5 ?l5 ?c5 ?k5 ?a6 ?l6 ?c6 ?k6 ?a7 ?l7 ?c7 ?k7 ?a8 ?l8 ?c8 ?k8 ?a9 ?l9 ?c9 ?k9 ?a10 ?l10 ?c10 ?k10 ?a11 ?l11 ?c11 ?k11 ?a12 ?l12 ?c12 ?k12 ?a13 ?l13 ?c13 ?k13 ?a14 ?l14 ?c14 ?k14 ?a15 ?i15 ?l15 ?c15 ?k15 ?a16 ?i16 ?l16 ?c16 ?k16 ?a17 ?i17 ?l17 ?c17 ?k17 ?a18 ?i18 ?l18 ?c18 ?k18 ?a19 ?i19 ?l19 ?c19 ?k19 ?a20 ?i20 ?l20 ?c20 ?k20 ?a21 ?i21 ?l21 ?c21 ?k21 ?a22 ?i22 ?l22 ?c22 ?k22 ?a23 ?l23 ?c23 ?k23 ?a24 ?l24 ?c24 ?k24 ?a25 ?l25 ?c25 ?k25 ?a26 ?l26 ?c26 ?k26 ?a27 ?l27 ?c27 ?k27 ?a28 ?l28 ?c28 ?k28 ?a29 ?l29 ?c29 ?k29 ?a30 ?l30 ?c30 ?k30 ?a31 ?l31 ?c31 ?k31 ?a32 ?l32 ?c32 ?k32 ?a33 ?i33 ?l33 ?c33 ?k33 ?a34 ?pq34 ?pt34 ?pr34 ?l34 ?c34 ?k34 ?a35 ?i35 ?l35 ?c35 ?k35 ?a36 ?l36 ?c36 ?k36 ?a37 ?l37 ?c37 ?k37 ?a38 ?l38 ?c38 ?k38 ?a39 ?l39 ?c39 ?k39 ?a40 ?l40 ?c40 ?k40 ?a41 ?l41 ?c41 ?k41 ?a42 ?l42 ?c42 ?k42 ?a43 ?l43 ?c43 ?k43 ?a44 ?l44 ?c44 ?k44 ?a45 ?l45 ?c45 ?k45 ?a46 ?l46 ?c46 ?k46 ?a47 ?l47 ?c47 ?k47 ?a48 ?l48 ?c48 ?k48
    (case q_Controls => k_is)
    (case pg_Controls => k_is)
    (case hd_Controls => k_is)
    (case po_Controls => k_is)
    (case sa_Controls => k_is)
    (case mk_Controls => k_is)
    (case kc_Controls => k_is)
    (case n_Controls_known => k_is)
    (case q_Rehearsal => k_is)
    (case pg_Rehearsal => k_is)
    (case hd_Rehearsal => k_is)
    (case po_Rehearsal => k_is)
    (case sa_Rehearsal => k_is)
    (case mk_Rehearsal => k_is)
    (case kc_Rehearsal => k_is)
    (case n_Rehearsal_document => k_is)
    (case n_Rehearsal_panel => k_is)
    (case n_Rehearsal_sent => k_is)
    (case n_Rehearsal_prevented => k_is)
    (case z_any => k_is)
    (case z_dict => k_is)
    (case z_int => k_is)
    (case z_isinstance => k_is)
    (case z_len => k_is)
    (case z_list => k_is)
    (case z_property => k_is)
    (case z_range => k_is)
    (case z_reversed => k_is)
    (case z_str => k_is)
    (case z_tuple => k_is)
    (case g_CONTROLS => k_is)
    (case tl_CONTROLS => k_is)
    (case tz_CONTROLS => show 3 ≤ sizeLine; decide)
    (case tv_CONTROLS => exact (.cons ⟨_, rfl⟩ (.cons ⟨_, rfl⟩ (.cons ⟨_, rfl⟩ .nil))))
    (case g_EVENTS_TO_THE_END => k_is)
    (case tl_EVENTS_TO_THE_END => k_is)
    (case tz_EVENTS_TO_THE_END => show 2 ≤ sizeLine; decide)
    (case tv_EVENTS_TO_THE_END => exact (.cons ⟨_, rfl⟩ (.cons ⟨_, rfl⟩ .nil)))
    (case a1 => k_is)
    (case l1 => k_is)
    (case c1 => k_is)
    (case k1 => k_is)
    (case a2 => k_is)
    (case l2 => k_is)
    (case c2 => k_is)
    (case k2 => k_is)
    (case a3 => k_is)
    (case l3 => k_is)
    (case c3 => k_is)
    (case k3 => k_is)
    (case a4 => k_is)
    (case l4 => k_is)
    (case c4 => k_is)
    (case k4 => k_is)
    (case a5 => k_is)
    (case l5 => k_is)
    (case c5 => k_is)
    (case k5 => k_is)
    (case a6 => k_is)
    (case l6 => k_is)
    (case c6 => k_is)
    (case k6 => k_is)
    (case a7 => k_is)
    (case l7 => k_is)
    (case c7 => k_is)
    (case k7 => k_is)
    (case a8 => k_is)
    (case l8 => k_is)
    (case c8 => k_is)
    (case k8 => k_is)
    (case a9 => k_is)
    (case l9 => k_is)
    (case c9 => k_is)
    (case k9 => k_is)
    (case a10 => k_is)
    (case l10 => k_is)
    (case c10 => k_is)
    (case k10 => k_is)
    (case a11 => k_is)
    (case l11 => k_is)
    (case c11 => k_is)
    (case k11 => k_is)
    (case a12 => k_is)
    (case l12 => k_is)
    (case c12 => k_is)
    (case k12 => k_is)
    (case a13 => k_is)
    (case l13 => k_is)
    (case c13 => k_is)
    (case k13 => k_is)
    (case a14 => k_is)
    (case l14 => k_is)
    (case c14 => k_is)
    (case k14 => k_is)
    (case a15 => k_is)
    (case i15 => k_is)
    (case l15 => k_is)
    (case c15 => k_is)
    (case k15 => k_is)
    (case a16 => k_is)
    (case i16 => k_is)
    (case l16 => k_is)
    (case c16 => k_is)
    (case k16 => k_is)
    (case a17 => k_is)
    (case i17 => k_is)
    (case l17 => k_is)
    (case c17 => k_is)
    (case k17 => k_is)
    (case a18 => k_is)
    (case i18 => k_is)
    (case l18 => k_is)
    (case c18 => k_is)
    (case k18 => k_is)
    (case a19 => k_is)
    (case i19 => k_is)
    (case l19 => k_is)
    (case c19 => k_is)
    (case k19 => k_is)
    (case a20 => k_is)
    (case i20 => k_is)
    (case l20 => k_is)
    (case c20 => k_is)
    (case k20 => k_is)
    (case a21 => k_is)
    (case i21 => k_is)
    (case l21 => k_is)
    (case c21 => k_is)
    (case k21 => k_is)
    (case a22 => k_is)
    (case i22 => k_is)
    (case l22 => k_is)
    (case c22 => k_is)
    (case k22 => k_is)
    (case a23 => k_is)
    (case l23 => k_is)
    (case c23 => k_is)
    (case k23 => k_is)
    (case a24 => k_is)
    (case l24 => k_is)
    (case c24 => k_is)
    (case k24 => k_is)
    (case a25 => k_is)
    (case l25 => k_is)
    (case c25 => k_is)
    (case k25 => k_is)
    (case a26 => k_is)
    (case l26 => k_is)
    (case c26 => k_is)
    (case k26 => k_is)
    (case a27 => k_is)
    (case l27 => k_is)
    (case c27 => k_is)
    (case k27 => k_is)
    (case a28 => k_is)
    (case l28 => k_is)
    (case c28 => k_is)
    (case k28 => k_is)
    (case a29 => k_is)
    (case l29 => k_is)
    (case c29 => k_is)
    (case k29 => k_is)
    (case a30 => k_is)
    (case l30 => k_is)
    (case c30 => k_is)
    (case k30 => k_is)
    (case a31 => k_is)
    (case l31 => k_is)
    (case c31 => k_is)
    (case k31 => k_is)
    (case a32 => k_is)
    (case l32 => k_is)
    (case c32 => k_is)
    (case k32 => k_is)
    (case a33 => k_is)
    (case i33 => k_is)
    (case l33 => k_is)
    (case c33 => k_is)
    (case k33 => k_is)
    (case a34 => k_is)
    (case pq34 => k_is)
    (case pt34 => k_is)
    (case pr34 => k_is)
    (case l34 => k_is)
    (case c34 => k_is)
    (case k34 => k_is)
    (case a35 => k_is)
    (case i35 => k_is)
    (case l35 => k_is)
    (case c35 => k_is)
    (case k35 => k_is)
    (case a36 => k_is)
    (case l36 => k_is)
    (case c36 => k_is)
    (case k36 => k_is)
    (case a37 => k_is)
    (case l37 => k_is)
    (case c37 => k_is)
    (case k37 => k_is)
    (case a38 => k_is)
    (case l38 => k_is)
    (case c38 => k_is)
    (case k38 => k_is)
    (case a39 => k_is)
    (case l39 => k_is)
    (case c39 => k_is)
    (case k39 => k_is)
    (case a40 => k_is)
    (case l40 => k_is)
    (case c40 => k_is)
    (case k40 => k_is)
    (case a41 => k_is)
    (case l41 => k_is)
    (case c41 => k_is)
    (case k41 => k_is)
    (case a42 => k_is)
    (case l42 => k_is)
    (case c42 => k_is)
    (case k42 => k_is)
    (case a43 => k_is)
    (case l43 => k_is)
    (case c43 => k_is)
    (case k43 => k_is)
    (case a44 => k_is)
    (case l44 => k_is)
    (case c44 => k_is)
    (case k44 => k_is)
    (case a45 => k_is)
    (case l45 => k_is)
    (case c45 => k_is)
    (case k45 => k_is)
    (case a46 => k_is)
    (case l46 => k_is)
    (case c46 => k_is)
    (case k46 => k_is)
    (case a47 => k_is)
    (case l47 => k_is)
    (case c47 => k_is)
    (case k47 => k_is)
    (case a48 => k_is)
    (case l48 => k_is)
    (case c48 => k_is)
    (case k48 => k_is)
#print axioms PySem.Challenge.cw_viewloom_k63_clicks_holds
