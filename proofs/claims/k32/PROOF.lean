import PyProof.Rows.All
import Wide.All
import OpenK.AllK
import Wide.FinOn
import HandS.ForMost
import HandS.More
import HandS.Codes
import HandS.Ends
import PyProof.ReprRoads
import PyProof.ReprReads
import PyProof.RowDictHeap
import HandS.DictComp
import HandS.Walk
import HandS.Defaults
import HandS.Property
import HandS.ClsMeth
import HandS.ExcIs
import HandS.RaiseMore
import HandS.ForExc
import HandS.IsInst
import HandS.DeepEq
import HandS.Deep
import HandS.StrMore
import PyProof.DictUpdate
import PyProof.DictDisplay
import HandS.OwnEq
import PyProof.InstEq
import HandS.GenOver
import HandS.GenList
import HandS.Comp
import KE.KDictPairs
import HandS.Rev
import HandS.Nested
import HandS.ExcInit
import KE.KSuper
import KE.KExcSuper
import HandS.ExcField
import HandS.FStr
import KE.KExcIs
import HandS.ExcOwn
import HandS.HotCalls
import HandS.TupLe
import HandS.Wide
import KE.KOwnIter
import KE.KDictIter
import KE.DataEq
import KE.GoesEnum
import HandS.SortRule
import HandS.DictTup
import HandS.ListItems
import KE.KSortTupAny
import KE.KEqDict
import HandS.SortKw
import HandS.Style
import KE.DatumOrd
import HandS.List
import HandS.Steps
import HandS.Iter
import HandS.Zip
import HandS.TupAny
import PySem.Challenge.RW_viewloom_k32_careful_lists
set_option Elab.async false
set_option linter.all false
set_option maxRecDepth 100000
set_option maxHeartbeats 4000000
namespace VL
open PySem PySem.Spec PyProof.Rows L2

/-! ### defs, methods, classes, as callers see them -/
structure Cal (P : Program) (w : World) (K : PySem.W.Frag) (mg : Str → Option Value) (base : Heap) (k : Nat) (x : Str) (sp : Sp) : Prop where
  ex : ∃ (f : Addr) (fd : FuncData) (ps : List Str), FnOk P w K mg base CX0 k f fd ps sp ∧ mg x = some (.ref f) ∧ PySem.W.keepIn K (.ref f) = true ∧ Binds K fd ps []
structure Met (P : Program) (w : World) (K : PySem.W.Frag) (mg : Str → Option Value) (base : Heap) (k : Nat) (C : Addr) (m : Str) (sp : Sp) : Prop where
  ex : ∃ (f : Addr) (fd : FuncData) (ps : List Str), Cls K C ∧ Meth K C m f ∧ FnOk P w K mg base CX0 k f fd ps sp ∧ Binds K fd ps []
structure Mak (P : Program) (w : World) (K : PySem.W.Frag) (mg : Str → Option Value) (base : Heap) (k : Nat) (x : Str) (C : Addr) (sp : Sp) : Prop where
  ex : ∃ (f : Addr) (fd : FuncData) (ps : List Str), Mk K C f ∧ FnOk P w K mg base CX0 k f fd ps sp ∧ mg x = some (.ref C) ∧ Binds K fd ps []
section
variable {X : Cx} {k j : Nat} {C : Addr} {x m : Str} {sp : Sp} {p pos apos : Pos} {e o : Expr} {es : List Expr} {ta : TE} {t : TA}
theorem pe_c (c : Cal X.prog X.w X.K X.mg X.base k x sp) (hr : Room j X.A) (hk : k ≤ j) (hg : Gl X x) (ha : PA X (e :: es) t)
    (hdb : (x == ("__debug__" : Str)) = false := by decide) (he : starEach (e :: es) X.env = (false, eval e X.env) :: starEach es X.env := by rfl) (hpl : (backTo pos (starEach es X.env)).any (·.1) = false := by rfl) :
    PE X (.Call (.Name x p) (e :: es) [] pos) (tCall sp [] E0 t) := by
  obtain ⟨f, fd, ps, F, hm, kp, b⟩ := c.ex
  exact pe_call F (hr.mono hk) hg hm kp b .nil pass0 ha hdb he hpl
theorem pe_mk (c : Mak X.prog X.w X.K X.mg X.base k x C sp) (hr : Room j X.A) (hk : k + 1 ≤ j) (hg : Gl X x) (ha : PA X (e :: es) t)
    (hdb : (x == ("__debug__" : Str)) = false := by decide) (he : starEach (e :: es) X.env = (false, eval e X.env) :: starEach es X.env := by rfl) (hpl : (backTo pos (starEach es X.env)).any (·.1) = false := by rfl) :
    PE X (.Call (.Name x p) (e :: es) [] pos) (tMake C sp [] E0 t) := by
  obtain ⟨f, fd, ps, M, F, hm, b⟩ := c.ex
  exact pe_make M F (hr.mono hk) hg hm b .nil pass0 ha hdb he hpl
theorem pe_mk0 (c : Mak X.prog X.w X.K X.mg X.base k x C sp) (hr : Room j X.A) (hk : k + 1 ≤ j) (hg : Gl X x) (hdb : (x == ("__debug__" : Str)) = false := by decide) :
    PE X (.Call (.Name x p) [] [] pos) (tMake C sp [] E0 tNil) := by
  obtain ⟨f, fd, ps, M, F, hm, b⟩ := c.ex
  exact pe_make0 M F (hr.mono hk) hg hm b .nil pass0 hdb
theorem pe_mt {pl : Sem Bool} (c : Met X.prog X.w X.K X.mg X.base k C m sp) (hr : Room j X.A) (hk : k ≤ j) (he : PE X o ta) (ha : PA X (e :: es) t)
    (hst : starEach (e :: es) X.env = (false, eval e X.env) :: starEach es X.env := by rfl) (hpl : (backTo pos (starEach es X.env)).any (·.1) = false := by rfl)
    (ht : eval (.Call (.Attribute o m apos) (e :: es) [] pos) X.env = (do
      let ov ← eval o X.env
      standAt apos.atName
      let (f, first) ← holding [ov] (getMethod ov m pl)
      callWith pos f first (backTo pos (starEach (e :: es) X.env)) (backToKw pos (keywordEach [] X.env))) := by rfl) :
    PE X (.Call (.Attribute o m apos) (e :: es) [] pos) (tMeth C m sp [] E0 ta t) := by
  obtain ⟨f, fd, ps, hc, hm, F, b⟩ := c.ex
  exact pe_meth (pl := pl) he hc hm F (hr.mono hk) b .nil pass0 ha hst hpl ht
theorem pe_mt0 {pl : Sem Bool} (c : Met X.prog X.w X.K X.mg X.base k C m sp) (hr : Room j X.A) (hk : k ≤ j) (he : PE X o ta)
    (ht : eval (.Call (.Attribute o m apos) [] [] pos) X.env = (do
      let ov ← eval o X.env
      standAt apos.atName
      let (f, first) ← holding [ov] (getMethod ov m pl)
      callWith pos f first (backTo pos (starEach [] X.env)) (backToKw pos (keywordEach [] X.env))) := by rfl) :
    PE X (.Call (.Attribute o m apos) [] [] pos) (tMeth C m sp [] E0 ta tNil) := by
  obtain ⟨f, fd, ps, hc, hm, F, b⟩ := c.ex
  exact pe_meth0 (pl := pl) he hc hm F (hr.mono hk) b .nil pass0 ht
end

/-! ### what the text has -/
def DefE (K : PySem.W.Frag) (mg : Str → Option Value) (x : Str) (st : Stmt) (ps : List Str) : Prop := ∃ (f : Addr) (fd : FuncData), Fun K x x st f fd ∧ mg x = some (.ref f) ∧ Binds K fd ps []
def MethE (K : PySem.W.Frag) (C : Addr) (x qual : Str) (st : Stmt) (ps : List Str) : Prop := ∃ (f : Addr) (fd : FuncData), Fun K x qual st f fd ∧ Meth K C x f ∧ Binds K fd ps []
def InitE (K : PySem.W.Frag) (mg : Str → Option Value) (cn : Str) (C : Addr) (qual : Str) (st : Stmt) (ps : List Str) : Prop := ∃ (f : Addr) (fd : FuncData), Fun K "__init__" qual st f fd ∧ Mk K C f ∧ mg cn = some (.ref C) ∧ Binds K fd ps []
/-- a global name of the module has the value v -/
abbrev GV (mg : Str → Option Value) (x : Str) (v : V) : Prop := ∃ u, mg x = some u ∧ RelV v u
section
variable {P : Program} {w : World} {K : PySem.W.Frag} {mg : Str → Option Value} {base : Heap}
theorem cal_of {x : Str} {st : Stmt} {ps N : List Str} {k : Nat} {sp : Sp} (D : DefE K mg x st ps) (S : FnScope N ps (defScope st)) (len : ∀ vs H Q E, sp vs H Q E → vs.length = ps.length)
    (hbody : ∀ (f : Addr) (cdv : Value) (A : Around) (outer : List Env) (s : Shared) (H : Hp) (vs : List V) (Q : VK) (E : XK), Room k (A.deeper (envOfC x (defScope st) s.heap.objs.size f cdv)) → sp vs H Q E →
      ∃ t, PSs (cxOf CX0 P w K mg base N x (defScope st) f cdv A outer s H E).nox (defBody st) t ∧ t { nx := fun _ H' => Q .non H', rt := Q } (start N vs) H) : Cal P w K mg base (k + 1) x sp := by
  obtain ⟨f, fd, F, hm, b⟩ := D
  exact ⟨f, fd, ps, F.ok S len (hbody f), hm, F.kp, b⟩
theorem met_of {C : Addr} {x qual : Str} {st : Stmt} {ps N : List Str} {k : Nat} {sp : Sp} (D : MethE K C x qual st ps) (c : Cls K C) (S : FnScope N ps (defScope st)) (len : ∀ vs H Q E, sp vs H Q E → vs.length = ps.length)
    (hbody : ∀ (f : Addr) (cdv : Value) (A : Around) (outer : List Env) (s : Shared) (H : Hp) (vs : List V) (Q : VK) (E : XK), Room k (A.deeper (envOfC qual (defScope st) s.heap.objs.size f cdv)) → sp vs H Q E →
      ∃ t, PSs (cxOf CX0 P w K mg base N qual (defScope st) f cdv A outer s H E).nox (defBody st) t ∧ t { nx := fun _ H' => Q .non H', rt := Q } (start N vs) H) : Met P w K mg base (k + 1) C x sp := by
  obtain ⟨f, fd, F, hm, b⟩ := D
  exact ⟨f, fd, ps, c, hm, F.ok S len (hbody f), b⟩
theorem mak_of {C : Addr} {cn qual : Str} {st : Stmt} {ps N : List Str} {k : Nat} {sp : Sp} (D : InitE K mg cn C qual st ps) (S : FnScope N ps (defScope st)) (len : ∀ vs H Q E, sp vs H Q E → vs.length = ps.length)
    (hbody : ∀ (f : Addr) (cdv : Value) (A : Around) (outer : List Env) (s : Shared) (H : Hp) (vs : List V) (Q : VK) (E : XK), Room k (A.deeper (envOfC qual (defScope st) s.heap.objs.size f cdv)) → sp vs H Q E →
      ∃ t, PSs (cxOf CX0 P w K mg base N qual (defScope st) f cdv A outer s H E).nox (defBody st) t ∧ t { nx := fun _ H' => Q .non H', rt := Q } (start N vs) H) : Mak P w K mg base (k + 1) cn C sp := by
  obtain ⟨f, fd, F, M, hm, b⟩ := D
  exact ⟨f, fd, ps, M, F.ok S len (hbody f), hm, b⟩
end
theorem ps_str_loc : True := trivial
end VL

set_option Elab.async false
set_option linter.all false
set_option maxRecDepth 100000
set_option maxHeartbeats 4000000
namespace VL
open PySem PySem.Spec PyProof.Rows L2

/-! ### a def that is called where nothing is being shown: the law's own; repr of nested data there -/
structure FnG (P : Program) (w : World) (K : PySem.W.Frag) (mg : Str → Option Value) (base : Heap) (k : Nat) (f : Addr) (fd : FuncData) (ps : List Str) (sp : Sp) : Prop where
  run : ∀ (A : Around) (outer : List Env) (s : Shared) (H : Hp) (args : Args) (us : List Value) (vs : List V) (Q : VK) (E : XK), A.guards = some [] → Room k A → Env0 P w K mg base A outer s H → BindsTo s fd args (ps.zip us) → Vals vs us → sp vs H Q E →
    codeAny (model P w) A (.call (.ref f) args) (CR CX0 outer P w H s Q E) s
theorem fnG_of {P : Program} {w : World} {K : PySem.W.Frag} {mg : Str → Option Value} {base : Heap} {x qual : Str} {st : Stmt} {f : Addr} {fd : FuncData} {N ps : List Str} {k : Nat} {sp : Sp} (F : Fun K x qual st f fd) (S : FnScope N ps (defScope st)) (len : ∀ vs H Q E, sp vs H Q E → vs.length = ps.length)
    (hb0 : ∀ (cdv : Value) (A : Around) (outer : List Env) (s : Shared) (H : Hp) (vs : List V) (Q : VK) (E : XK), A.guards = some [] → Room k (A.deeper (envOfC qual (defScope st) s.heap.objs.size f cdv)) → sp vs H Q E →
      ∃ t, PSs (cxOf CX0 P w K mg base N qual (defScope st) f cdv A outer s H E).nox (defBody st) t ∧ t { nx := fun _ H' => Q .non H', rt := Q } (start N vs) H) : FnG P w K mg base (k + 1) f fd ps sp := by
  obtain ⟨oc, od, kV, doc, pm, an, cdv, ct, osl, rfl, lk, hcd⟩ := F.ex
  refine ⟨fun A outer s H args us vs Q E gd hr en hb rv hsp => ?_⟩
  have hlen := len _ _ _ _ hsp
  have kin : K.In s.heap := en.mod.kin.keeps fun b o e => (en.bs b o e).1
  have nl : s.heap.NoLimit := en.mod.nolimit.keeps fun b o e => (en.bs b o e).1
  have kinds : ∀ y ∈ ps.zip us, (defScope st).names.lookup y.1 = some .local ∨ ((defScope st).names.lookup y.1 = some .cell ∧ ((cellsFrom (s.heap.objs.size + 1) (defScope st).names []).lookup y.1).isSome = true) := fun ⟨n, v⟩ hy => by
    rcases S.par n (List.of_mem_zip hy).1 with c | c
    · exact .inl c
    · exact .inr ⟨c, PySem.W.cellsFrom_some _ _ _ (.inl c)⟩
  refine codeAny_call_function hr.depth (kin _ _ lk) rfl S.co S.gen rfl (PySem.W.codeRec_of kin hcd) (hb _ _ _ _ ?_)
  refine wpAny_newFunctionEnv_cells S.kind kinds fun env he s1 ic => ?_
  subst he
  refine ⟨nl.keeps ic.toInCall.keep, codeAny_func ?_⟩
  obtain ⟨t, hd, hq⟩ := hb0 cdv A outer s H vs Q E gd (hr.deeper _) hsp
  have J0 : Inv (cxOf CX0 P w K mg base N qual (defScope st) f cdv A outer s H E) [] (start N vs) H s1 := inv_start S hr.hd en hlen rv ic
  refine wpAny_mono (hd.nox.run [] s1 (start N vs) H _ J0 hq) (fun fl s2 hs => ?_) fun e s2 hs => hs
  have done : ∀ {σ2 : L2.St} {H2 : Hp} {v : V} {u : Value}, Inv (cxOf CX0 P w K mg base N qual (defScope st) f cdv A outer s H E) [] σ2 H2 s2 → RelV v u → Q v H2 → CE outer P w H s Q u s2 :=
    fun {σ2 H2 v u} J rw q => ⟨v, H2, J.os, J.bare, J.base, J.hok, rw, q⟩
  cases fl with
  | ret u =>
    obtain ⟨v, σ2, H2, J, rw, q⟩ := hs
    exact done J rw q
  | next =>
    obtain ⟨σ2, H2, J, q⟩ := hs
    exact done (v := V.non) (u := Value.none) J rfl q
  | brk => exact hs.elim fun _ z => z.elim fun _ z => z.2.elim
  | cont => exact hs.elim fun _ z => z.elim fun _ z => z.2.elim
/-- the law's call, where nothing is being shown -/
theorem law_callG {P : Program} {w : World} {K : PySem.W.Frag} {mg mb : Str → Option Value} {k : Nat} {fa a : Addr} {fd : FuncData} {x : Str} {sp : Sp} {s₁ : Shared} {vs : List Value} {ns : List Int}
    (kin : K.In s₁.heap) (ng : s₁.heap.Ns mainGlobals mg) (nb : s₁.heap.Ns builtinsNs mb) (bb : ∀ x : Str, x ≠ "__name__" → mb x = bootBuiltins x) (nl : s₁.heap.NoLimit) (hgen : s₁.gens = #[])
    (ea : s₁.heap.get? a = some { cls := .type "list", data := .seq vs.toArray }) (hi : IntsAre vs ns) (hz : ns.length ≤ sizeLine) (hr : Room k callerA)
    (F : ∀ base : Heap, K.In base → base.Ns mainGlobals mg → FnG P w K mg base k fa fd [x] sp) (hbind : ∀ (s : Shared) (u : Value), BindsTo s fd ⟨[u], []⟩ [(x, u)])
    (hsp : ∀ H : Hp, Only H → SqL K H a (ns.map V.int) → sp [.ref a] H (fun v _ => v = .bl true) fun _ _ _ => False) :
    codeAny (model P w) callerA (.call (.ref fa) ⟨[.ref a], []⟩) (fun r s2 => r = .ok (.ret (.bool true)) ∧ OldK s₁.heap s2.heap ∧ s2.os = s₁.os ∧ AllBare s2.gens) s₁ := by
  have rel := vals_ints hi
  have lv := hi.length
  have go : ∀ H : Hp, Only H → SqL K H a (ns.map V.int) → HOk P w H s₁.heap → (∀ b, H b ≠ none → b = a) → (H a ≠ none → K.lookup a = none) →
      codeAny (model P w) callerA (.call (.ref fa) ⟨[.ref a], []⟩) (fun r s2 => r = .ok (.ret (.bool true)) ∧ OldK s₁.heap s2.heap ∧ s2.os = s₁.os ∧ AllBare s2.gens) s₁ := by
    intro H ho hq ok only out
    have low : ∀ {b : Addr} {o : Obj}, s₁.heap.get? b = some o → H b = none → (hidT s₁.heap H).get? b = some o := fun e n => hidT_get e n
    have nod : ∀ {b : Addr} {o : Obj} {es : Array DictEntry} {ep : Nat}, s₁.heap.get? b = some o → o.data = .dict es ep → H b = none := fun {b o es ep} e d => by
      cases c : H b with
      | none => rfl
      | some u =>
        obtain rfl : b = a := only b (by rw [c]; simp)
        rw [ea] at e
        cases e
        exact nomatch (show Data.seq vs.toArray _ = Data.dict es ep from d)
    have nsl : ∀ {b : Addr} {m : Str → Option Value}, s₁.heap.Ns b m → (hidT s₁.heap H).Ns b m := fun {b m} ⟨o, es, ep, e, d, r⟩ => ⟨o, es, ep, low e (nod e d), d, r⟩
    have kl : K.In (hidT s₁.heap H) := fun b o e => low (kin b o e) (by
      cases c : H b with
      | none => rfl
      | some u =>
        obtain rfl : b = a := only b (by rw [c]; simp)
        rw [out (by rw [c]; simp)] at e
        exact nomatch e)
    have md : Mod K mg (hidT s₁.heap H) := ⟨kl, nsl ng, ⟨mb, nsl nb, bb⟩, let ⟨mc, h1, h2⟩ := nl; ⟨mc, nsl h1, h2⟩⟩
    have en : Env0 P w K mg (hidT s₁.heap H) callerA [] s₁ H := ⟨rfl, md, fun b o e => of_hidT e, Nat.le_of_eq (hidT_size _ _), trivial, fun b hb => absurd (show b ∈ ([] : List Addr) from hb) (by simp), ok, .of_eq hgen⟩
    refine codeAny_mono ((F _ kl (nsl ng)).run callerA [] s₁ H ⟨[.ref a], []⟩ [.ref a] [.ref a] _ _ rfl hr en (hbind s₁ (.ref a)) (.cons rfl .nil) (hsp H ho hq)) fun r s2 h => ?_
    cases r with
    | error e => exact False.elim h
    | ok fl =>
      cases fl with
      | next => exact h.elim
      | brk => exact h.elim
      | cont => exact h.elim
      | ret u =>
        obtain ⟨v, H2, os, bare, un, ok2, r2, q⟩ := h
        obtain rfl : v = .bl true := q
        obtain rfl : u = Value.bool true := r2
        refine ⟨rfl, OldK.of_keep fun b o e => ?_, os, bare⟩
        cases c : H b with
        | none => exact un.keep b o e c (by intro z; exact absurd (show b ∈ ([] : List Addr) from z) (by simp)) (by simp)
        | some u =>
          rcases ho b with z | ⟨ob, xs, z⟩
          · exact nomatch c.symm.trans z
          · obtain ⟨e1, _⟩ := ok b _ z
            obtain ⟨e2, _⟩ := ok2 b _ (un.frzs b ob _ z)
            rw [e] at e1
            cases e1
            exact e2
  cases hk : K.lookup a with
  | some o =>
    have e := kin a o hk
    rw [ea] at e
    cases e
    exact go (fun _ => none) (fun _ => .inl rfl) (.inr ⟨_, vs.toArray, _, hk, rfl, rfl, rfl, by rw [List.size_toArray, lv]; exact hz, by simpa using rel⟩) (fun b u z => nomatch (show (none : Option HO) = some u from z)) (fun b z => absurd rfl z) fun z => absurd rfl z
  | none =>
    refine go (fun b => if b = a then some (.frz { cls := .type "list", data := .seq vs.toArray } (.lst (ns.map V.int))) else none) (fun b => ?_) (.inl (.inr ⟨{ cls := .type "list", data := .seq vs.toArray }, if_pos rfl⟩)) (fun b u z => ?_) (fun b z => ?_) fun _ => hk
    · by_cases hb : b = a
      · exact Or.inr ⟨_, _, if_pos hb⟩
      · exact Or.inl (if_neg hb)
    · by_cases hb : b = a
      · cases (if_pos hb).symm.trans z
        subst hb
        exact ⟨ea, by rw [List.length_map]; exact hz, vs, _, rel, ea⟩
      · exact nomatch (if_neg hb).symm.trans z
    · by_cases hb : b = a
      · exact hb
      · exact absurd (if_neg hb) z
theorem walk_ofG {l : PySem.W.OpenLaw} {n k : Nat} {q : Program} {loose : List Str} {XP : (Str → Option Value) → Heap → Prop} {YP : World → Heap → Prop} {d : DefRec} {K : Params → PySem.W.Frag} {sp : World → Sp} {x : Str}
    (hn : l.most = some n) (hn2 : n ≤ sizeLine) (hdf : d.params.defaults = []) (hr : Room k callerA) (hY : ∀ (w : World) (h : Heap), YP w h → (K w.params).In h)
    (F : ∀ (w : World) (mg : Str → Option Value) (fa : Addr) (h : Heap), (K w.params).In h → h.Ns mainGlobals mg → mg d.name = some (.ref fa) →
      ∃ fd : FuncData, (∀ (s : Shared) (u : Value), BindsTo s fd ⟨[u], []⟩ [(x, u)]) ∧ ∀ base : Heap, (K w.params).In base → base.Ns mainGlobals mg → FnG l.prog w (K w.params) mg base k fa fd [x] (sp w))
    (hsp : ∀ (w : World) (H : Hp) (a : Addr) (ns : List Int), ns.length ≤ n → Only H → SqL (K w.params) H a (ns.map V.int) → sp w [.ref a] H (fun v _ => v = .bl true) fun _ _ _ => False) :
    PySem.W.WalkO q loose XP YP l.row.toRowW d [] (fun f vs => PySem.call f vs) := by
  refine Att.attach_call hn hdf fun w s₀ s₁ mg mb fa o pm cd doc a vs ns G Y ho hd hcd hmg hobj hints hlen hgen => ?_
  have kin := hY w _ Y
  obtain ⟨fd, hb, hF⟩ := F w mg fa _ kin G.T.g hmg
  exact law_callG kin G.T.g G.T.b G.T.builtins G.T.nolimit hgen hobj hints (Nat.le_trans hlen hn2) hr hF hb fun H ho hq => hsp w H a ns hlen ho hq
end VL

set_option Elab.async false
set_option linter.all false
set_option maxRecDepth 100000
set_option maxHeartbeats 4000000
namespace VL
open PySem PySem.Spec PyProof.Rows L2 PyProof.V

/-! ### repr of a dict of nested data, where nothing is being shown -/
def enK : Key → PyData
  | .inl i => .int i
  | .inr x => .str x
def zipK : List (Key × V) → List PyData → List (PyData × PyData)
  | p :: ks, d :: ds => (enK p.1, d) :: zipK ks ds
  | _, _ => []
theorem zipK_vals : ∀ {ks : List (Key × V)} {ds : List PyData}, ks.length = ds.length → (zipK ks ds).map (·.2) = ds
  | [], [], _ => rfl
  | p :: ks, d :: ds, h => by
    show d :: (zipK ks ds).map (·.2) = d :: ds
    rw [zipK_vals (Nat.succ.inj h)]
theorem dpAll_len {K : PySem.W.Frag} {H : Hp} : ∀ {vs : List V} {ds : List PyData}, DpAll K H vs ds → vs.length = ds.length
  | _, _, .nil => rfl
  | _, _, .cons _ h => by simp [dpAll_len h]
section
variable {X : Cx} {pins : List (Addr × Obj)} {σ : L2.St} {H : Hp} {s : Shared}
theorem enK_reads {h : Heap} {P : Program} {w : World} (k : Key) (key : Value) (e : (mixKind P w).is k key = true) : Reads h key (enK k) [] := by
  rcases keyIs_shape (show keyIs k key = true from e) with ⟨i, t, rfl, rfl⟩ | ⟨x, t, rfl, rfl⟩
  · exact Reads.int i t
  · exact Reads.str x t
theorem pairs_read (I : Inv X pins σ H s) : ∀ {ks : List (Key × V)} {vs : List (Key × Value)} {ds : List PyData}, KV ks vs → DpAll X.K H (ks.map (·.2)) ds → ∃ bs, PairsRead s.heap enK vs (zipK ks ds) bs
  | [], _, _, r, h => by
    cases r
    exact ⟨[], by unfold zipK; exact .nil⟩
  | p :: ks, _, _, r, h => by
    cases r with
    | @cons _ q _ qs h1 h2 =>
      cases h with
      | @cons _ _ d ds g1 g2 =>
        obtain ⟨k, v⟩ := q
        obtain ⟨kp, vp⟩ := p
        obtain ⟨rfl, rv⟩ := h1
        obtain ⟨as, r1⟩ := Dp.reads I d _ _ g1 rv
        obtain ⟨bs, r2⟩ := pairs_read I h2 g2
        exact ⟨as ++ bs, .cons r1 r2⟩
def rRepD (K : PySem.W.Frag) : List V → Hp → VK → Prop := fun xs H Q => ∃ (a : Addr) (ks : List (Key × V)) (ds : List PyData), xs = [.ref a] ∧ H a = some (.dK ks) ∧ DpAll K H (ks.map (·.2)) ds ∧ PyData.showableKv (zipK ks ds) = true ∧ PyData.hasDictAll ds = false ∧
  PyData.depthKv (zipK ks ds) ≤ 40 ∧ (dictText (PyData.shownKv (zipK ks ds))).length ≤ sizeLine ∧ Q (.str (dictText (PyData.shownKv (zipK ks ds)))) H
theorem call_repD (gd : X.A.guards = some []) (hu : X.A.units + 64 < cLine) : CallR X (.builtin "repr") (rRepD X.K) := by
  intro pins s σ H xs us Q I r h
  obtain ⟨a, ks, ds, rfl, ha, hd, sh, nd, dep, len, q⟩ := h
  obtain ⟨u, rfl, ru⟩ := vals1 r
  cases (show u = Value.ref a from ru)
  obtain ⟨_, hsys, vs, rk, dic⟩ := (show ObjOk X.prog X.w H s.heap a (.dK ks) from I.hok a _ ha)
  obtain ⟨bs, pr⟩ := pairs_read I rk hd
  have rd := reads_dictOf (fun k key e => enK_reads k key e) dic pr
  obtain ⟨o, es, ep, ho, hx, hdat, _, hp, _⟩ := dic
  obtain ⟨rk1, rk2⟩ := readsAll_of_pairs (fun k key e => enK_reads k key e) hp pr
  obtain ⟨sh1, sh2⟩ := PyData.showableKv_split _ sh
  have vv : (zipK ks ds).map (·.2) = ds := zipK_vals (by have := dpAll_len hd; rw [List.length_map] at this; exact this)
  obtain ⟨b1, hb1, k1⟩ := ReprAllK.of_readsAll (prog := X.prog) (w := X.w) rk1 sh1 (fun _ z => nomatch z) (fun t ht => let ⟨p, hp, hl⟩ := PyData.shownKv_key_le _ t ht; Nat.le_trans hl (Nat.le_trans (dictText_mem_le hp) len))
  obtain ⟨b2, hb2, k2⟩ := ReprAllK.of_readsAll (prog := X.prog) (w := X.w) rk2 sh2 (fun z => by rw [vv, nd] at z; exact nomatch z) (fun t ht => let ⟨p, hp, hl⟩ := PyData.shownKv_val_le _ t ht; Nat.le_trans hl (Nat.le_trans (dictText_mem_le hp) len))
  have rm : ReadAtMost s.heap (PyData.depthKv (zipK ks ds)) (b1 ++ b2) := (hb1.mono (PyData.depthAll_keys_le _)).append (hb2.mono (PyData.depthAll_vals_le _))
  have na : a ∉ b1 ++ b2 := not_mem_of_deeper rd (by simp only [PyData.depth]; omega) rm
  have EK := ReprEntriesK.of_two es.toList _ _ (k1.more_le (fun b z => List.mem_append_left b2 z) (PyData.depthAll_keys_le (zipK ks ds))) (k2.more_le (fun b z => List.mem_append_right b1 z) (PyData.depthAll_vals_le (zipK ks ds)))
  rw [← PyData.shownKv_eq] at EK
  refine call_repr_slot (T := "dict") (idr := "dict.__repr__") (by omega) ⟨o, ho, hx.1⟩ F.slot_dict_repr (call_dict_reprK (h₀ := s.heap) ho hx.1 hdat hsys na EK gd (fun b _ => Clear.nil b) (by show X.A.units + 1 + (PyData.depthKv (zipK ks ds) + 1) < cLine; omega) (fun _ _ e => e) (fun h2 u tk hk => ?_) len)
  exact ⟨_, _, rfl, .str _, H, I.kept hk, ⟨u, rfl⟩, q⟩
end
theorem strApp (x y : Str) : (x ++ y).length = x.length + y.length := strLen_append x y
theorem textFrom_le : ∀ (ts : List Str) (k : Nat) (acc : Str), (textFrom k acc ts).length ≤ acc.length + piled ts
  | [], k, acc => by show acc.length ≤ _; omega
  | t :: ts, k, acc => by
    have ih := textFrom_le ts (k + 1) (acc ++ (if k > 0 then ", " else "" : String) ++ t)
    have e : (acc ++ (if k > 0 then ", " else "" : String) ++ t).length ≤ acc.length + 2 + t.length := by
      rw [strApp, strApp]
      split
      · exact Nat.le_of_eq rfl
      · show acc.length + 0 + t.length ≤ _
        omega
    show (textFrom (k + 1) (acc ++ (if k > 0 then ", " else "" : String) ++ t) ts).length ≤ _
    have : piled (t :: ts) = t.length + 2 + piled ts := by simp [piled]
    omega
theorem listText_le (ts : List Str) : (listText ts).length ≤ 2 + piled ts := by
  have := textFrom_le ts 0 "["
  have e1 : (("[" : String) : Str).length = 1 := rfl
  have e2 : (("]" : String) : Str).length = 1 := rfl
  unfold listText
  rw [strApp, e2]
  omega
theorem dictText_le (ts : List Str) : (dictText ts).length ≤ 2 + piled ts := by
  have e1 : (("{" : String) : Str).length = 1 := rfl
  have e2 : (("}" : String) : Str).length = 1 := rfl
  unfold dictText
  rw [strApp, strApp, e1, e2]
  by_cases h : ts = []
  · subst h
    show 1 + 0 + 1 ≤ _
    omega
  · have := join_length_add ts h
    omega
theorem piled_le {c : Nat} : ∀ {ts : List Str}, (∀ t ∈ ts, t.length ≤ c) → piled ts ≤ ts.length * (c + 2)
  | [], _ => by simp [piled]
  | t :: ts, h => by
    have ih := piled_le (ts := ts) fun x hx => h x (List.mem_cons_of_mem _ hx)
    have := h t List.mem_cons_self
    have e : piled (t :: ts) = t.length + 2 + piled ts := by simp [piled]
    have e2 : (t :: ts).length * (c + 2) = ts.length * (c + 2) + (c + 2) := by rw [List.length_cons, Nat.succ_mul]
    omega
end VL

set_option Elab.async false
set_option linter.all false
set_option maxRecDepth 100000
set_option maxHeartbeats 4000000
namespace VL
open PySem PySem.Spec PyProof.Rows L2 PyProof.V

/-! ### nested data with dicts: what stands there; repr of it, where nothing is being shown -/
mutual
inductive Dq (H : Hp) : V → PyData → Prop
  | non : Dq H .non .none
  | bl (b : Bool) : Dq H (.bl b) (.bool b)
  | int (i : Int) : Dq H (.int i) (.int i)
  | str (x : Str) : Dq H (.str x) (.str x)
  | lst {a : Addr} {xs : List V} {ds : List PyData} : H a = some (.lst xs) → DqAll H xs ds → Dq H (.ref a) (.list ds)
  | tup {a : Addr} {xs : List V} {ds : List PyData} : H a = some (.tup xs) → DqAll H xs ds → Dq H (.ref a) (.tuple ds)
  | dic {a : Addr} {ks : List (Key × V)} {ds : List PyData} : H a = some (.dK ks) → (ks.map (·.1)).Nodup → DqAll H (ks.map (·.2)) ds → Dq H (.ref a) (.dict (zipK ks ds))
inductive DqAll (H : Hp) : List V → List PyData → Prop
  | nil : DqAll H [] []
  | cons {v : V} {vs : List V} {d : PyData} {ds : List PyData} : Dq H v d → DqAll H vs ds → DqAll H (v :: vs) (d :: ds)
end
theorem DqAll.len {H : Hp} : ∀ {vs : List V} {ds : List PyData}, DqAll H vs ds → vs.length = ds.length
  | _, _, .nil => rfl
  | _, _, .cons _ h => by simp [DqAll.len h]
theorem DqAll.of_each {H : Hp} {P : V → PyData → Prop} : ∀ {vs : List V} {ds : List PyData}, DqAll H vs ds → (∀ v d, Dq H v d → P v d) → Paired P vs ds
  | _, _, .nil, _ => .nil
  | _, _, .cons a b, f => .cons (f _ _ a) (DqAll.of_each b f)
theorem DqAll.paired {H : Hp} : ∀ {vs : List V} {ds : List PyData}, DqAll H vs ds → Paired (Dq H) vs ds
  | _, _, .nil => .nil
  | _, _, .cons a b => .cons a (DqAll.paired b)
theorem DqAll.of_paired {H : Hp} : ∀ {vs : List V} {ds : List PyData}, Paired (Dq H) vs ds → DqAll H vs ds
  | _, _, .nil => .nil
  | _, _, .cons a b => .cons a (DqAll.of_paired b)
theorem dKv_le : ∀ (ks : List (Key × V)) (ds : List PyData), ks.length = ds.length → PyData.depthAll ds ≤ PyData.depthKv (zipK ks ds)
  | [], [], _ => Nat.le_refl _
  | p :: ks, d :: ds, h => by
    have ih := dKv_le ks ds (Nat.succ.inj h)
    show max (PyData.depth d) (PyData.depthAll ds) ≤ max (max (PyData.depth (enK p.1)) (PyData.depth d)) (PyData.depthKv (zipK ks ds))
    omega
theorem dq_mono_n {H H' : Hp} (s : Same H H') : ∀ (n : Nat) (d : PyData) (v : V), PyData.depth d ≤ n → Dq H v d → Dq H' v d := by
  intro n
  induction n with
  | zero =>
    intro d v hn h
    cases h with
    | non => exact .non
    | bl b => exact .bl b
    | int i => exact .int i
    | str x => exact .str x
    | lst _ _ => exact absurd hn (by simp [PyData.depth])
    | tup _ _ => exact absurd hn (by simp [PyData.depth])
    | dic _ _ _ => exact absurd hn (by simp [PyData.depth])
  | succ n ih =>
    have all : ∀ {vs : List V} {ds : List PyData}, DqAll H vs ds → PyData.depthAll ds ≤ n → DqAll H' vs ds := by
      intro vs
      induction vs with
      | nil => intro ds h _; cases h; exact .nil
      | cons v vs iv =>
        intro ds h hd
        cases h with
        | @cons _ _ d ds a b =>
          have hd' : max (PyData.depth d) (PyData.depthAll ds) ≤ n := hd
          exact .cons (ih d v (by omega) a) (iv b (by omega))
    intro d v hn h
    cases h with
    | non => exact .non
    | bl b => exact .bl b
    | int i => exact .int i
    | str x => exact .str x
    | lst h1 h2 => exact .lst (s _ _ h1) (all h2 (by simp only [PyData.depth] at hn; omega))
    | tup h1 h2 => exact .tup (s _ _ h1) (all h2 (by simp only [PyData.depth] at hn; omega))
    | @dic a ks ds h1 nd h2 =>
      have := dKv_le ks ds (by have := h2.len; rwa [List.length_map] at this)
      exact .dic (s _ _ h1) nd (all h2 (by simp only [PyData.depth] at hn; omega))
theorem Dq.same {H H' : Hp} {v : V} {d : PyData} (h : Dq H v d) (s : Same H H') : Dq H' v d := dq_mono_n s _ d v (Nat.le_refl _) h
theorem DqAll.same {H H' : Hp} (s : Same H H') : ∀ {vs : List V} {ds : List PyData}, DqAll H vs ds → DqAll H' vs ds
  | _, _, .nil => .nil
  | _, _, .cons a b => .cons (a.same s) (DqAll.same s b)
section
variable {X : Cx} {pins : List (Addr × Obj)} {σ : L2.St} {H : Hp} {s : Shared}
/-- what repr asks of a value that reads as d -/
def RpOk (X : Cx) (s : Shared) (u : Value) (d : PyData) : Prop := ∃ as bs, Reads s.heap u d as ∧ ReadAtMost s.heap (PyData.depth d) bs ∧ ReprK X.prog X.w bs s.heap (PyData.depth d) u (PyData.shown d)
def RpAll (X : Cx) (s : Shared) (us : List Value) (ds : List PyData) : Prop := ∃ as bs, ReadsAll s.heap us ds as ∧ ReadAtMost s.heap (PyData.depthAll ds) bs ∧ ReprAllK X.prog X.w bs s.heap (PyData.depthAll ds) us (PyData.shownAll ds)
theorem rp_all {n : Nat} (ih : ∀ (d : PyData) (v : V) (u : Value), PyData.depth d ≤ n → Dq H v d → RelV v u → PyData.showable d = true → (PyData.shown d).length ≤ sizeLine → RpOk X s u d) :
    ∀ {vs : List V} {us : List Value} {ds : List PyData}, DqAll H vs ds → PyData.depthAll ds ≤ n → Vals vs us → PyData.showableAll ds = true → (∀ t ∈ PyData.shownAll ds, t.length ≤ sizeLine) → RpAll X s us ds
  | [], us, ds, h, _, r, _, _ => by
    cases h
    cases r
    exact ⟨[], [], .nil, (fun _ h => nomatch h), .nil⟩
  | v :: vs, us, ds, h, hd, r, hs, hz => by
    cases h with
    | @cons _ _ d ds a b =>
      cases r with
      | @cons _ u _ us r1 r2 =>
        have hd' : max (PyData.depth d) (PyData.depthAll ds) ≤ n := hd
        have hs' : PyData.showable d = true ∧ PyData.showableAll ds = true := by simpa [PyData.showableAll] using hs
        obtain ⟨as1, bs1, x1, y1, z1⟩ := ih d v u (by omega) a r1 hs'.1 (hz _ (by simp only [PyData.shownAll]; exact List.mem_cons_self))
        obtain ⟨as2, bs2, x2, y2, z2⟩ := rp_all ih b (by omega) r2 hs'.2 (fun t ht => hz t (by simp only [PyData.shownAll]; exact List.mem_cons_of_mem _ ht))
        refine ⟨as1 ++ as2, bs1 ++ bs2, .cons x1 x2, fun b hm => ?_, ?_⟩
        · show ∃ d' as', Reads s.heap (.ref b) d' as' ∧ PyData.depth d' ≤ max (PyData.depth d) (PyData.depthAll ds)
          rcases List.mem_append.mp hm with hm | hm
          · obtain ⟨d', as', r', hd'⟩ := y1 b hm
            exact ⟨d', as', r', by omega⟩
          · obtain ⟨d', as', r', hd'⟩ := y2 b hm
            exact ⟨d', as', r', by omega⟩
        · simp only [PyData.depthAll, PyData.shownAll]
          exact .cons ((z1.more fun b hb => List.mem_append_left bs2 hb).level_le (Nat.le_max_left _ _)) (z2.more_le (fun b hb => List.mem_append_right bs1 hb) (Nat.le_max_right _ _))
theorem pairs_vals {P : Program} {w : World} : ∀ {es : List DictEntry} {kvs : List (Key × Value)}, Pairs (mixKind P w) es kvs → es.map (·.val) = kvs.map (·.2)
  | _, _, .nil => rfl
  | _, _, .cons _ hv hp => by rw [List.map_cons, List.map_cons, hv, pairs_vals hp]
theorem pairs_keys {h : Heap} {P : Program} {w : World} : ∀ {es : List DictEntry} {vs : List (Key × Value)} {ks : List (Key × V)} {ds : List PyData}, Pairs (mixKind P w) es vs → KV ks vs → ks.length = ds.length → ReadsAll h (es.map (·.key)) ((zipK ks ds).map (·.1)) []
  | _, _, [], [], .nil, _, _ => .nil
  | _, _, p :: ks, d :: ds, .cons (kv := q) hk hv hp, r, hl => by
    cases r with
    | cons r1 r2 =>
      have hk' := hk
      rw [← r1.1] at hk'
      exact ReadsAll.cons (enK_reads _ _ hk') (pairs_keys hp r2 (Nat.succ.inj hl))
  | _, _, p :: ks, d :: ds, .nil, r, hl => by cases r
  | _, _, [], [], .cons _ _ _, r, _ => by cases r
  | _, _, [], d :: ds, _, _, hl => nomatch hl
  | _, _, p :: ks, [], _, _, hl => nomatch hl
theorem kv_vals : ∀ {ks : List (Key × V)} {vs : List (Key × Value)}, KV ks vs → Vals (ks.map (·.2)) (vs.map (·.2))
  | _, _, .nil => .nil
  | _, _, .cons r rs => .cons r.2 (kv_vals rs)
theorem dq_rp (I : Inv X pins σ H s) : ∀ (n : Nat) (d : PyData) (v : V) (u : Value), PyData.depth d ≤ n → Dq H v d → RelV v u → PyData.showable d = true → (PyData.shown d).length ≤ sizeLine → RpOk X s u d := by
  intro n
  induction n with
  | zero =>
    intro d v u hn h r hs hz
    cases h with
    | non => cases r; exact ⟨_, [], .none, (fun _ h => nomatch h), by simp only [PyData.shown]; exact .of_is ReprIs.none _ _ _⟩
    | bl b => cases r; exact ⟨_, [], .bool b, (fun _ h => nomatch h), by simp only [PyData.shown]; exact .of_is (ReprIs.bool b) _ _ _⟩
    | int i =>
      obtain ⟨t, rfl⟩ := r
      exact ⟨_, [], .int i t, (fun _ h => nomatch h), by simp only [PyData.shown]; exact .of_is (ReprIs.int t (by simpa [PyData.showable] using hs)) _ _ _⟩
    | str x =>
      obtain ⟨t, rfl⟩ := r
      exact ⟨_, [], .str x t, (fun _ h => nomatch h), by simp only [PyData.shown]; exact .of_is (ReprIs.str x t (by simpa only [PyData.shown] using hz)) _ _ _⟩
    | lst _ _ => exact absurd hn (by simp [PyData.depth])
    | tup _ _ => exact absurd hn (by simp [PyData.depth])
    | dic _ _ _ => exact absurd hn (by simp [PyData.depth])
  | succ n ih =>
    intro d v u hn h r hs hz
    cases h with
    | non => exact ih _ _ _ (Nat.zero_le _) .non r hs hz
    | bl b => exact ih _ _ _ (Nat.zero_le _) (.bl b) r hs hz
    | int i => exact ih _ _ _ (Nat.zero_le _) (.int i) r hs hz
    | str x => exact ih _ _ _ (Nat.zero_le _) (.str x) r hs hz
    | @lst a xs ds h1 h2 =>
      cases (show u = Value.ref a from r)
      obtain ⟨_, its, m, rv, ho⟩ := (show ObjOk X.prog X.w H s.heap a (.lst xs) from I.hok a _ h1)
      have zz : (listText (PyData.shownAll ds)).length ≤ sizeLine := by simpa only [PyData.shown] using hz
      obtain ⟨as, bs, ra, rm, rk⟩ := rp_all ih h2 (by simp only [PyData.depth] at hn; omega) rv (by simpa [PyData.showable] using hs) (fun t ht => Nat.le_trans (listText_mem_le ht) zz)
      have rd : Reads s.heap (.ref a) (.list ds) (a :: as) := .list ho rfl rfl ra
      have na : a ∉ bs := not_mem_of_deeper rd (by simp only [PyData.depth]; omega) rm
      refine ⟨_, a :: bs, rd, ReadAtMost.cons rd (by simp only [PyData.depth]; omega) rm, ?_⟩
      simp only [PyData.depth, PyData.shown]
      cases its with
      | nil =>
        cases ra
        simp only [PyData.shownAll, listText_nil]
        exact ReprK.listEmpty ho rfl rfl
      | cons x l => exact ReprK.list ho rfl rfl na (by simpa using rk.length_eq) (fun i y e => rk.item i y (by simpa using e))
    | @tup a xs ds h1 h2 =>
      cases (show u = Value.ref a from r)
      obtain ⟨_, its, rv, o, ho, oc, m, od⟩ := (show ObjOk X.prog X.w H s.heap a (.tup xs) from I.hok a _ h1)
      have zz : (tupleText (PyData.shownAll ds)).length ≤ sizeLine := by simpa only [PyData.shown] using hz
      obtain ⟨as, bs, ra, rm, rk⟩ := rp_all ih h2 (by simp only [PyData.depth] at hn; omega) rv (by simpa [PyData.showable] using hs) (fun t ht => Nat.le_trans (tupleText_mem_le ht) zz)
      have rd : Reads s.heap (.ref a) (.tuple ds) as := .tuple ho oc od ra
      have na : a ∉ bs := not_mem_of_deeper rd (by simp only [PyData.depth]; omega) rm
      refine ⟨_, a :: bs, rd, ReadAtMost.cons rd (by simp only [PyData.depth]; omega) rm, ?_⟩
      simp only [PyData.depth, PyData.shown]
      exact ReprK.tuple ho oc od na rk
    | @dic a ks ds h1 nd h2 =>
      cases (show u = Value.ref a from r)
      obtain ⟨_, hsys, vs, rkv, dof⟩ := (show ObjOk X.prog X.w H s.heap a (.dK ks) from I.hok a _ h1)
      have kl : ks.length = ds.length := by have := h2.len; rwa [List.length_map] at this
      have zz : (dictText (PyData.shownKv (zipK ks ds))).length ≤ sizeLine := by simpa only [PyData.shown] using hz
      obtain ⟨o, es, ep, ho, hx, hdat, _, hp, _⟩ := dof
      have vv : (zipK ks ds).map (·.2) = ds := zipK_vals kl
      obtain ⟨sh1, sh2⟩ := PyData.showableKv_split _ (show PyData.showableKv (zipK ks ds) = true by simpa [PyData.showable] using hs)
      rw [vv] at sh2
      have rk1 : ReadsAll s.heap (es.toList.map (·.key)) ((zipK ks ds).map (·.1)) [] := pairs_keys hp rkv kl
      have dle := dKv_le ks ds kl
      obtain ⟨as2, b2, ra2, hb2, k2⟩ := rp_all ih h2 (by simp only [PyData.depth] at hn; omega) (kv_vals rkv) sh2 (fun t ht => by
        rw [← vv] at ht
        obtain ⟨p, hp, hl⟩ := PyData.shownKv_val_le _ t ht
        exact Nat.le_trans hl (Nat.le_trans (dictText_mem_le hp) zz))
      obtain ⟨b1, hb1, k1⟩ := ReprAllK.of_readsAll (prog := X.prog) (w := X.w) rk1 sh1 (fun _ z => nomatch z) (fun t ht => let ⟨p, hp, hl⟩ := PyData.shownKv_key_le _ t ht; Nat.le_trans hl (Nat.le_trans (dictText_mem_le hp) zz))
      have ev : es.toList.map (·.val) = vs.map (·.2) := pairs_vals hp
      rw [← ev] at ra2 k2
      have ra2' : ReadsAll s.heap (es.toList.map (·.val)) ((zipK ks ds).map (·.2)) as2 := by rw [vv]; exact ra2
      have rd : Reads s.heap (.ref a) (.dict (zipK ks ds)) (a :: [] ++ as2) := .dict ho hx.1 hdat rk1 ra2'
      have rm : ReadAtMost s.heap (PyData.depthKv (zipK ks ds)) (b1 ++ b2) := (hb1.mono (PyData.depthAll_keys_le _)).append (hb2.mono dle)
      have na : a ∉ b1 ++ b2 := not_mem_of_deeper rd (by simp only [PyData.depth]; omega) rm
      refine ⟨_, a :: (b1 ++ b2), rd, ReadAtMost.cons rd (by simp only [PyData.depth]; omega) rm, ?_⟩
      have EK := ReprEntriesK.of_two es.toList _ _ (k1.more_le (fun b z => List.mem_append_left b2 z) (PyData.depthAll_keys_le (zipK ks ds))) (k2.more_le (fun b z => List.mem_append_right b1 z) dle)
      rw [show PyData.shownAll ds = PyData.shownAll ((zipK ks ds).map (·.2)) by rw [vv], ← PyData.shownKv_eq] at EK
      simp only [PyData.depth, PyData.shown]
      exact ReprK.dict ho hx.1 hdat hsys na EK
theorem rp_list (I : Inv X pins σ H s) {vs : List V} {us : List Value} {ds : List PyData} (h : DqAll H vs ds) (r : Vals vs us) (hs : PyData.showableAll ds = true) (hz : ∀ t ∈ PyData.shownAll ds, t.length ≤ sizeLine) : RpAll X s us ds :=
  rp_all (fun d v u hn => dq_rp I _ d v u hn) h (Nat.le_refl _) r hs hz
def rRepQ : List V → Hp → VK → Prop := fun xs H Q => ∃ (a : Addr) (d : PyData), xs = [.ref a] ∧ Dq H (.ref a) d ∧ PyData.showable d = true ∧ PyData.depth d ≤ 40 ∧ (PyData.shown d).length ≤ sizeLine ∧ Q (.str (PyData.shown d)) H
theorem call_repQ (gd : X.A.guards = some []) (hu : X.A.units + 64 < cLine) : CallR X (.builtin "repr") rRepQ := by
  intro pins s σ H xs us Q I r h
  obtain ⟨a, d, rfl, hd, hs, dep, hz, q⟩ := h
  obtain ⟨u, rfl, ru⟩ := vals1 r
  cases (show u = Value.ref a from ru)
  have fin : ∀ (h' : Heap) (v : Tok) (tk : Nat), (∀ b o, s.heap.get? b = some o → h'.get? b = some o) → EP X pins σ Q (.str (PyData.shown d) v) { s with heap := h', toks := tk } := fun h' v tk hk => ⟨.str _, H, I.kept hk, ⟨v, rfl⟩, q⟩
  cases hd with
  | @lst _ xs ds h1 h2 =>
    obtain ⟨_, its, m, rv, ho⟩ := (show ObjOk X.prog X.w H s.heap a (.lst xs) from I.hok a _ h1)
    have zz : (listText (PyData.shownAll ds)).length ≤ sizeLine := by simpa only [PyData.shown] using hz
    obtain ⟨as, bs, ra, rm, rk⟩ := rp_list I h2 rv (by simpa [PyData.showable] using hs) (fun t ht => Nat.le_trans (listText_mem_le ht) zz)
    have rd : Reads s.heap (.ref a) (.list ds) (a :: as) := .list ho rfl rfl ra
    have na : a ∉ bs := not_mem_of_deeper rd (by simp only [PyData.depth]; omega) rm
    simp only [PyData.depth] at dep
    simp only [PyData.shown] at fin
    cases its with
    | nil =>
      cases ra
      simp only [PyData.shownAll, listText_nil] at fin
      exact call_repr_slot (T := "list") (by omega) ⟨_, ho, rfl⟩ F.slot_list_repr.toG (call_list_repr_empty ⟨_, ho, rfl⟩ ho rfl ⟨_, _, rfl, fin s.heap _ _ fun _ _ e => e⟩)
    | cons x l =>
      exact call_repr_slot (T := "list") (by omega) ⟨_, ho, rfl⟩ F.slot_list_repr.toG (call_list_reprK (h₀ := s.heap) ho rfl rfl na (by simpa using rk.length_eq) (fun i y e => rk.item i y (by simpa using e)) gd (fun b _ => Clear.nil b) (by show X.A.units + 1 + _ < cLine; omega) (fun _ _ e => e) (fun h' v tk hk => ⟨_, _, rfl, fin h' v tk hk⟩) zz)
  | @tup _ xs ds h1 h2 =>
    obtain ⟨_, its, rv, o, ho, oc, m, od⟩ := (show ObjOk X.prog X.w H s.heap a (.tup xs) from I.hok a _ h1)
    have zz : (tupleText (PyData.shownAll ds)).length ≤ sizeLine := by simpa only [PyData.shown] using hz
    obtain ⟨as, bs, ra, rm, rk⟩ := rp_list I h2 rv (by simpa [PyData.showable] using hs) (fun t ht => Nat.le_trans (tupleText_mem_le ht) zz)
    have rd : Reads s.heap (.ref a) (.tuple ds) as := .tuple ho oc od ra
    have na : a ∉ bs := not_mem_of_deeper rd (by simp only [PyData.depth]; omega) rm
    simp only [PyData.depth] at dep
    simp only [PyData.shown] at fin
    exact call_repr_slot (T := "tuple") (by omega) ⟨_, ho, oc⟩ F.slot_tuple_repr (call_tuple_reprK (h₀ := s.heap) ho oc od na rk gd (fun b _ => Clear.nil b) (by show X.A.units + 1 + _ < cLine; omega) (fun _ _ e => e) (fun h' v tk hk => ⟨_, _, rfl, fin h' v tk hk⟩) zz)
  | @dic _ ks ds h1 nd h2 =>
    obtain ⟨_, hsys, vs, rkv, dof⟩ := (show ObjOk X.prog X.w H s.heap a (.dK ks) from I.hok a _ h1)
    have kl : ks.length = ds.length := by have := h2.len; rwa [List.length_map] at this
    have zz : (dictText (PyData.shownKv (zipK ks ds))).length ≤ sizeLine := by simpa only [PyData.shown] using hz
    obtain ⟨o, es, ep, ho, hx, hdat, _, hp, _⟩ := dof
    have vv : (zipK ks ds).map (·.2) = ds := zipK_vals kl
    obtain ⟨sh1, sh2⟩ := PyData.showableKv_split _ (show PyData.showableKv (zipK ks ds) = true by simpa [PyData.showable] using hs)
    rw [vv] at sh2
    have rk1 : ReadsAll s.heap (es.toList.map (·.key)) ((zipK ks ds).map (·.1)) [] := pairs_keys hp rkv kl
    have dle := dKv_le ks ds kl
    obtain ⟨as2, b2, ra2, hb2, k2⟩ := rp_list I h2 (kv_vals rkv) sh2 (fun t ht => by
      rw [← vv] at ht
      obtain ⟨p, hp, hl⟩ := PyData.shownKv_val_le _ t ht
      exact Nat.le_trans hl (Nat.le_trans (dictText_mem_le hp) zz))
    obtain ⟨b1, hb1, k1⟩ := ReprAllK.of_readsAll (prog := X.prog) (w := X.w) rk1 sh1 (fun _ z => nomatch z) (fun t ht => let ⟨p, hp, hl⟩ := PyData.shownKv_key_le _ t ht; Nat.le_trans hl (Nat.le_trans (dictText_mem_le hp) zz))
    have ev : es.toList.map (·.val) = vs.map (·.2) := pairs_vals hp
    rw [← ev] at ra2 k2
    have ra2' : ReadsAll s.heap (es.toList.map (·.val)) ((zipK ks ds).map (·.2)) as2 := by rw [vv]; exact ra2
    have rd : Reads s.heap (.ref a) (.dict (zipK ks ds)) (a :: [] ++ as2) := .dict ho hx.1 hdat rk1 ra2'
    have rm : ReadAtMost s.heap (PyData.depthKv (zipK ks ds)) (b1 ++ b2) := (hb1.mono (PyData.depthAll_keys_le _)).append (hb2.mono dle)
    have na : a ∉ b1 ++ b2 := not_mem_of_deeper rd (by simp only [PyData.depth]; omega) rm
    have EK := ReprEntriesK.of_two es.toList _ _ (k1.more_le (fun b z => List.mem_append_left b2 z) (PyData.depthAll_keys_le (zipK ks ds))) (k2.more_le (fun b z => List.mem_append_right b1 z) dle)
    rw [show PyData.shownAll ds = PyData.shownAll ((zipK ks ds).map (·.2)) by rw [vv], ← PyData.shownKv_eq] at EK
    simp only [PyData.depth] at dep
    simp only [PyData.shown] at fin
    exact call_repr_slot (T := "dict") (idr := "dict.__repr__") (by omega) ⟨o, ho, hx.1⟩ F.slot_dict_repr (call_dict_reprK (h₀ := s.heap) ho hx.1 hdat hsys na EK gd (fun b _ => Clear.nil b) (by show X.A.units + 1 + _ < cLine; omega) (fun _ _ e => e) (fun h' v tk hk => ⟨_, _, rfl, fin h' v tk hk⟩) zz)
end
end VL

set_option Elab.async false
set_option linter.all false
set_option maxRecDepth 100000
set_option maxHeartbeats 4000000
namespace VL
open PySem PySem.Spec PyProof.Rows L2
/-! ### dict comprehensions over any walk; dicts read while locked -/
theorem dc_itQ {J : It} {n : Nat} {G : Hp → Prop} {Y : Nat → Hp → V → Hp → Prop} (w : Walk J n G Y) {g : TG} {tt : TT} {tk tv : TE} {vs : List Nat} {σ : L2.St} {H1 : Hp} {D : Addr} {Qd : Hp → Prop} (Pv : Nat → Hp → Prop) (h0 : Pv 0 (upd H1 D (.dK []))) (hG : ∀ i H, i ≤ n → Pv i H → G H)
    (hs : ∀ i x H H', i < n → Pv i H → Y i H x H' → g x (wipe σ vs) H' fun σ2 H2 => wipe σ2 vs = wipe σ vs ∧ tt σ2 H2 fun b H3 =>
      if b = true then tk σ2 H3 fun y H4 => tv σ2 H4 fun z H5 => ∃ kvs k, y = kV k ∧ H5 D = some (.dK kvs) ∧ kvs.length < sizeLine ∧ Pv (i + 1) (upd H5 D (.dK (putK kvs k z))) else Pv (i + 1) H3) (hd : ∀ H, Pv n H → Qd H) :
    ∃ W : Nat → Nat → Hp → Prop, (∃ m, W 0 m (upd H1 D (.dK []))) ∧ ∀ i m H, W i m H →
      (J.stop i H ∧ Qd H) ∨ (J.go i H ∧ ∃ Nx : Hp → Prop, (∀ H', Nx H' → ∃ m', m' < m ∧ W (i + 1) m' H') ∧ ∀ x H', J.yld i H x H' → g x (wipe σ vs) H' fun σ2 H2 => wipe σ2 vs = wipe σ vs ∧ tt σ2 H2 fun b H3 =>
        if b = true then tk σ2 H3 fun y H4 => tv σ2 H4 fun z H5 => ∃ kvs k, y = kV k ∧ H5 D = some (.dK kvs) ∧ kvs.length < sizeLine ∧ Nx (upd H5 D (.dK (putK kvs k z))) else Nx H3) := by
  refine ⟨fun i m H => m = n - i ∧ i ≤ n ∧ Pv i H, ⟨n, by simp, Nat.zero_le _, h0⟩, ?_⟩
  rintro i m H ⟨rfl, hi, p⟩
  have q := hG i H hi p
  by_cases hlt : i < n
  · refine .inr ⟨w.goes i H hlt q, Pv (i + 1), fun H' p' => ⟨n - (i + 1), by omega, rfl, hlt, p'⟩, fun x H' y => hs i x H H' hlt p (w.yields i H x H' hlt q y)⟩
  · have e : i = n := by omega
    subst e
    exact .inl ⟨w.stops H q, hd H p⟩
theorem dget_fz {H : Hp} {a : Addr} {o : Obj} {kvs : List (Key × V)} {k : Key} (e : H a = some (.frz o (.dK kvs))) : DGet H a (kV k) (valV kvs k) := .inl ⟨kvs, k, .inr ⟨o, e⟩, rfl, rfl⟩
theorem putK_nw {ks : List (Key × V)} {k : Key} {v : V} (h : valV ks k = none) : putK ks k v = ks ++ [(k, v)] := by
  unfold putK
  rw [valV_any, h]
  rfl
theorem valV_out {ks : List (Key × V)} {k : Key} (h : k ∉ ks.map (·.1)) : valV ks k = none := by
  induction ks with
  | nil => rfl
  | cons p ks ih =>
    rw [valV_neg (fun z => h (by rw [List.map_cons, ← z]; exact List.mem_cons_self))]
    exact ih fun z => h (List.mem_cons_of_mem _ z)
theorem valV_nd : ∀ {ks : List (Key × V)} {i : Nat} {k : Key} {v : V}, (ks.map (·.1)).Nodup → ks[i]? = some (k, v) → valV ks k = some v
  | [], _, _, _, _, h => by simp at h
  | p :: ks, 0, k, v, nd, h => by
    simp at h
    subst h
    exact valV_pos rfl
  | p :: ks, i + 1, k, v, nd, h => by
    simp at h
    rw [List.map_cons, List.nodup_cons] at nd
    have hm : k ∈ ks.map (·.1) := List.mem_map.mpr ⟨_, List.mem_of_getElem? h, rfl⟩
    rw [valV_neg (fun z => nd.1 (by rw [z]; exact hm))]
    exact valV_nd nd.2 h
theorem zipK_keys : ∀ {ks ls : List (Key × V)} {ds : List PyData}, ks.map (·.1) = ls.map (·.1) → zipK ks ds = zipK ls ds
  | [], [], _, _ => by unfold zipK; rfl
  | p :: ks, q :: ls, [], h => by unfold zipK; rfl
  | p :: ks, q :: ls, d :: ds, h => by
    rw [List.map_cons, List.map_cons] at h
    injection h with h1 h2
    show (enK p.1, d) :: zipK ks ds = (enK q.1, d) :: zipK ls ds
    rw [h1, zipK_keys h2]
  | [], q :: ls, _, h => nomatch h
  | p :: ks, [], _, h => nomatch h
theorem zipK_app : ∀ {ks ls : List (Key × V)} {ds es : List PyData}, ks.length = ds.length → zipK (ks ++ ls) (ds ++ es) = zipK ks ds ++ zipK ls es
  | [], ls, [], es, _ => rfl
  | p :: ks, ls, d :: ds, es, h => by
    show (enK p.1, d) :: zipK (ks ++ ls) (ds ++ es) = (enK p.1, d) :: zipK ks ds ++ zipK ls es
    rw [zipK_app (Nat.succ.inj h)]
    rfl
theorem enK_inj {a b : Key} (h : enK a = enK b) : a = b := by
  cases a with
  | inl i => cases b with
    | inl j => injection h with h; rw [h]
    | inr y => exact nomatch h
  | inr x => cases b with
    | inl j => exact nomatch h
    | inr y => injection h with h; rw [h]
/-! ### what stands there is one thing -/
theorem dq_det_n {H : Hp} : ∀ (n : Nat) (d d' : PyData) (v : V), PyData.depth d ≤ n → Dq H v d → Dq H v d' → d = d' := by
  intro n
  induction n with
  | zero =>
    intro d d' v hn h h'
    cases h with
    | non => cases h'; rfl
    | bl b => cases h'; rfl
    | int i => cases h'; rfl
    | str x => cases h'; rfl
    | lst _ _ => exact absurd hn (by simp [PyData.depth])
    | tup _ _ => exact absurd hn (by simp [PyData.depth])
    | dic _ _ _ => exact absurd hn (by simp [PyData.depth])
  | succ n ih =>
    have all : ∀ {vs : List V} {ds es : List PyData}, DqAll H vs ds → DqAll H vs es → PyData.depthAll ds ≤ n → ds = es := by
      intro vs
      induction vs with
      | nil => intro ds es h h' _; cases h; cases h'; rfl
      | cons v vs iv =>
        intro ds es h h' hd
        cases h with
        | @cons _ _ d ds a b =>
          cases h' with
          | @cons _ _ e es a' b' =>
            have hd' : max (PyData.depth d) (PyData.depthAll ds) ≤ n := hd
            rw [ih d e v (by omega) a a', iv b b' (by omega)]
    intro d d' v hn h h'
    cases h with
    | non => cases h'; rfl
    | bl b => cases h'; rfl
    | int i => cases h'; rfl
    | str x => cases h'; rfl
    | lst h1 h2 =>
      simp only [PyData.depth] at hn
      cases h' with
      | lst g1 g2 => rw [h1] at g1; cases g1; rw [all h2 g2 (by omega)]
      | tup g1 g2 => rw [h1] at g1; cases g1
      | dic g1 _ g2 => rw [h1] at g1; cases g1
    | tup h1 h2 =>
      simp only [PyData.depth] at hn
      cases h' with
      | lst g1 g2 => rw [h1] at g1; cases g1
      | tup g1 g2 => rw [h1] at g1; cases g1; rw [all h2 g2 (by omega)]
      | dic g1 _ g2 => rw [h1] at g1; cases g1
    | @dic a ks ds h1 nd h2 =>
      have := dKv_le ks ds (by have := h2.len; rwa [List.length_map] at this)
      simp only [PyData.depth] at hn
      cases h' with
      | lst g1 g2 => rw [h1] at g1; cases g1
      | tup g1 g2 => rw [h1] at g1; cases g1
      | dic g1 _ g2 => rw [h1] at g1; cases g1; rw [all h2 g2 (by omega)]
theorem Dq.det {H : Hp} {v : V} {d d' : PyData} (h : Dq H v d) (h' : Dq H v d') : d = d' := dq_det_n _ d d' v (Nat.le_refl _) h h'
/-- a store at what is deeper changes nothing -/
theorem dq_upd_n {H : Hp} {a : Addr} {da : PyData} {o : HO} (ha : Dq H (.ref a) da) : ∀ (n : Nat) (d : PyData) (v : V), PyData.depth d ≤ n → PyData.depth d < PyData.depth da → Dq H v d → Dq (upd H a o) v d := by
  intro n
  induction n with
  | zero =>
    intro d v hn _ h
    cases h with
    | non => exact .non
    | bl b => exact .bl b
    | int i => exact .int i
    | str x => exact .str x
    | lst _ _ => exact absurd hn (by simp [PyData.depth])
    | tup _ _ => exact absurd hn (by simp [PyData.depth])
    | dic _ _ _ => exact absurd hn (by simp [PyData.depth])
  | succ n ih =>
    have all : ∀ {vs : List V} {ds : List PyData}, DqAll H vs ds → PyData.depthAll ds ≤ n → PyData.depthAll ds < PyData.depth da → DqAll (upd H a o) vs ds := by
      intro vs
      induction vs with
      | nil => intro ds h _ _; cases h; exact .nil
      | cons v vs iv =>
        intro ds h hd hl
        cases h with
        | @cons _ _ d ds b c =>
          have hd' : max (PyData.depth d) (PyData.depthAll ds) ≤ n := hd
          have hl' : max (PyData.depth d) (PyData.depthAll ds) < PyData.depth da := hl
          exact .cons (ih d v (by omega) (by omega) b) (iv c (by omega) (by omega))
    intro d v hn hl h
    have ne : ∀ b : Addr, v = .ref b → b ≠ a := fun b e z => by
      subst e
      subst z
      rw [h.det ha] at hl
      exact Nat.lt_irrefl _ hl
    cases h with
    | non => exact .non
    | bl b => exact .bl b
    | int i => exact .int i
    | str x => exact .str x
    | lst h1 h2 =>
      simp only [PyData.depth] at hn hl
      exact .lst (by rw [upd_ne (ne _ rfl)]; exact h1) (all h2 (by omega) (by omega))
    | tup h1 h2 =>
      simp only [PyData.depth] at hn hl
      exact .tup (by rw [upd_ne (ne _ rfl)]; exact h1) (all h2 (by omega) (by omega))
    | @dic b ks ds h1 nd h2 =>
      have := dKv_le ks ds (by have := h2.len; rwa [List.length_map] at this)
      simp only [PyData.depth] at hn hl
      exact .dic (by rw [upd_ne (ne _ rfl)]; exact h1) nd (all h2 (by omega) (by omega))
theorem Dq.upd {H : Hp} {a : Addr} {da d : PyData} {v : V} {o : HO} (h : Dq H v d) (ha : Dq H (.ref a) da) (hl : PyData.depth d < PyData.depth da) : Dq (upd H a o) v d := dq_upd_n ha _ d v (Nat.le_refl _) hl h
theorem mem_depth {d : PyData} : ∀ {ds : List PyData}, d ∈ ds → PyData.depth d ≤ PyData.depthAll ds
  | e :: ds, h => by
    show _ ≤ max (PyData.depth e) (PyData.depthAll ds)
    rcases List.mem_cons.mp h with rfl | h
    · omega
    · have := mem_depth h
      omega
/-! ### reading a dict's data -/
def keyB : PyData → Key → Bool
  | .int i, .inl j => decide (i = j)
  | .str x, .inr y => decide (x = y)
  | _, _ => false
theorem keyB_en (a b : Key) : keyB (enK a) b = decide (a = b) := by
  cases a with
  | inl i => cases b with
    | inl j => show decide (i = j) = decide (Sum.inl i = Sum.inl j); by_cases e : i = j <;> simp [e]
    | inr y => show false = decide (Sum.inl i = Sum.inr y); simp
  | inr x => cases b with
    | inl j => show false = decide (Sum.inr x = Sum.inl j); simp
    | inr y => show decide (x = y) = decide (Sum.inr x = Sum.inr y); by_cases e : x = y <;> simp [e]
def lkp : List (PyData × PyData) → Key → Option PyData
  | [], _ => none
  | p :: r, k => if keyB p.1 k = true then some p.2 else lkp r k
theorem lkp_at {H : Hp} {k : Key} : ∀ {ks : List (Key × V)} {ds : List PyData}, DqAll H (ks.map (·.2)) ds → (lkp (zipK ks ds) k = none ∧ valV ks k = none) ∨ ∃ d v, lkp (zipK ks ds) k = some d ∧ valV ks k = some v ∧ Dq H v d
  | [], ds, h => by
    cases h
    exact .inl ⟨rfl, rfl⟩
  | p :: ks, _, .cons (d := d) (ds := ds) a b => by
    have e : lkp (zipK (p :: ks) (d :: ds)) k = if keyB (enK p.1) k = true then some d else lkp (zipK ks ds) k := rfl
    rw [e, keyB_en]
    by_cases q : p.1 = k
    · rw [if_pos (decide_eq_true q), valV_pos q]
      exact .inr ⟨d, p.2, rfl, rfl, a⟩
    · rw [if_neg (by simp [q]), valV_neg q]
      exact lkp_at b
theorem dq_dict {H : Hp} {v : V} {kvs : List (PyData × PyData)} (h : Dq H v (.dict kvs)) : ∃ a ks, v = .ref a ∧ H a = some (.dK ks) ∧ (ks.map (·.1)).Nodup ∧ ks.length = kvs.length ∧
    ∀ k, (lkp kvs k = none ∧ valV ks k = none) ∨ ∃ d v, lkp kvs k = some d ∧ valV ks k = some v ∧ Dq H v d := by
  cases h with
  | @dic a ks ds h1 nd h2 =>
    refine ⟨a, ks, rfl, h1, nd, ?_, fun k => lkp_at h2⟩
    have e : ks.length = ds.length := by have := h2.len; rwa [List.length_map] at this
    have : ((zipK ks ds).map (·.2)).length = ds.length := by rw [zipK_vals e]
    rw [List.length_map] at this
    omega
theorem dq_list {H : Hp} {v : V} {ds : List PyData} (h : Dq H v (.list ds)) : ∃ a xs, v = .ref a ∧ H a = some (.lst xs) ∧ DqAll H xs ds := by
  cases h with
  | @lst a xs _ h1 h2 => exact ⟨a, xs, rfl, h1, h2⟩
theorem dq_tup {H : Hp} {v : V} {ds : List PyData} (h : Dq H v (.tuple ds)) : ∃ a xs, v = .ref a ∧ H a = some (.tup xs) ∧ DqAll H xs ds := by
  cases h with
  | @tup a xs _ h1 h2 => exact ⟨a, xs, rfl, h1, h2⟩
theorem dqAll_at {H : Hp} : ∀ {vs : List V} {ds : List PyData}, DqAll H vs ds → ∀ {i : Nat} {d : PyData}, ds[i]? = some d → ∃ v, vs[i]? = some v ∧ Dq H v d
  | _, _, .nil, i, d, h => by simp at h
  | _, _, .cons a b, 0, d, h => by
    simp at h
    subst h
    exact ⟨_, rfl, a⟩
  | _, _, .cons a b, i + 1, d, h => by
    simp at h
    obtain ⟨v, h1, h2⟩ := dqAll_at b h
    exact ⟨v, by simpa using h1, h2⟩
theorem dqAll_ap {H : Hp} : ∀ {vs ws : List V} {ds es : List PyData}, DqAll H vs ds → DqAll H ws es → DqAll H (vs ++ ws) (ds ++ es)
  | _, _, _, _, .nil, q => q
  | _, _, _, _, .cons a b, q => .cons a (dqAll_ap b q)
/-! ### small data -/
structure Small (c k : Nat) (d : PyData) : Prop where
  sh : PyData.showable d = true
  dp : PyData.depth d ≤ k
  ln : (PyData.shown d).length ≤ c
theorem Small.mono {c k c' k' : Nat} {d : PyData} (h : Small c k d) (h1 : c ≤ c') (h2 : k ≤ k') : Small c' k' d := ⟨h.sh, Nat.le_trans h.dp h2, Nat.le_trans h.ln h1⟩
theorem tupText_le (ts : List Str) : (tupleText ts).length ≤ 3 + piled ts := by
  have e1 : ((("(" : String) : Str)).length = 1 := rfl
  have e3 : (((if ts.length == 1 then ",)" else ")" : String) : Str)).length ≤ 2 := by split <;> decide
  unfold tupleText
  rw [strApp, strApp, e1]
  by_cases h : ts = []
  · subst h
    have : (Str.join ", " ([] : List Str)).length = 0 := rfl
    omega
  · have := join_length_add ts h
    omega
theorem shAll_mem : ∀ {ds : List PyData}, (∀ d ∈ ds, PyData.showable d = true) → PyData.showableAll ds = true
  | [], _ => rfl
  | d :: ds, h => by
    show (PyData.showable d && PyData.showableAll ds) = true
    rw [h d List.mem_cons_self, shAll_mem fun x hx => h x (List.mem_cons_of_mem _ hx)]
    rfl
theorem dpAll_mem {k : Nat} : ∀ {ds : List PyData}, (∀ d ∈ ds, PyData.depth d ≤ k) → PyData.depthAll ds ≤ k
  | [], _ => Nat.zero_le _
  | d :: ds, h => by
    show max (PyData.depth d) (PyData.depthAll ds) ≤ k
    have := h d List.mem_cons_self
    have := dpAll_mem fun x hx => h x (List.mem_cons_of_mem _ hx)
    omega
theorem shownAll_len : ∀ ds : List PyData, (PyData.shownAll ds).length = ds.length
  | [] => rfl
  | d :: ds => by
    show (PyData.shownAll ds).length + 1 = _
    rw [shownAll_len ds]
    rfl
theorem shownAll_mem : ∀ {ds : List PyData} {t : Str}, t ∈ PyData.shownAll ds → ∃ d ∈ ds, t = PyData.shown d
  | d :: ds, t, h => by
    rcases List.mem_cons.mp (show t ∈ PyData.shown d :: PyData.shownAll ds from h) with rfl | h
    · exact ⟨d, List.mem_cons_self, rfl⟩
    · obtain ⟨e, h1, h2⟩ := shownAll_mem h
      exact ⟨e, List.mem_cons_of_mem _ h1, h2⟩
theorem piledAll {c k : Nat} {ds : List PyData} (h : ∀ d ∈ ds, Small c k d) : piled (PyData.shownAll ds) ≤ ds.length * (c + 2) := by
  have := piled_le (c := c) (ts := PyData.shownAll ds) fun t ht => by
    obtain ⟨d, hd, rfl⟩ := shownAll_mem ht
    exact (h d hd).ln
  rwa [shownAll_len] at this
theorem small_list {c k n : Nat} {ds : List PyData} (h : ∀ d ∈ ds, Small c k d) (hl : ds.length ≤ n) : Small (2 + n * (c + 2)) (k + 1) (.list ds) := by
  refine ⟨?_, ?_, ?_⟩
  · show PyData.showableAll ds = true
    exact shAll_mem fun d hd => (h d hd).sh
  · show PyData.depthAll ds + 1 ≤ k + 1
    have := dpAll_mem fun d hd => (h d hd).dp
    omega
  · show (listText (PyData.shownAll ds)).length ≤ _
    have h1 := listText_le (PyData.shownAll ds)
    have h2 := piledAll h
    have h3 := Nat.mul_le_mul_right (c + 2) hl
    omega
theorem small_tup {c k n : Nat} {ds : List PyData} (h : ∀ d ∈ ds, Small c k d) (hl : ds.length ≤ n) : Small (3 + n * (c + 2)) (k + 1) (.tuple ds) := by
  refine ⟨?_, ?_, ?_⟩
  · show PyData.showableAll ds = true
    exact shAll_mem fun d hd => (h d hd).sh
  · show PyData.depthAll ds + 1 ≤ k + 1
    have := dpAll_mem fun d hd => (h d hd).dp
    omega
  · show (tupleText (PyData.shownAll ds)).length ≤ _
    have h1 := tupText_le (PyData.shownAll ds)
    have h2 := piledAll h
    have h3 := Nat.mul_le_mul_right (c + 2) hl
    omega
theorem small_dict {c k n : Nat} {kvs : List (PyData × PyData)} (h : ∀ p ∈ kvs, Small c k p.1 ∧ Small c k p.2) (hl : kvs.length ≤ n) : Small (2 + n * (2 * c + 4)) (k + 1) (.dict kvs) := by
  have sh : ∀ L : List (PyData × PyData), (∀ p ∈ L, Small c k p.1 ∧ Small c k p.2) → PyData.showableKv L = true ∧ PyData.depthKv L ≤ k ∧ piled (PyData.shownKv L) ≤ L.length * (2 * c + 4) := by
    intro L
    induction L with
    | nil => exact fun _ => ⟨rfl, Nat.zero_le _, by simp [PyData.shownKv, piled]⟩
    | cons p L ih =>
      intro hp
      obtain ⟨i1, i2, i3⟩ := ih fun x hx => hp x (List.mem_cons_of_mem _ hx)
      obtain ⟨a, b⟩ := hp p List.mem_cons_self
      refine ⟨?_, ?_, ?_⟩
      · show (PyData.showable p.1 && PyData.showable p.2 && PyData.showableKv L) = true
        rw [a.sh, b.sh, i1]
        rfl
      · show max (max (PyData.depth p.1) (PyData.depth p.2)) (PyData.depthKv L) ≤ k
        have := a.dp
        have := b.dp
        omega
      · have e : PyData.shownKv (p :: L) = (PyData.shown p.1 ++ (": " : Str) ++ PyData.shown p.2) :: PyData.shownKv L := rfl
        have e2 : piled (PyData.shownKv (p :: L)) = (PyData.shown p.1 ++ (": " : Str) ++ PyData.shown p.2).length + 2 + piled (PyData.shownKv L) := by rw [e]; simp [piled]
        have e3 : ((": " : String) : Str).length = 2 := rfl
        have := a.ln
        have := b.ln
        have e4 : (p :: L).length * (2 * c + 4) = L.length * (2 * c + 4) + (2 * c + 4) := by rw [List.length_cons, Nat.succ_mul]
        rw [e2, strApp, strApp]
        omega
  obtain ⟨i1, i2, i3⟩ := sh kvs h
  refine ⟨i1, ?_, ?_⟩
  · show PyData.depthKv kvs + 1 ≤ k + 1
    omega
  · show (dictText (PyData.shownKv kvs)).length ≤ _
    have h1 := dictText_le (PyData.shownKv kvs)
    have h3 := Nat.mul_le_mul_right (2 * c + 4) hl
    omega
end VL

set_option Elab.async false
set_option linter.all false
set_option maxRecDepth 100000
set_option maxHeartbeats 4000000
namespace VL
open PySem PySem.Spec PyProof.Rows L2
/-! ### copies of values: what may be copied, what is new -/
mutual
def cpy : PyData → Bool
  | .list ds => decide (ds.length ≤ 1000) && cpyAll ds
  | .dict kvs => decide (kvs.length ≤ 1000) && cpyKv kvs
  | .tuple _ => false
  | .none | .bool _ | .int _ | .str _ => true
def cpyAll : List PyData → Bool
  | [] => true
  | d :: ds => cpy d && cpyAll ds
def cpyKv : List (PyData × PyData) → Bool
  | [] => true
  | (_, d) :: r => cpy d && cpyKv r
end
theorem cpyAll_mem : ∀ {ds : List PyData}, cpyAll ds = true → ∀ d ∈ ds, cpy d = true
  | e :: ds, h, d, hd => by
    have h' : cpy e = true ∧ cpyAll ds = true := by simpa [cpyAll] using h
    rcases List.mem_cons.mp hd with rfl | hd
    · exact h'.1
    · exact cpyAll_mem h'.2 d hd
theorem cpyKv_zip : ∀ {ks : List (Key × V)} {ds : List PyData}, ks.length = ds.length → cpyKv (zipK ks ds) = true → cpyAll ds = true
  | [], [], _, _ => rfl
  | p :: ks, d :: ds, hl, h => by
    have h' : cpy d = true ∧ cpyKv (zipK ks ds) = true := by
      have e : cpyKv (zipK (p :: ks) (d :: ds)) = (cpy d && cpyKv (zipK ks ds)) := rfl
      rw [e] at h
      simpa using h
    show (cpy d && cpyAll ds) = true
    rw [h'.1, cpyKv_zip (Nat.succ.inj hl) h'.2]
    rfl
/-- what has come since H -/
def newer (H H' : Hp) : Hp := fun b => match H b with
  | none => H' b
  | some _ => none
theorem newer_some {H H' : Hp} {b : Addr} {o : HO} (h : newer H H' b = some o) : H b = none ∧ H' b = some o := by
  unfold newer at h
  cases e : H b with
  | none => rw [e] at h; exact ⟨rfl, h⟩
  | some u => rw [e] at h; exact nomatch h
theorem newer_mk {H H' : Hp} {b : Addr} {o : HO} (h1 : H b = none) (h2 : H' b = some o) : newer H H' b = some o := by
  unfold newer
  rw [h1]
  exact h2
theorem newer_same (H H' : Hp) : Same (newer H H') H' := fun b o h => (newer_some h).2
def spCopy (n : Nat) : Sp := fun vs H Q _ => ∃ (v : V) (d : PyData), vs = [v] ∧ Dq H v d ∧ cpy d = true ∧ PyData.depth d ≤ n ∧ ∀ v' H', Same H H' → Dq (newer H H') v' d → Q v' H'
end VL

set_option Elab.async false
set_option linter.all false
set_option maxRecDepth 100000
set_option maxHeartbeats 4000000
namespace VL
open PySem PySem.Spec PyProof.Rows L2

/-! ### what the text has: methods with keyword-only parameters, properties, written tuples, own exceptions without a text of their own -/
def WrT (K : PySem.W.Frag) (a : Addr) (xs : List V) : Prop := ∃ (o : Obj) (its : Array Value) (n : Nat), K.lookup a = some o ∧ o.cls = .type "tuple" ∧ o.data = .seq its n ∧ its.size ≤ sizeLine ∧ Vals xs its.toList ∧ o.dict = none
abbrev catG {α : Type} (us ws : List α) : List α := us ++ ws
def MethKE (K : PySem.W.Frag) (C : Addr) (x qual : Str) (st : Stmt) (ps : List Str) (n : Nat) (ks : List Str) : Prop :=
  ∃ (f : Addr) (fd : FuncData), Fun K x qual st f fd ∧ Meth K C x f ∧ KBn K fd ps n ks catG catG
def PropE (K : PySem.W.Frag) (C : Addr) (x qual : Str) (st : Stmt) : Prop := ∃ (p g : Addr) (fd : FuncData), PropOf K C x p g ∧ Fun K x qual st g fd ∧ Binds K fd ["self"] []
structure ExT (K : PySem.W.Frag) (mg : Str → Option Value) (x : Str) (D : Addr) : Prop where
  g : mg x = some (.ref D)
  xx : PySem.W.excIn K D [.type "ValueError", .type "Exception", .type "BaseException", .type "object"] "ValueError.__new__" = true
  kp : PySem.W.keepIn K (.ref D) = true
  bP : PySem.W.subIn K (.ref D) (.type "BaseException") = some true
  tP : PySem.W.typeIn K (.ref D) = some (.type "type")
  em : PySem.W.exmOne K (.ref D) (.ref D) = some true
  ec : ExcC K D
theorem fun_kbn {K : PySem.W.Frag} {x qual : Str} {st : Stmt} {f : Addr} {fd : FuncData} {ps : List Str} (F : Fun K x qual st f fd) (n : Nat) (ks : List Str)
    (h : ∀ (kV doc pm : Value) (an : Option Addr) (cdv ct : Value) (us ws : List Value), us.length = n → ws.length = ks.length → bindArgs (PySem.W.fnOf x qual (defArgs st) (defBody st) (defScope st) .none kV doc pm an cdv ct) ⟨us, ks.zip ws⟩ = pure (ps.zip (us ++ ws))) :
    KBn K fd ps n ks catG catG := by
  obtain ⟨oc, od, kV, doc, pm, an, cdv, ct, osl, rfl, lk, hcd⟩ := F.ex
  exact ⟨fun s us ws X l1 l2 => .of_eq (h kV doc pm an cdv ct us ws l1 l2), fun r1 r2 => r1.append r2⟩
/-! ### as callers see them -/
structure MetK (P : Program) (w : World) (K : PySem.W.Frag) (mg : Str → Option Value) (base : Heap) (k : Nat) (C : Addr) (m : Str) (sp : Sp) (n : Nat) (ks : List Str) (gV : List V → List V → List V) : Prop where
  ex : ∃ (f : Addr) (fd : FuncData) (ps : List Str) (g : List Value → List Value → List Value), Cls K C ∧ Meth K C m f ∧ FnOk P w K mg base CX0 k f fd ps sp ∧ KBn K fd ps n ks g gV
structure Pro (P : Program) (w : World) (K : PySem.W.Frag) (mg : Str → Option Value) (base : Heap) (k : Nat) (C : Addr) (x : Str) (sp : Sp) : Prop where
  ex : ∃ (p g : Addr) (fd : FuncData), Cls K C ∧ PropOf K C x p g ∧ FnOk P w K mg base CX0 k g fd ["self"] sp ∧ Binds K fd ["self"] []
/-- o.m(.., k = v, ..): n is one more than the values written -/
def tMethK (C : Addr) (m : Str) (sp : Sp) (n kn : Nat) (gV : List V → List V → List V) (ta : TE) (t tk : TA) : TE := fun σ H Q => ta σ H fun x H1 => ∃ a dx fs, x = .ref a ∧ H1 a = some (.ins C dx fs) ∧ fs.lookup m = none ∧ t σ H1 fun vs H2 => tk σ H2 fun zs H3 => vs.length + 1 = n ∧ zs.length = kn ∧ sp (gV (.ref a :: vs) zs) H3 Q E0
section
variable {X : Cx} {k j n : Nat} {C : Addr} {m x : Str} {ks : List Str} {sp : Sp} {pos apos : Pos} {e o : Expr} {es : List Expr} {kws : List Keyword} {ta : TE} {t tk : TA} {gV : List V → List V → List V}
theorem pe_mtK {pl : Sem Bool} (c : MetK X.prog X.w X.K X.mg X.base k C m sp n ks gV) (hr : Room j X.A) (hk : k ≤ j) (he : PE X o ta) (ha : PA X (e :: es) t) (hkw : PK X kws tk)
    (hall : (backToKw pos (keywordEach kws X.env)).all (·.1.isSome) = true := by rfl) (hks : (backToKw pos (keywordEach kws X.env)).filterMap (·.1) = ks := by rfl)
    (hst : starEach (e :: es) X.env = (false, eval e X.env) :: starEach es X.env := by rfl)
    (hpl : ((backTo pos (starEach (e :: es) X.env)).any (·.1) || (backToKw pos (keywordEach kws X.env)).any (·.1.isNone)) = false := by rfl)
    (ht : eval (.Call (.Attribute o m apos) (e :: es) kws pos) X.env = (do
      let ov ← eval o X.env
      standAt apos.atName
      let (f, first) ← holding [ov] (getMethod ov m pl)
      callWith pos f first (backTo pos (starEach (e :: es) X.env)) (backToKw pos (keywordEach kws X.env))) := by rfl) :
    PE X (.Call (.Attribute o m apos) (e :: es) kws pos) (tMethK C m sp n ks.length gV ta t tk) := by
  obtain ⟨f, fd, ps, g, hc, hm, F, b⟩ := c.ex
  refine ⟨fun pins s σ H Q I h => ?_⟩
  refine PySem.W.methodCall_KW (pl := pl) (thn (he.run pins s σ H _ I h) fun u s1 ⟨x, H1, I1, rx, a, dx, fs, ex, ea, l, q⟩ => ?_) ht
  subst ex
  obtain rfl : u = Value.ref a := rx
  refine getmeth_ok I1 ea hc hm l ?_
  refine PySem.W.callWith_KW (first := [.ref a]) (h₀ := X.base) I.ok.mod.kin hm.kp hall (thn (ha.run pos pins s1 σ H1 _ I1 q) fun us s2 ⟨vs, H2, I2, r, q2⟩ => ?_) hpl hst
  refine thn (hkw.run pos pins s2 σ H2 _ I2 q2) fun ws s3 ⟨zs, H3, I3, rz, l1, l2, q3⟩ => ⟨I3.kIn, ?_⟩
  rw [hks]
  exact run_fnN (us := .ref a :: us) (vs := .ref a :: vs) F (hr.mono hk) b pass0 I3 (.cons rfl r) rz l1 l2 q3
theorem pe_mtK0 {pl : Sem Bool} (c : MetK X.prog X.w X.K X.mg X.base k C m sp n ks gV) (hr : Room j X.A) (hk : k ≤ j) (he : PE X o ta) (hkw : PK X kws tk)
    (hall : (backToKw pos (keywordEach kws X.env)).all (·.1.isSome) = true := by rfl) (hks : (backToKw pos (keywordEach kws X.env)).filterMap (·.1) = ks := by rfl)
    (hpl : ((backTo pos (starEach [] X.env)).any (·.1) || (backToKw pos (keywordEach kws X.env)).any (·.1.isNone)) = false := by rfl)
    (ht : eval (.Call (.Attribute o m apos) [] kws pos) X.env = (do
      let ov ← eval o X.env
      standAt apos.atName
      let (f, first) ← holding [ov] (getMethod ov m pl)
      callWith pos f first (backTo pos (starEach [] X.env)) (backToKw pos (keywordEach kws X.env))) := by rfl) :
    PE X (.Call (.Attribute o m apos) [] kws pos) (tMethK C m sp n ks.length gV ta tNil tk) := by
  obtain ⟨f, fd, ps, g, hc, hm, F, b⟩ := c.ex
  refine ⟨fun pins s σ H Q I h => ?_⟩
  refine PySem.W.methodCall_KW (pl := pl) (thn (he.run pins s σ H _ I h) fun u s1 ⟨x, H1, I1, rx, a, dx, fs, ex, ea, l, q⟩ => ?_) ht
  subst ex
  obtain rfl : u = Value.ref a := rx
  refine getmeth_ok I1 ea hc hm l ?_
  refine PySem.W.callWith_KW0 (first := [.ref a]) (h₀ := X.base) I.ok.mod.kin hm.kp hall ?_ hpl
  refine thn (hkw.run pos pins s1 σ H1 _ I1 q) fun ws s3 ⟨zs, H3, I3, rz, l1, l2, q3⟩ => ⟨I3.kIn, ?_⟩
  rw [hks]
  exact run_fnN (us := [.ref a]) (vs := [.ref a]) F (hr.mono hk) b pass0 I3 (.cons rfl .nil) rz l1 l2 q3
theorem pe_pr (c : Pro X.prog X.w X.K X.mg X.base k C x sp) (hr : Room j X.A) (hk : k + 1 ≤ j) (he : PE X e ta) (hab : attributeBase e x X.env (eval e X.env) = eval e X.env := by rfl) : PE X (.Attribute e x pos) (tProp C sp [] E0 ta) := by
  obtain ⟨p, g, fd, hc, hp, F, b⟩ := c.ex
  exact pe_prop he hc hp F (hr.mono hk) b .nil pass0 hab
end
section
variable {P : Program} {w : World} {K : PySem.W.Frag} {mg : Str → Option Value} {base : Heap}
theorem metK_of {C : Addr} {x qual : Str} {st : Stmt} {ps ks N : List Str} {k n : Nat} {sp : Sp} (D : MethKE K C x qual st ps n ks) (c : Cls K C) (S : FnScope N ps (defScope st)) (len : ∀ vs H Q E, sp vs H Q E → vs.length = ps.length)
    (hbody : ∀ (f : Addr) (cdv : Value) (A : Around) (outer : List Env) (s : Shared) (H : Hp) (vs : List V) (Q : VK) (E : XK), Room k (A.deeper (envOfC qual (defScope st) s.heap.objs.size f cdv)) → sp vs H Q E →
      ∃ t, PSs (cxOf CX0 P w K mg base N qual (defScope st) f cdv A outer s H E).nox (defBody st) t ∧ t { nx := fun _ H' => Q .non H', rt := Q } (start N vs) H) : MetK P w K mg base (k + 1) C x sp n ks catG := by
  obtain ⟨f, fd, F, hm, b⟩ := D
  exact ⟨f, fd, ps, _, c, hm, F.ok S len (hbody f), b⟩
theorem pro_of {C : Addr} {x qual : Str} {st : Stmt} {N : List Str} {k : Nat} {sp : Sp} (D : PropE K C x qual st) (c : Cls K C) (S : FnScope N ["self"] (defScope st)) (len : ∀ vs H Q E, sp vs H Q E → vs.length = 1)
    (hbody : ∀ (f : Addr) (cdv : Value) (A : Around) (outer : List Env) (s : Shared) (H : Hp) (vs : List V) (Q : VK) (E : XK), Room k (A.deeper (envOfC qual (defScope st) s.heap.objs.size f cdv)) → sp vs H Q E →
      ∃ t, PSs (cxOf CX0 P w K mg base N qual (defScope st) f cdv A outer s H E).nox (defBody st) t ∧ t { nx := fun _ H' => Q .non H', rt := Q } (start N vs) H) : Pro P w K mg base (k + 1) C x sp := by
  obtain ⟨p, g, fd, hp, F, b⟩ := D
  exact ⟨p, g, fd, c, hp, F.ok S len (hbody g), b⟩
end
end VL

set_option Elab.async false
set_option linter.all false
set_option maxRecDepth 100000
set_option maxHeartbeats 4000000
namespace VL
open PySem PySem.Spec PyProof.Rows L2
/-! ### rules whose readings speak of K, with K told: within comprehensions and except suites -/
theorem u65 {A : Around} {k : Nat} (r : Room k A) : A.units + 65 < cLine := by have := r.un; omega
section
variable {X : Cx} {K : PySem.W.Frag} {e o : Expr} {f : Str} {pos : Pos} {ta : TE}
theorem pe_fldS (hK : X.K = K) (he : PE X e ta) (hb : attributeBase e f X.env (eval e X.env) = eval e X.env) : PE X (.Attribute e f pos) (tFld K ta f) := by subst hK; exact pe_fld he hb
theorem pe_conS (hK : X.K = K) (he : PE X e ta) (hb : attributeBase e f X.env (eval e X.env) = eval e X.env) : PE X (.Attribute e f pos) (tCon K ta f) := by subst hK; exact pe_con he hb
theorem pe_cvalS (hK : X.K = K) (he : PE X e ta) (hb : attributeBase e f X.env (eval e X.env) = eval e X.env := by rfl) : PE X (.Attribute e f pos) (ClX.tCVal K ta f) := by subst hK; exact ClX.pe_cval he hb
theorem ix_listS (hK : X.K = K) : IxR X (rIxL K) := by subst hK; exact ix_list
theorem ix_tupS (hK : X.K = K) : IxR X (rIxT K) := by subst hK; exact ix_tup
theorem sl_listS (hK : X.K = K) : SlR X (rSlL K) := by subst hK; exact sl_list
theorem sl_tupS (hK : X.K = K) : SlR X (rSlT K) := by subst hK; exact sl_tup
theorem op_in_seqS (hK : X.K = K) : OpR X (compareOp .In) (rIn K false) := by subst hK; exact op_in_seq
theorem op_notIn_seqS (hK : X.K = K) : OpR X (compareOp .NotIn) (rIn K true) := by subst hK; exact op_notIn_seq
theorem call_len_seqS (hK : X.K = K) : CallR X (.builtin "len") (fun xs H Q => ∃ p ys, xs = [.ref p] ∧ (SqL K H p ys ∨ SqT K H p ys) ∧ Q (.int ys.length) H) := by subst hK; exact call_len_seq
theorem call_list_ofS (hK : X.K = K) : CallR X (.type "list") (fun xs H Q => ∃ p ys, xs = [.ref p] ∧ (SqL K H p ys ∨ SqT K H p ys) ∧ ∀ l, H l = none → Q (.ref l) (upd H l (.lst ys))) := by subst hK; exact call_list_of
theorem call_isiS (hK : X.K = K) : CallR X (.builtin "isinstance") (rIsi K) := by subst hK; exact call_isi
theorem op_eqDS (hK : X.K = K) (hu : X.A.units + 64 < cLine) : OpR X (compareOp .Eq) (rEqD K) := by subst hK; exact op_eqD hu
theorem op_neDS (hK : X.K = K) (hu : X.A.units + 64 < cLine) : OpR X (compareOp .NotEq) (rNeD K) := by subst hK; exact op_neD hu
theorem cr_maxS (hK : X.K = K) (hc : X.calm = true) : CallR X (.builtin "max") (rMax K) := by subst hK; exact cr_max hc
theorem cr_minS (hK : X.K = K) (hc : X.calm = true) : CallR X (.builtin "min") (rMin K) := by subst hK; exact cr_min hc
theorem op_inDS (hK : X.K = K) (hu : X.A.units + 65 < cLine) : OpR X (compareOp .In) (rInD K) := by subst hK; exact op_inD hu
theorem pt_truthS (hK : X.K = K) (ha : PE X e ta) (he : ∀ whole, isTrue e X.env whole = (do let v ← whole; standAt e.pos; holding [v] (truthy v))) :
    PT X e (fun σ H Q => ta σ H fun x H' => ∃ k, TruV K x H' k ∧ Q k H') := by subst hK; exact pt_truth ha he
theorem pi_listS {tg : Expr} (hK : X.K = K) (hl : PE X e ta) : PI X tg e (iList K ta) := by subst hK; exact pi_list hl
theorem pi_tupS {tg : Expr} (hK : X.K = K) (hl : PE X e ta) : PI X tg e (iTup K ta) := by subst hK; exact pi_tup hl
theorem pg_tupS {es : List Expr} {k : Nat} {t : TGs} {n : Nat} (hK : X.K = K) (hc : X.calm = true) (h : PGs X es t)
    (hn : (assignEach es X.env).length = n := by rfl) (hst : (assignEach es X.env).findIdx? (·.1) = none := by rfl) : PG X (.Tuple es k pos) (gTup K n t) := by subst hK; exact pg_tup hc h hn hst
end
end VL

set_option Elab.async false
set_option linter.all false
set_option maxRecDepth 100000
set_option maxHeartbeats 4000000
namespace VL
open PySem PySem.Spec PyProof.Rows L2

/-! ### texts as lists of signs -/
abbrev TX (l : List Nat) : Str := ⟨l.toArray⟩
theorem TX_tl (l : List Nat) : (TX l).cps.toList = l := by simp
theorem TX_len (l : List Nat) : (TX l).length = l.length := by simp [Str.length]
theorem TX_cat (a b : List Nat) : TX a ++ TX b = TX (a ++ b) := SX.S_cat a b
theorem TX_inj {a b : List Nat} (h : TX a = TX b) : a = b := SX.S_inj h
theorem vstr_TX {a b : List Nat} : decide (V.str (TX a) = V.str (TX b)) = decide (a = b) := by
  by_cases e : a = b
  · subst e; simp
  · have : ¬ V.str (TX a) = V.str (TX b) := fun q => e (TX_inj (V.str.inj q))
    rw [decide_eq_false this, decide_eq_false e]
theorem one_eq {c d : Nat} : decide (V.str (TX [c]) = V.str (TX [d])) = decide (c = d) := by
  rw [vstr_TX]
  by_cases e : c = d
  · subst e; simp
  · simp [e]
/-- the sign at a place -/
theorem at_mid {pre r : List Nat} {c : Nat} {i : Int} (hi : i = (pre.length : Int)) : atI (TX (pre ++ c :: r)).cps.toList i = some c := by
  subst hi
  rw [TX_tl]
  unfold atI ixN
  rw [if_pos (by omega), if_pos (by simp; omega)]
  show (pre ++ c :: r)[(pre.length : Int).toNat]? = _
  rw [Int.toNat_natCast]
  simp
theorem getD_TX (l : List Nat) (v : Nat) : (TX l).cps.getD v 0 = l.getD v 0 := by
  simp only [Array.getD, List.getD_eq_getElem?_getD]
  by_cases h : v < l.length
  · rw [dif_pos (by simpa using h)]
    simp [h]
  · rw [dif_neg (by simpa using h), List.getElem?_eq_none (by omega)]
    rfl
theorem lt_one {c d : Nat} : ([c] < [d]) ↔ c < d := by
  constructor
  · intro h
    cases h with
    | rel h => exact h
    | cons h => cases h
  · intro h
    exact .rel h
/-- s.startswith(y, i) -/
theorem starts_at {pre R y : List Nat} {i : Int} (hi : i = (pre.length : Int)) : Txt.startswith3 (TX (pre ++ R)) (TX y) i = (R.take y.length == y) := by
  subst hi
  have e : fromIndex (TX (pre ++ R)).length (pre.length : Int) = pre.length := by
    unfold fromIndex
    rw [if_neg (by omega)]
    omega
  unfold Txt.startswith3
  rw [e, StrLaws.subAt_eq]
  have h1 : (TX (pre ++ R)).cps.toList.drop pre.length = R := by simp
  rw [h1, TX_len, TX_len]
  show (decide (pre.length + y.length ≤ (pre ++ R).length) && (R.take y.length == (TX y).cps.toList)) = _
  rw [TX_tl, List.length_append]
  by_cases h : y.length ≤ R.length
  · rw [decide_eq_true (by omega)]
    rfl
  · rw [decide_eq_false (by omega)]
    have : (R.take y.length == y) = false := by
      refine beq_eq_false_iff_ne.mpr fun q => h ?_
      have := congrArg List.length q
      rw [List.length_take] at this
      omega
    rw [this]
    rfl
/-- s.find("\n", i) -/
theorem find_nl {pre c r : List Nat} {d : Nat} {i : Int} (hi : i = (pre.length : Int)) (hc : d ∉ c) : Txt.find3 (TX (pre ++ (c ++ d :: r))) (TX [d]) i = ((pre.length + c.length : Nat) : Int) := by
  subst hi
  have e : fromIndex (TX (pre ++ (c ++ d :: r))).length (pre.length : Int) = pre.length := by
    unfold fromIndex
    rw [if_neg (by omega)]
    omega
  have hg : ∀ v, v < (pre ++ (c ++ d :: r)).length → (TX (pre ++ (c ++ d :: r))).cps.getD v 0 = (pre ++ (c ++ d :: r)).getD v 0 := fun v _ => getD_TX _ v
  have hat : (pre ++ (c ++ d :: r)).getD (pre.length + c.length) 0 = d := by simp [List.getD_eq_getElem?_getD]
  have hlt : pre.length + c.length < (pre ++ (c ++ d :: r)).length := by rw [List.length_append, List.length_append, List.length_cons]; omega
  rcases StrLaws.find3_spec (TX (pre ++ (c ++ d :: r))) d (pre.length : Int) with ⟨_, h2⟩ | ⟨k, h1, h2, h3, h4, h5⟩
  · rw [e, TX_len] at h2
    exact absurd (by rw [hg _ hlt]; exact hat) (h2 (pre.length + c.length) (by omega) hlt)
  · rw [e] at h2 h5
    rw [TX_len] at h3
    rw [h1]
    have hk : k = pre.length + c.length := by
      rcases Nat.lt_trichotomy k (pre.length + c.length) with q | q | q
      · exfalso
        rw [hg k h3] at h4
        have e3 : (pre ++ (c ++ d :: r)).getD k 0 = c.getD (k - pre.length) 0 := by
          rw [List.getD_eq_getElem?_getD, List.getD_eq_getElem?_getD, List.getElem?_append_right h2, List.getElem?_append_left (by omega)]
        rw [e3] at h4
        apply hc
        have hlt2 : k - pre.length < c.length := by omega
        rw [List.getD_eq_getElem?_getD, List.getElem?_eq_getElem hlt2] at h4
        have h4 : c[k - pre.length] = d := h4
        rw [← h4]
        exact List.getElem_mem hlt2
      · exact q
      · exfalso
        exact h5 (pre.length + c.length) (by omega) q (by rw [hg _ hlt]; exact hat)
    rw [hk]
/-- s[i:j] -/
theorem cut_mid {pre m r : List Nat} {i j : Int} (hi : i = (pre.length : Int)) (hj : j = ((pre.length + m.length : Nat) : Int)) : cutS (TX (pre ++ (m ++ r))) (some i) (some j) = TX m := by
  subst hi hj
  unfold cutS
  rw [TX_len, HT.sIx_nat, HT.sIx_nat, TX_tl]
  have e1 : min pre.length (pre ++ (m ++ r)).length = pre.length := by simp
  have e2 : min (pre.length + m.length) (pre ++ (m ++ r)).length = pre.length + m.length := by simp
  rw [e1, e2]
  refine congrArg TX ?_
  rw [List.drop_left, Nat.add_sub_cancel_left, List.take_left]

/-! ### rows -/
def rws : List Nat → List Nat → List (List Nat)
  | acc, [] => [acc]
  | acc, c :: r => if c = 10 then acc :: rws [] r else rws (acc ++ [c]) r
theorem spl_rws : ∀ (l acc : List Nat), TL.spl [10] 0 acc l = rws acc l
  | [], acc => by rw [TL.spl_nil]; rfl
  | c :: r, acc => by
    unfold rws
    by_cases h : c = 10
    · subst h
      rw [if_pos rfl, TL.spl_hit (by rfl)]
      exact congrArg (acc :: ·) (spl_rws r [])
    · rw [if_neg h, TL.spl_miss (by
        show TL.pre [10] (c :: r) = false
        unfold TL.pre
        simp [h])]
      exact spl_rws r _
theorem rws_ne : ∀ (l acc : List Nat), rws acc l ≠ []
  | [], acc => by unfold rws; simp
  | c :: r, acc => by
    unfold rws
    split
    · simp
    · exact rws_ne r _
def lnOf (l : List Nat) : Nat := (rws [] l).length
def clOf (l : List Nat) : Nat := ((rws [] l).getLast (rws_ne _ _)).length
theorem rws_plain : ∀ (l acc m : List Nat), 10 ∉ m → ∃ fr la, rws acc l = fr ++ [la] ∧ rws acc (l ++ m) = fr ++ [la ++ m]
  | [], acc, m, h => by
    refine ⟨[], acc, rfl, ?_⟩
    show rws acc m = [acc ++ m]
    induction m generalizing acc with
    | nil => rw [List.append_nil]; rfl
    | cons c m ih =>
      have hc : c ≠ 10 := fun e => h (by rw [e]; exact List.mem_cons_self)
      unfold rws
      rw [if_neg hc, ih _ fun e => h (List.mem_cons_of_mem _ e), List.append_assoc]
      rfl
  | c :: r, acc, m, h => by
    rw [List.cons_append]
    unfold rws
    by_cases hc : c = 10
    · rw [if_pos hc, if_pos hc]
      obtain ⟨fr, la, e1, e2⟩ := rws_plain r [] m h
      exact ⟨acc :: fr, la, by rw [e1]; rfl, by rw [e2]; rfl⟩
    · rw [if_neg hc, if_neg hc]
      exact rws_plain r _ m h
theorem rws_nl : ∀ (l acc : List Nat), rws acc (l ++ [10]) = rws acc l ++ [[]]
  | [], acc => by
    show rws acc [10] = [acc] ++ [[]]
    unfold rws
    rw [if_pos rfl]
    rfl
  | c :: r, acc => by
    rw [List.cons_append]
    unfold rws
    split
    · rw [rws_nl r []]; rfl
    · exact rws_nl r _
theorem getLast_of {α : Type} {l fr : List α} {la : α} (h : l ≠ []) (e : l = fr ++ [la]) : l.getLast h = la := by
  subst e
  simp
theorem ln_plain (l m : List Nat) (h : 10 ∉ m) : lnOf (l ++ m) = lnOf l := by
  obtain ⟨fr, la, e1, e2⟩ := rws_plain l [] m h
  unfold lnOf
  rw [e1, e2]
  simp
theorem cl_plain (l m : List Nat) (h : 10 ∉ m) : clOf (l ++ m) = clOf l + m.length := by
  obtain ⟨fr, la, e1, e2⟩ := rws_plain l [] m h
  unfold clOf
  rw [getLast_of _ e1, getLast_of _ e2, List.length_append]
theorem ln_nl (l : List Nat) : lnOf (l ++ [10]) = lnOf l + 1 := by
  unfold lnOf
  rw [rws_nl]
  simp
theorem cl_nl (l : List Nat) : clOf (l ++ [10]) = 0 := by
  unfold clOf
  rw [getLast_of _ (rws_nl l [])]
  rfl
theorem cl_le : ∀ l : List Nat, clOf l ≤ l.length := by
  intro l
  have : ∀ (l acc : List Nat), ((rws acc l).getLast (rws_ne _ _)).length ≤ acc.length + l.length := by
    intro l
    induction l with
    | nil => intro acc; simp [rws]
    | cons c r ih =>
      intro acc
      by_cases hc : c = 10
      · have e : rws acc (c :: r) = acc :: rws [] r := by
          show (if c = 10 then _ else _) = _
          rw [if_pos hc]
        have e2 : (rws acc (c :: r)).getLast (rws_ne _ _) = (rws [] r).getLast (rws_ne _ _) := by
          simp only [e]
          exact List.getLast_cons (rws_ne _ _)
        rw [e2]
        have := ih []
        simp at this ⊢
        omega
      · have e : rws acc (c :: r) = rws (acc ++ [c]) r := by
          show (if c = 10 then _ else _) = _
          rw [if_neg hc]
        have e2 : (rws acc (c :: r)).getLast (rws_ne _ _) = (rws (acc ++ [c]) r).getLast (rws_ne _ _) := by simp only [e]
        rw [e2]
        have := ih (acc ++ [c])
        simp at this ⊢
        omega
  have := this l []
  simpa [clOf] using this
/-- row = source.split("\n"): how many, and the last one's length -/
theorem split_rows (l : List Nat) : Txt.split (TX l) (TX [10]) = (rws [] l).map TX := by
  have := SX.split_S (a := l) (b := [10]) (by simp) (by decide)
  rw [spl_rws] at this
  exact this
theorem rows_last (l : List Nat) : ∃ la : List Nat, atI ((rws [] l).map fun r => V.str (TX r)) (-1) = some (.str (TX la)) ∧ la.length = clOf l := by
  refine ⟨(rws [] l).getLast (rws_ne _ _), ?_, rfl⟩
  have hp : 0 < (rws [] l).length := List.length_pos_iff.mpr (rws_ne _ _)
  unfold atI ixN
  rw [if_neg (by decide), if_pos (by rw [List.length_map]; omega)]
  show ((rws [] l).map fun r => V.str (TX r))[_]? = _
  have e : (-1 + (((rws [] l).map fun r => V.str (TX r)).length : Int)).toNat = (rws [] l).length - 1 := by rw [List.length_map]; omega
  rw [e, List.getElem?_map, List.getElem?_eq_getElem (by omega), List.getLast_eq_getElem]
  rfl

/-! ### signs -/
def isLet (c : Nat) : Bool := (decide (97 ≤ c) && decide (c ≤ 122)) || (decide (65 ≤ c) && decide (c ≤ 90))
def isDig (c : Nat) : Bool := decide (48 ≤ c) && decide (c ≤ 57)
def isWs (c : Nat) : Bool := isLet c || isDig c || decide (c = 95)
end VL

set_option Elab.async false
set_option linter.all false
set_option maxRecDepth 100000
set_option maxHeartbeats 4000000
namespace PySem
section
variable {prog : Program} {w : World} {K : Type} [DecidableEq K] {knd : KeyKind prog w K} {A : Around} {E : Value → Shared → Prop} {s : Shared}
theorem wpAny_dictPut_pairs {d : Addr} {kvs : List (K × Value)} {k : K} {key v : Value} {Q : Unit → Shared → Prop} (hkey : knd.is k key = true) (hm : s.heap.DictOf knd d kvs)
    (hQ : ∀ h', h'.DictOf knd d (stored kvs k v) → Heap.SameBut d s.heap h' → Q () { s with heap := h' })
    (hsz : kvs.length ≤ sizeLine := by size_fits) :
    wpAny (model prog w) A (dictPut d (knd.hash k) key v) Q E s := by
  obtain ⟨o, es, ep, ho, hc, hd, hk, hp, hn⟩ := hm
  have hes : es.size ≤ sizeLine := by have e1 := hp.length; have e2 : es.toList.length = es.size := by simp
                                      omega
  unfold dictPut
  refine wpAny_bind (wpAny_dictFind_of hkey ho hd hk ?_)
  have hidx : (es.findIdx? fun e => knd.is k e.key) = kvs.findIdx? fun kv => decide (kv.1 = k) := by
    rw [← hp.findIdx k]; obtain ⟨l⟩ := es; simp
  cases hi : es.findIdx? fun e => knd.is k e.key with
  | some i =>
    refine wpAny_updateDict ho hd (hQ _ ⟨_, _, ep, Heap.get?_update_self _ ho (Obj.isFreed_of_dict (Obj.data_mapDict hd _)),
      hc.mapDict _, Obj.data_mapDict hd _, hk.modify _ _, ?_, ?_⟩ (Heap.SameBut.update ..))
    · rw [stored, if_pos (any_of_findIdx_some (hidx ▸ hi))]
      have hl : (es.toList.findIdx? fun e => knd.is k e.key) = some i := by rw [← hi]; obtain ⟨l⟩ := es; simp
      have := hp.modify hn hl v
      obtain ⟨l⟩ := es
      simpa using this
    · rw [stored, if_pos (any_of_findIdx_some (hidx ▸ hi)), keys_map_store]; exact hn
  | none =>
    have hnot : k ∉ kvs.map (·.1) := not_mem_of_findIdx_none (hidx ▸ hi)
    have hany : ¬ (kvs.any fun kv => decide (kv.1 = k)) = true := by
      rw [List.any_eq_true]; rintro ⟨kv, hkv, he⟩
      exact hnot (List.mem_map.mpr ⟨kv, hkv, of_decide_eq_true he⟩)
    refine wpAny_updateDictKeys (hz := hes) ho hd (hQ _ ⟨_, _, ep + 1, Heap.get?_update_self _ ho (Obj.isFreed_of_dict (Obj.data_mapDictKeys hd _)),
      hc.mapDictKeys _, Obj.data_mapDictKeys hd _, hk.push hkey _, ?_, ?_⟩ (Heap.SameBut.update ..))
    · rw [stored, if_neg hany]
      have := hp.append hkey (knd.hash k) v
      obtain ⟨l⟩ := es
      simpa using this
    · rw [stored, if_neg hany, List.map_append, List.nodup_append]
      refine ⟨hn, by simp, ?_⟩
      intro a ha b hb
      simp only [List.map_cons, List.map_nil, List.mem_singleton] at hb
      subst hb
      exact fun e => hnot (e ▸ ha)

/-- {**a, ..}: the entries of a dict put into another one -/
theorem wpAny_mergeMapping {d o : Addr} {kvs more : List (K × Value)} {Q : Unit → Shared → Prop} (hnr : ∀ k a, knd.is k (.ref a) = false) (hdo : d ≠ o) (hoS : (o == sysModules) = false)
    (hd : s.heap.DictOf knd d kvs) (ho : s.heap.DictOf knd o more)
    (hQ : ∀ h', h'.DictOf knd d (merged kvs more) → h'.DictOf knd o more → Heap.SameBut d s.heap h' → Q () { s with heap := h' })
    (hsz : kvs.length + more.length ≤ sizeLine := by size_fits) :
    wpAny (model prog w) A (mergeMapping d (.ref o) false) Q E s := by
  obtain ⟨od, esd, epd, hod, hcd, hdd, hkd, hpd, hnd⟩ := id hd
  obtain ⟨oo, eso, epo, hoo, hco, hdo', hko, hpo, hno⟩ := id ho
  have hlen : more.length = eso.size := by rw [← hpo.length]; simp
  unfold mergeMapping
  refine wpAny_bind (wpAny_isInstance ho.typeIs isSubtype_dict_dict ?_)
  dsimp only
  rw [if_pos rfl]
  refine wpAny_bind (wpAny_specialOf ho.typeIs F.slot_dict_iter.lookup ?_)
  refine wpAny_bind (wpAny_pure ?_)
  have e0 : (some (Value.builtin "dict.__iter__") == some (Value.builtin "dict.__iter__")) = true := by simp
  rw [e0]
  dsimp only
  rw [if_neg (by rw [hoS]; exact Bool.false_ne_true)]
  have loop : wpAny (model prog w) A (do
      let l0 ← dictEntries o
      let epoch ← dictEpoch o
      forIn (List.range l0.size) PUnit.unit fun i (_ : PUnit) => (do
          let l' ← dictEntries o
          match l'[i]? with
            | some e => do
              holding [e.key, e.val] (if false = true then do
                      let r ← dictFind d e.key e.hash
                      if r.isSome = true then do
                          rule "dict.merge.duplicate-key"
                          let x ← newExc (Value.type "KeyError") [e.key]
                          raiseNew x
                          dictPut d e.hash e.key e.val
                        else dictPut d e.hash e.key e.val
                    else dictPut d e.hash e.key e.val)
              let ep' ← dictEpoch o
              if (ep' != epoch) = true then do
                  (unsupported "dict.changed-during-merge" : Sem PUnit)
                  pure (ForInStep.yield PUnit.unit)
                else pure (ForInStep.yield PUnit.unit)
            | _ => do
              (unsupported "dict.changed-during-merge" : Sem PUnit)
              pure (ForInStep.yield PUnit.unit) : Sem (ForInStep PUnit))
      pure ()) Q E s := by
    refine wpAny_bind (wpAny_dictEntries hoo hdo' ?_)
    refine wpAny_bind (wpAny_dictEpoch hoo hdo' ?_)
    refine wpAny_bind ?_
    refine wpAny_forIn_list _
      (fun rest _ s' => ∃ h' i, s' = { s with heap := h' } ∧ rest = List.range' i (eso.size - i) ∧ i ≤ eso.size ∧ h'.DictOf knd d (merged kvs (more.take i)) ∧ h'.get? o = some oo ∧ Heap.SameBut d s.heap h')
      _ ?_ ?_ _ _ ⟨s.heap, 0, rfl, by simp [List.range_eq_range'], Nat.zero_le _, by simpa [merged] using hd, hoo, Heap.SameBut.refl _ _⟩
    · rintro x rest b s' ⟨h', i, rfl, hr, hi, hd', hoo', hs'⟩
      have hlt : i < eso.size := by
        rcases Nat.lt_or_ge i eso.size with h | h
        · exact h
        · rw [Nat.sub_eq_zero_of_le h] at hr; simp at hr
      obtain ⟨rfl, hrest⟩ : x = i ∧ rest = List.range' (i + 1) (eso.size - (i + 1)) := by
        have e : eso.size - i = (eso.size - (i + 1)) + 1 := by omega
        rw [e, List.range'_succ] at hr
        injection hr with h1 h2
        exact ⟨h1, h2⟩
      refine wpAny_bind (wpAny_dictEntries hoo' hdo' ?_)
      rw [Array.getElem?_eq_getElem hlt]
      obtain ⟨kv, hkv⟩ : ∃ kv, more[x]? = some kv := ⟨more[x]'(by rw [hlen]; exact hlt), List.getElem?_eq_getElem _⟩
      obtain ⟨k, v⟩ := kv
      obtain ⟨hkey, hval⟩ := hpo.get? (e := eso[x]) (by simp [hlt]) hkv
      obtain ⟨k', hkey', hhash⟩ := hko eso[x] (Array.getElem_mem hlt)
      obtain rfl : k' = k := knd.inj _ _ _ hkey' hkey
      have hmx : (merged kvs (more.take x)).length ≤ sizeLine := by
        have e1 := merged_length_le kvs (more.take x)
        have e2 : (more.take x).length ≤ more.length := by rw [List.length_take]; omega
        omega
      refine wpAny_bind (wpAny_holding ?_)
      rw [if_neg (by decide), hhash, hval]
      refine wpAny_dictPut_pairs (hsz := hmx) hkey hd' fun h'' hd'' hs'' => ?_
      have hoo'' : h''.get? o = some oo := (hs''.2 o (Ne.symm hdo)).trans hoo'
      refine wpAny_bind (wpAny_dictEpoch hoo'' hdo' ?_)
      rw [if_neg (by simp)]
      exact wpAny_pure ⟨h'', x + 1, rfl, hrest, hlt, by rw [merged_take_succ kvs more x (k', v) hkv]; exact hd'', hoo'', hs'.trans hs''⟩
    · rintro b s' ⟨h', i, rfl, hr, hi, hd', hoo', hs'⟩
      have hin : i = eso.size := by
        rcases Nat.lt_or_ge i eso.size with h | h
        · have e : eso.size - i = (eso.size - (i + 1)) + 1 := by omega
          rw [e, List.range'_succ] at hr; exact nomatch hr
        · exact Nat.le_antisymm hi h
      refine wpAny_pure (hQ h' ?_ ⟨oo, eso, epo, hoo', hco, hdo', hko, hpo, hno⟩ hs')
      rw [hin, ← hlen, List.take_length] at hd'; exact hd'
  refine wpAny_bind (wpAny_dictEntries hod hdd ?_)
  split
  · refine wpAny_bind (wpAny_dictEntries hoo hdo' ?_)
    refine wpAny_bind ?_
    rw [← Array.forIn_toList]
    refine wpAny_forIn_list _ (fun rest _ s' => s' = s ∧ ∀ e ∈ rest, e ∈ eso) _ ?_ ?_ _ _ ⟨rfl, fun e he => by simpa using he⟩
    · rintro x rest b s' ⟨rfl, hr⟩
      obtain ⟨k, hk, _⟩ := hko x (hr x List.mem_cons_self)
      have hx : ∀ a, x.key ≠ .ref a := fun a e => by rw [e, hnr] at hk; exact nomatch hk
      cases hkey : x.key with
      | ref a => exact absurd hkey (hx a)
      | _ => exact wpAny_pure ⟨rfl, fun e he => hr e (List.mem_cons_of_mem _ he)⟩
    · rintro b s' ⟨rfl, _⟩
      exact loop
  · exact loop
end
end PySem
namespace VL
open PySem PySem.Spec PyProof.Rows L2
/-- {**e, k: v} -/
def tStar (te tk tv : TE) : TE := fun σ H Q => ∀ p, H p = none → te σ (upd H p (.dK [])) fun x H1 => ∃ (a : Addr) (ks : List (Key × V)), x = .ref a ∧ a ≠ p ∧ H1 a = some (.dK ks) ∧ H1 p = some (.dK []) ∧ ks.length ≤ 1000 ∧
  ∀ q, (upd H1 p (.dK (mergeK [] ks))) q = none → tk σ (upd (upd H1 p (.dK (mergeK [] ks))) q (.dK [])) fun y H2 => tv σ H2 fun z H3 => ∃ (k : Key) (ks1 : List (Key × V)), y = kV k ∧ H3 q = some (.dK []) ∧ H3 p = some (.dK ks1) ∧ ks1.length ≤ 1000 ∧
    Q (.ref p) (upd (upd H3 q (.dK [(k, z)])) p (.dK (putK ks1 k z)))
theorem mix_ref (P : Program) (w : World) : ∀ (k : Key) (a : Addr), (mixKind P w).is k (.ref a) = false := fun k a => by
  cases e : (mixKind P w).is k (.ref a) with
  | false => rfl
  | true => rcases keyIs_shape e with ⟨i, t, _, h⟩ | ⟨x, t, _, h⟩ <;> exact nomatch h
theorem pe_star {X : Cx} {pos : Pos} {e k v : Expr} {te tk tv : TE} (he : PE X e te) (hk : PE X k tk) (hv : PE X v tv) : PE X (.Dict [none, some k] [e, v] pos) (tStar te tk tv) := by
  refine ⟨fun pins s σ H Q I h => ?_⟩
  have hn := I.hok.fresh (Nat.le_refl s.heap.objs.size)
  have I1 := I.laid (a := s.heap.objs.size) (o := .dK []) (h' := s.heap.push { cls := .type "dict", data := .dict #[] }) (t' := s.toks) (fun _ _ q => Heap.get?_push_of_some _ q) (Nat.le_refl _) (dk_empty s.heap I.big)
  rw [arm_eval_Dict]
  refine wpAny_bind (wpAny_standAt ?_)
  show wpAny _ _ (dictDisplay [(none, do let x ← eval e X.env; standAt pos; pure x), (some (eval k X.env), do let x ← eval v X.env; standAt pos; pure x)]) _ _ _
  unfold dictDisplay
  dsimp only
  rw [List.forIn_cons]
  dsimp only
  refine wpAny_bind (wpAny_bind (wpAny_bind ?_))
  rw [if_pos (show ([] : List (Sem Value × Sem Value)).isEmpty = true from rfl)]
  refine wpAny_pure ?_
  dsimp only
  refine wpAny_bind (wpAny_alloc ?_)
  refine wpAny_bind (wpAny_holding (wpAny_bind (thn (he.run pins _ σ _ _ I1 (h _ hn)) fun u s1 ⟨x, H1, I2, rx, a, ks, ex, hap, ha, hp, hl, q1⟩ => ?_)))
  subst ex
  obtain rfl : u = Value.ref a := rx
  refine wpAny_bind (wpAny_standAt (wpAny_pure ?_))
  obtain ⟨_, hsP, vp, rp, dp⟩ := dk_of I2.hok hp
  obtain ⟨_, hsA, va, ra, da⟩ := dk_of I2.hok ha
  cases rp
  have la : va.length ≤ 1000 := by rw [← ra.length]; exact hl
  refine wpAny_bind (wpAny_onRaise (wpAny_tryCatch (wpAny_onRaise (wpAny_holding (wpAny_mergeMapping (mix_ref X.prog X.w) (Ne.symm hap) hsA dp da (fun h' dd' oo' hs => ?_) (by rw [sizeLine_eq, List.length_nil]; omega))))))
  refine wpAny_pure ?_
  have hm1 : (mergeK [] ks).length ≤ sizeLine := by
    have := length_mergeK ks []
    rw [List.length_nil] at this
    rw [sizeLine_eq]; omega
  have I3 : Inv X pins σ (upd H1 s.heap.objs.size (.dK (mergeK [] ks))) { s1 with heap := h' } := by
    have hex : ∃ q, h'.get? s.heap.objs.size = some q := let ⟨q, _, _, hq, _⟩ := dd'; ⟨q, hq⟩
    exact d_write (t' := s1.toks) I2 (by rw [hp]; exact True.intro) hs hex (dk_new hm1 hsP (KV.merge ra .nil) dd')
  dsimp only
  rw [List.forIn_cons]
  dsimp only
  rw [if_neg (by simp)]
  refine wpAny_bind (wpAny_bind (wpAny_pure ?_))
  refine wpAny_pure ?_
  dsimp only
  rw [List.forIn_nil]
  refine wpAny_pure ?_
  dsimp only
  rw [if_neg (by simp)]
  have hn2 := I3.hok.fresh (Nat.le_refl h'.objs.size)
  have I4 := I3.laid (a := h'.objs.size) (o := .dK []) (h' := h'.push { cls := .type "dict", data := .dict #[] }) (t' := s1.toks) (fun _ _ q => Heap.get?_push_of_some _ q) (Nat.le_refl _) (dk_empty h' I3.big)
  refine wpAny_bind (wpAny_bind (wpAny_holding (wpAny_subDict (knd := mixKind X.prog X.w) (by simp) ?_)))
  refine wpAny_mono ((pps_cons (pos := pos) hk hv pps_nil).run pins _ σ _ (fun ps H3 => match ps with
    | [(y, z)] => ∃ (kk : Key) (ks1 : List (Key × V)), y = kV kk ∧ H3 h'.objs.size = some (.dK []) ∧ H3 s.heap.objs.size = some (.dK ks1) ∧ ks1.length ≤ 1000 ∧
        Q (.ref s.heap.objs.size) (upd (upd H3 h'.objs.size (.dK [(kk, z)])) s.heap.objs.size (.dK (putK ks1 kk z)))
    | _ => False) I4 (q1 _ hn2)) (fun ws s3 ⟨ps, H3, I5, rel, q3⟩ => ?_) fun _ _ e => e
  match ps, rel, q3 with
  | [(y, z)], rel, ⟨kk, ks1, ey, hq3, hp3, hl3, q3⟩ =>
    subst ey
    obtain ⟨rs, c, rk⟩ := carries_of (P := X.prog) (w := X.w) (kvs := [(kk, z)]) rel
    obtain ⟨_, hsQ, vq, rq, dq⟩ := dk_of I5.hok hq3
    cases rq
    refine ⟨rs, c, dq, fun h2 dd2 hs2 => ?_⟩
    have hex2 : ∃ q, h2.get? h'.objs.size = some q := let ⟨q, _, _, hq, _⟩ := dd2; ⟨q, hq⟩
    have I6 := d_write (t' := s3.toks + ws.length) I5 (by rw [hq3]; exact True.intro) hs2 hex2 (dk_new (kvs := mergeK [] [(kk, z)]) (by show 1 ≤ sizeLine; decide) hsQ (KV.merge rk .nil) dd2)
    have eM : mergeK [] [(kk, z)] = [(kk, z)] := rfl
    rw [eM] at I6
    have hne : s.heap.objs.size ≠ h'.objs.size := fun e => by
      rw [← e, upd_same] at hn2
      exact nomatch hn2
    have hp4 : upd H3 h'.objs.size (.dK [(kk, z)]) s.heap.objs.size = some (.dK ks1) := by rw [upd_ne hne]; exact hp3
    have hq4 : upd H3 h'.objs.size (.dK [(kk, z)]) h'.objs.size = some (.dK [(kk, z)]) := upd_same
    obtain ⟨_, _, v1, r1, d1⟩ := dk_of I6.hok hp4
    obtain ⟨_, _, v2, r2, d2⟩ := dk_of I6.hok hq4
    have l1 : v1.length ≤ 1000 := by rw [← r1.length]; exact hl3
    have l2 : v2.length = 1 := by rw [← r2.length]; rfl
    refine wpAny_bind (wpAny_onRaise (wpAny_holding (wpAny_mergeMapping (mix_ref X.prog X.w) hne hsQ d1 d2 (fun h3 dd3 oo3 hs3 => ?_) (by rw [sizeLine_eq]; omega))))
    refine wpAny_pure ?_
    have hex3 : ∃ q, h3.get? s.heap.objs.size = some q := let ⟨q, _, _, hq, _⟩ := dd3; ⟨q, hq⟩
    have hm3 : (mergeK ks1 [(kk, z)]).length ≤ sizeLine := by
      have := length_mergeK [(kk, z)] ks1
      have e1 : [(kk, z)].length = 1 := rfl
      rw [sizeLine_eq]; omega
    have I7 := d_write (t' := s3.toks + ws.length) I6 (by rw [hp4]; exact True.intro) hs3 hex3 (dk_new hm3 hsP (KV.merge r2 r1) dd3)
    exact wpAny_pure ⟨.ref s.heap.objs.size, _, I7, rfl, q3⟩
  | [], _, q3 => exact q3.elim
  | _ :: _ :: _, _, q3 => exact q3.elim
/-- a local name that holds one of the text's defs, called -/
def tCallT (P : Program) (w : World) (K : PySem.W.Frag) (mg : Str → Option Value) (base : Heap) (j i : Nat) (t : TA) : TE := fun σ H Q => ∃ (x : Str) (k : Nat) (sp : Sp) (f : Addr), k ≤ j ∧ Cal P w K mg base k x sp ∧ mg x = some (.ref f) ∧
  σ[i]? = some (some (.ref f)) ∧ t σ H fun vs H1 => sp vs H1 Q E0
section
variable {X : Cx} {j i : Nat} {x : Str} {p pos : Pos} {e : Expr} {es : List Expr} {t : TA}
theorem pe_callT (hr : Room j X.A) (hN : X.N[i]? = some x) (hv : Vis X.env.scope x) (ha : PA X (e :: es) t)
    (hd : (x == ("__debug__" : Str)) = false := by decide) (hcd : (x == ("__classdict__" : Str)) = false := by decide)
    (he : starEach (e :: es) X.env = (false, eval e X.env) :: starEach es X.env := by rfl) (hpl : (backTo pos (starEach es X.env)).any (·.1) = false := by rfl) :
    PE X (.Call (.Name x p) (e :: es) [] pos) (tCallT X.prog X.w X.K X.mg X.base j i t) := by
  refine ⟨fun pins s σ H Q I h => ?_⟩
  obtain ⟨y, k, sp, f, hk, c, hm, hs, ht⟩ := h
  obtain ⟨f2, fd, ps, F, hm2, kp, b⟩ := c.ex
  obtain rfl : f = f2 := by
    rw [hm] at hm2
    injection hm2 with e1
    injection e1
  refine wpAny_Call_Name_kw (thn ((pe_var (pos := p) hN hv hd hcd).run pins s σ H (fun v H1 => v = .ref f ∧ H1 = H) I ⟨.ref f, hs, rfl, rfl⟩) fun u s1 ⟨v, H1, I1, r1, q1⟩ => ?_)
  obtain ⟨rfl, rfl⟩ := q1
  cases r1
  refine PySem.W.callWith_K (h₀ := X.base) I.ok.mod.kin kp (thn (ha.run pos pins s1 σ _ _ I1 ht) fun us s2 ⟨vs, H2, I2, r, q⟩ => ⟨I2.kIn, ?_⟩) he hpl
  exact run_fn F (hr.mono hk) b .nil pass0 I2 r (by rw [List.append_nil]; exact q)
end
/-- an entry of a dict of the module that holds a def -/
def EntT (K : PySem.W.Frag) (w : World) (mg : Str → Option Value) (a : Addr) (key x : Str) : Prop := ∃ f, mg x = some (.ref f) ∧ KDct K w a key (.ref f)
end VL

set_option Elab.async false
set_option linter.all false
set_option maxRecDepth 100000
set_option maxHeartbeats 4000000
namespace VL
open PySem PySem.Spec PyProof.Rows L2
/-! ### a part of a heap, and a few objects beside it that change -/
structure Sb (G H : Hp) (M : List (Addr × HO)) : Prop where
  s : Same G H
  m : ∀ p ∈ M, G p.1 = none ∧ H p.1 = some p.2
  nd : (M.map (·.1)).Nodup
def joinH (G N : Hp) : Hp := fun b => match G b with
  | some o => some o
  | none => N b
theorem joinH_l {G N : Hp} : Same G (joinH G N) := fun b o e => by
  unfold joinH
  rw [e]
theorem joinH_r {G H H' : Hp} (s : Same G H) : Same (newer H H') (joinH G (newer H H')) := fun b o e => by
  obtain ⟨z, _⟩ := newer_some e
  unfold joinH
  cases g : G b with
  | none => exact e
  | some u => rw [s _ _ g] at z; exact nomatch z
theorem Sb.alloc {G H : Hp} {M : List (Addr × HO)} {t : Addr} {o : HO} (S : Sb G H M) (h : H t = none) : Sb (upd G t o) (upd H t o) M := by
  refine ⟨fun b u e => ?_, fun p hp => ?_, S.nd⟩
  · by_cases z : b = t
    · subst z
      rw [upd_same] at e ⊢
      exact e
    · rw [upd_ne z] at e ⊢
      exact S.s _ _ e
  · obtain ⟨h1, h2⟩ := S.m p hp
    have n : p.1 ≠ t := ne_of_none h2 h
    rw [upd_ne n, upd_ne n]
    exact ⟨h1, h2⟩
theorem Sb.gnone {G H : Hp} {M : List (Addr × HO)} {t : Addr} (S : Sb G H M) (h : H t = none) : G t = none := Same.free S.s h
theorem Sb.grow {G H : Hp} {M : List (Addr × HO)} {t : Addr} {o : HO} (S : Sb G H M) (h : H t = none) : Same G (upd G t o) := fun b u e => by rw [upd_ne (ne_of_none e (S.gnone h))]; exact e
theorem Sb.call {G H H' : Hp} {M : List (Addr × HO)} (S : Sb G H M) (s : Same H H') : Sb (joinH G (newer H H')) H' M := by
  refine ⟨fun b u e => ?_, fun p hp => ?_, S.nd⟩
  · unfold joinH at e
    cases g : G b with
    | some o => rw [g] at e; rw [← e]; exact s _ _ (S.s _ _ g)
    | none => rw [g] at e; exact (newer_some e).2
  · obtain ⟨h1, h2⟩ := S.m p hp
    refine ⟨?_, s _ _ h2⟩
    unfold joinH
    rw [h1]
    show newer H H' p.1 = none
    unfold newer
    rw [h2]
theorem Sb.add {G H : Hp} {M : List (Addr × HO)} {t : Addr} {o : HO} (S : Sb G H M) (h : H t = none) : Sb G (upd H t o) ((t, o) :: M) := by
  refine ⟨fun b u e => by rw [upd_ne (ne_of_none (S.s _ _ e) h)]; exact S.s _ _ e, fun p hp => ?_, ?_⟩
  · rcases List.mem_cons.mp hp with rfl | hp
    · exact ⟨S.gnone h, upd_same⟩
    · obtain ⟨h1, h2⟩ := S.m p hp
      exact ⟨h1, by rw [upd_ne (ne_of_none h2 h)]; exact h2⟩
  · rw [List.map_cons, List.nodup_cons]
    refine ⟨fun hm => ?_, S.nd⟩
    obtain ⟨p, hp, e⟩ := List.mem_map.mp hm
    have := (S.m p hp).2
    rw [e] at this
    rw [show H (t, o).1 = none from h] at this
    exact nomatch this
theorem Sb.put {G H : Hp} {M : List (Addr × HO)} {t : Addr} {o : HO} {u : HO} (S : Sb G H ((t, o) :: M)) : Sb G (upd H t u) ((t, u) :: M) := by
  have nd := S.nd
  rw [List.map_cons, List.nodup_cons] at nd
  have gt := (S.m (t, o) List.mem_cons_self).1
  refine ⟨fun b v e => by rw [upd_ne (ne_of_none e gt)]; exact S.s _ _ e, fun p hp => ?_, ?_⟩
  · rcases List.mem_cons.mp hp with rfl | hp
    · exact ⟨gt, upd_same⟩
    · obtain ⟨h1, h2⟩ := S.m p (List.mem_cons_of_mem _ hp)
      have n : p.1 ≠ t := fun z => nd.1 (List.mem_map.mpr ⟨p, hp, z⟩)
      exact ⟨h1, by rw [upd_ne n]; exact h2⟩
  · rw [List.map_cons, List.nodup_cons]
    exact nd
theorem Sb.swap {G H : Hp} {M : List (Addr × HO)} {p q : Addr × HO} (S : Sb G H (p :: q :: M)) : Sb G H (q :: p :: M) := by
  have nd := S.nd
  refine ⟨S.s, fun r hr => S.m r ?_, ?_⟩
  · rcases List.mem_cons.mp hr with rfl | hr
    · exact List.mem_cons_of_mem _ List.mem_cons_self
    · rcases List.mem_cons.mp hr with rfl | hr
      · exact List.mem_cons_self
      · exact List.mem_cons_of_mem _ (List.mem_cons_of_mem _ hr)
  · simp only [List.map_cons, List.nodup_cons, List.mem_cons] at nd ⊢
    refine ⟨fun z => ?_, fun z => nd.1 (.inr z), nd.2.2⟩
    rcases z with z | z
    · exact nd.1 (.inl z.symm)
    · exact nd.2.1 z
theorem Sb.drop {G H : Hp} {M : List (Addr × HO)} {t : Addr} {o : HO} (S : Sb G H ((t, o) :: M)) : Sb (upd G t o) H M ∧ Same G (upd G t o) := by
  have nd := S.nd
  rw [List.map_cons, List.nodup_cons] at nd
  obtain ⟨gt, ht⟩ := S.m (t, o) List.mem_cons_self
  refine ⟨⟨fun b u e => ?_, fun p hp => ?_, nd.2⟩, fun b u e => by rw [upd_ne (ne_of_none e gt)]; exact e⟩
  · by_cases z : b = t
    · subst z
      rw [upd_same] at e
      rw [← e]
      exact ht
    · rw [upd_ne z] at e
      exact S.s _ _ e
  · obtain ⟨h1, h2⟩ := S.m p (List.mem_cons_of_mem _ hp)
    have n : p.1 ≠ t := fun z => nd.1 (List.mem_map.mpr ⟨p, hp, z⟩)
    exact ⟨by rw [upd_ne n]; exact h1, h2⟩
theorem Sb.hd {G H : Hp} {M : List (Addr × HO)} {p : Addr × HO} (S : Sb G H (p :: M)) : H p.1 = some p.2 := (S.m p List.mem_cons_self).2
theorem Sb.hd2 {G H : Hp} {M : List (Addr × HO)} {p q : Addr × HO} (S : Sb G H (q :: p :: M)) : H p.1 = some p.2 := (S.m p (List.mem_cons_of_mem _ List.mem_cons_self)).2
theorem Sb.nil {H : Hp} : Sb H H [] := ⟨Same.refl _, (fun _ h => nomatch h), List.nodup_nil⟩
end VL

set_option Elab.async false
set_option linter.all false
set_option maxRecDepth 100000
set_option maxHeartbeats 4000000
namespace VL
open PySem PySem.Spec PyProof.Rows L2
theorem Sb.put2 {G H : Hp} {M : List (Addr × HO)} {p : Addr × HO} {t : Addr} {o u : HO} (S : Sb G H (p :: (t, o) :: M)) : Sb G (upd H t u) (p :: (t, u) :: M) := S.swap.put.swap
theorem Sb.more {G H H' : Hp} {M : List (Addr × HO)} (S : Sb G H M) (s : Same H H') : ∃ G', Sb G' H' M ∧ Same G G' := ⟨_, S.call s, joinH_l⟩
theorem flat_one {α : Type} (l : List α) : (l.map fun c => [c]).flatten = l := by
  induction l with
  | nil => rfl
  | cons c cs ih => simp [ih]
theorem valV_in2 {k : Key} : ∀ {ks : List (Key × V)}, k ∈ ks.map (·.1) → (valV ks k).isSome = true
  | p :: ks, h => by
    by_cases e : p.1 = k
    · rw [valV_pos e]
      rfl
    · rw [valV_neg e]
      refine valV_in2 ?_
      rcases List.mem_cons.mp (show k ∈ p.1 :: ks.map (·.1) from h) with z | z
      · exact absurd z.symm e
      · exact z
end VL

set_option Elab.async false
set_option linter.all false
set_option maxRecDepth 100000
set_option maxHeartbeats 4000000
namespace PySem.W
open PySem PyProof.Rows
section
variable {prog : Program} {w : World} {A A₀ : Around} {E : Value → Shared → Prop} {s : Shared} {K : Frag} {x C L f : Addr} {h₀ : Heap} {m : Str → Option Value} {ox : Obj} {od : Option Obj} {name : Str} {b tb : Value}
theorem ifBound_B {M : Model} {id : String} {T : String} {nm : Str} {args : List Value} {Q : Option Value → Shared → Prop} (X : K.In s.heap) (I : InstAt s.heap x ox C od) (hs : findIn K (.ref C) name = some (some (.builtin id))) (S : Slot T nm id)
    (h : wpAny M A (call (.builtin id) (.ref x :: args)) (fun v => Q (some v)) E s) : wpAny M A (callSpecialIfBound? (.ref x) name args) Q E s := by
  simp only [callSpecialIfBound?, bindSpecialIfBound?]
  refine wpAny_holding (wpAny_bind (wpAny_bind (wpAny_bind (I.type.here ((looks_findIn X hs).here ?_)))))
  simp only [S.bind]
  refine wpAny_bind (wpAny_askSetting (wpAny_ite ?_))
  have fin : wpAny M A (call (.builtin id) ([.ref x] ++ args) >>= fun v => pure (some v)) Q E s := wpAny_bind (wpAny_mono h (fun v s' h' => wpAny_pure h') fun _ _ h' => h')
  split
  · exact wpAny_bind (wpAny_pure (wpAny_pure (by exact fin)))
  · exact wpAny_tryCatch (wpAny_bind (wpAny_pure (wpAny_pure (by exact fin))))
theorem objNe_K {Q : Fin → Shared → Prop} (X : K.In s.heap) (I : InstAt s.heap x ox C od) (hs : findIn K (.ref C) "__eq__" = some (some (.ref f))) (hf : isFn K (.ref f) = true) (hu : A.units < cLine)
    (hcall : wpAny (model prog w) A (call (.ref f) [.ref x, b]) (fun v s' => ∃ r, v = .bool r ∧ Q (.done (.ret (.bool (!r)))) s') E s) :
    wpAny (model prog w) A (Builtin.«object.__ne__» ⟨[.ref x, b], []⟩) Q E s := by
  obtain ⟨hp, g, d, t, os⟩ := s
  unfold Builtin.«object.__ne__»
  repeat (first
    | with_reducible refine wpAny_cRoomFor hu ?_
    | (refine wpAny_bind (m := callSpecialIfBound? (.ref x) (Str.ofString "__eq__") [b])
        (ifBound_K X I hs hf (wpAny_mono hcall (fun r s' hr => by
          obtain ⟨z, rfl, hq⟩ := hr
          repeat (first | exact hq | exact wpAny_pure hq | exact wpAny_truthy_bool hq | (refine wpAny_bind (m := truthy (.bool _)) (wpAny_truthy_bool ?_)) | wp_step)) fun _ _ e => e)))
    | wp_step)
/-- x != b by the own == of x's class -/
theorem ne_K {Q : Value → Shared → Prop} (hu : A.units + 1 < cLine) (F : Fr h₀ L s.heap m) (X₀ : K.In h₀) (I : InstAt s.heap x ox C od) (hb : Looks (model prog w) s.heap (typeOf b) tb) (hn : notFirst K C tb = true)
    (hN : findIn K (.ref C) "__ne__" = some (some (.builtin "object.__ne__"))) (hob : mroIn K C (.type "object") = some true) (hs : findIn K (.ref C) "__eq__" = some (some (.ref f))) (hf : isFn K (.ref f) = true)
    (h : wpAny (model prog w) A.in1 (call (.ref f) [.ref x, b]) (fun v s' => ∃ r, v = .bool r ∧ Q (.bool (!r)) s') E s) : wpAny (model prog w) A (richCompare .NotEq (.ref x) b) Q E s := by
  have X := X₀.keeps F.keep
  have S : Slot "zip" "__ne__" "object.__ne__" := PySem.F.slot_zip_ne
  have sub : Looks (model prog w) s.heap (isInstance (.ref x) (.type "object")) true := I.type.andThen (looks_mroIn X hob)
  have one : wpAny (model prog w) A (tryCompare (.ref x) "__ne__" b) (fun r s' => ∃ v, r = some v ∧ Q v s') E s := by
    unfold tryCompare
    refine wpAny_bind (ifBound_B X I hN S (wpAny_call (codeAny_call_builtin S.plain PySem.F.cmpEntry_ne
      (@check_slot (model prog w) _ _ s "object.__ne__" "object" "__ne__" (.ref x) [b] [] _ PySem.F.cmpKind_ne PySem.F.cmpSplit_ne sub (PySem.F.cmpArgs_ne _ _)
        (objNe_K (A := A.in1) X I hs hf hu (wpAny_mono h (fun v s' hv => ?_) fun _ _ e => e))))))
    obtain ⟨r, rfl, hq⟩ := hv
    exact ⟨r, rfl, wpAny_pure ⟨_, rfl, hq⟩⟩
  unfold richCompare
  simp only [oneThing_ref]
  refine wpAny_holding (wpAny_bind (wpAny_cRoomFor (Nat.lt_of_succ_lt hu) ?_))
  rw [show (cmpInfo .NotEq).2.1 = "__ne__" from rfl]
  refine wpAny_bind (I.type.here (wpAny_bind (hb.here ?_)))
  split
  · rename_i q
    have e : subIn K tb (.ref C) = some false := by
      rcases Bool.or_eq_true_iff.mp hn with e | e
      · rw [beq_iff_eq.mp e] at q; simp at q
      · exact beq_iff_eq.mp e
    refine wpAny_bind ((looks_subIn X e).here ?_)
    simp only [Bool.false_eq_true, if_false]
    refine wpAny_bind (wpAny_mono one (fun r s' z => ?_) fun _ _ e => e)
    obtain ⟨v, rfl, hq⟩ := z
    exact wpAny_pure hq
  · refine wpAny_bind (wpAny_pure ?_)
    simp only [Bool.false_eq_true, if_false]
    refine wpAny_bind (wpAny_mono one (fun r s' z => ?_) fun _ _ e => e)
    obtain ⟨v, rfl, hq⟩ := z
    exact wpAny_pure hq
end
end PySem.W
namespace L2
open PySem PySem.Spec PyProof.Rows
def rNeG (D : Eqv) : R2 := fun x y H Q => D x y H ∧ ∀ H', Ext H H' → Q (.bl false) H'
section
variable {X : Cx} {n : Nat}
theorem op_neIns {CX : CXT} {C f : Addr} {fd : FuncData} {ps : List Str} {R : Addr → Addr → Hp → Prop} {E : XK} (F : FnOk X.prog X.w X.K X.mg X.base CX n f fd ps (spEq R))
    (hN : PySem.W.findIn X.K (.ref C) "__ne__" = some (some (.builtin "object.__ne__"))) (hob : PySem.W.mroIn X.K C (.type "object") = some true)
    (hs : PySem.W.findIn X.K (.ref C) "__eq__" = some (some (.ref f))) (hf : PySem.W.isFn X.K (.ref f) = true) (hb : Binds X.K fd ps []) (hx : Passes CX X E) (hr : Room (n + 1) X.A) : OpR X (compareOp .NotEq) (rNeG (DIns C R)) := by
  intro pins s σ H x y v u Q I rx ry hq
  obtain ⟨⟨a, b, dx, dy, fs, gs, rfl, rfl, ha, hb', hR⟩, q⟩ := hq
  cases rx
  cases ry
  show wpAny (model X.prog X.w) X.A (richCompare .NotEq (.ref a) (.ref b)) (EP X pins σ Q) X.xe s
  obtain ⟨mA, J, _⟩ := ins_get I.hok ha
  obtain ⟨mB, J', _⟩ := ins_get I.hok hb'
  obtain ⟨od, J, _⟩ := J.look
  obtain ⟨od', J', _⟩ := J'.look
  obtain ⟨m, hF⟩ := I.fr
  refine PySem.W.ne_K (tb := .ref C) (by have := hr.units; omega) hF I.ok.mod.kin J J'.type (by simp [PySem.W.notFirst]) hN hob hs hf ?_
  have hsp : spEq R [.ref a, .ref b] H (fun v H' => v = .bl true ∧ Ext H H') E := ⟨a, b, rfl, hR, fun H' e => ⟨rfl, e⟩⟩
  have e0 : Env0 X.prog X.w X.K X.mg X.base X.A.in1 X.stack s H := by
    have e := I.env0
    exact ⟨e.frames, e.mod, e.bs, e.bsz, e.funs, e.frf, e.hok, e.bare⟩
  have hl := F.len _ _ _ _ hsp
  have r2 : Vals [V.ref a, V.ref b] [Value.ref a, Value.ref b] := .cons rfl (.cons rfl .nil)
  refine wpAny_call (codeAny_mono (F.run X.A.in1 X.stack s H ⟨[.ref a, .ref b], []⟩ [.ref a, .ref b] [.ref a, .ref b] _ E hr.in1 e0 (by
    have := hb s [.ref a, .ref b] I.kIn (by simpa using hl)
    simpa using this) r2 hsp) fun r s' hq => ?_)
  cases r with
  | error e => exact hx pins σ H s e s' I hq
  | ok fl =>
    cases fl with
    | ret w =>
      obtain ⟨z, H', I', rz, ez, ex⟩ := I.after hq
      subst ez
      cases rz
      exact ⟨true, rfl, .bl false, H', I', rfl, q H' ex⟩
    | next => exact False.elim hq
    | brk => exact False.elim hq
    | cont => exact False.elim hq
end
end L2

set_option Elab.async false
set_option linter.all false
set_option maxRecDepth 100000
set_option maxHeartbeats 4000000
/-! sleeping generators stay as they are: a run over a state in which they cannot be woken goes the same where they can -/
namespace VG
open PySem
open Sem (wp)
def Frame.strip : Frame → Frame
  | .gen _ _ l c p => .ret (fun _ => .unsupported "") none false l c p []
  | f => f
theorem strip_where (f : Frame) : (Frame.strip f).where_ = f.where_ := by cases f <;> rfl
/-- no generator's frame among them -/
def NoGen (fs : List Frame) : Prop := ∀ f ∈ fs, ∀ g k l c p, f ≠ .gen g k l c p
theorem NoGen.nil : NoGen [] := fun _ h => nomatch h
theorem NoGen.tail {f : Frame} {fs : List Frame} (h : NoGen (f :: fs)) : NoGen fs := fun x hx => h x (List.mem_cons_of_mem _ hx)
theorem NoGen.app {l r : List Frame} (a : NoGen l) (b : NoGen r) : NoGen (l ++ r) := fun x hx => (List.mem_append.mp hx).elim (a x) (b x)
theorem NoGen.one {k h g l c p kp} : NoGen [.ret k h g l c p kp] := fun x hx => by
  rw [List.mem_singleton.mp hx]
  intro _ _ _ _ _ e
  cases e
theorem NoGen.strip (fs : List Frame) : NoGen (fs.map Frame.strip) := fun x hx => by
  obtain ⟨y, _, rfl⟩ := List.mem_map.mp hx
  intro _ _ _ _ _ e
  cases y <;> cases e
theorem NoGen.split : ∀ {fs : List Frame}, NoGen fs → splitAtGen fs = none
  | [], _ => rfl
  | .gen g k l c p :: fs, h => absurd rfl (h _ List.mem_cons_self g k l c p)
  | .ret _ _ _ _ _ _ _ :: fs, h => by
    show (splitAtGen fs).map _ = none
    rw [NoGen.split h.tail]
    rfl
/-- asleep for ever -/
def dead : GenState → GenState
  | .suspended _ l c p fs cl => .suspended (fun _ => .unsupported "") l c p (fs.map Frame.strip) cl
  | x => x
theorem dead_seen (x : GenState) : (dead x).seen = x.seen := by
  cases x with
  | suspended k l c p fs cl =>
    show (GenStatus.suspended, some ((c, p) :: (fs.map Frame.strip).map Frame.where_)) = (GenStatus.suspended, some ((c, p) :: fs.map Frame.where_))
    rw [List.map_map]
    have : Frame.where_ ∘ Frame.strip = Frame.where_ := funext strip_where
    rw [this]
  | _ => rfl
def Susp : GenState → Prop
  | .suspended .. => True
  | _ => False
def EndNG : End → Prop
  | .susp _ _ _ _ _ _ fs => NoGen fs
  | _ => True
def StNG : GenState → Prop
  | .suspended _ _ _ _ fs _ => NoGen fs
  | _ => True
theorem EndNG.st {e : End} (h : EndNG e) : StNG e.genState := by cases e <;> exact h
/-- A: where those of I are dead; G: where they sleep -/
structure Sw (I : Nat → Option GenState) (A G : Array GenState) : Prop where
  size : A.size = G.size
  at_ : ∀ i x, I i = some x → Susp x ∧ A[i]? = some (dead x) ∧ G[i]? = some x
  eq : ∀ i, I i = none → A[i]? = G[i]?
  ng : ∀ (i : Nat) (x : GenState), A[i]? = some x → StNG x
theorem Sw.set {I : Nat → Option GenState} {A G : Array GenState} {g : Nat} {x : GenState} (h : Sw I A G) (hg : I g = none) (hx : StNG x) : Sw I (A.setIfInBounds g x) (G.setIfInBounds g x) where
  size := by rw [Array.size_setIfInBounds, Array.size_setIfInBounds, h.size]
  at_ := fun i y hy => by
    have ne : g ≠ i := fun z => by rw [z, hy] at hg; cases hg
    rw [Array.getElem?_setIfInBounds_ne ne, Array.getElem?_setIfInBounds_ne ne]
    exact h.at_ i y hy
  eq := fun i hi => by
    by_cases z : g = i
    · subst z
      rw [Array.getElem?_setIfInBounds_self, Array.getElem?_setIfInBounds_self, h.size]
    · rw [Array.getElem?_setIfInBounds_ne z, Array.getElem?_setIfInBounds_ne z]
      exact h.eq i hi
  ng := fun i y hy => by
    by_cases z : g = i
    · subst z
      rw [Array.getElem?_setIfInBounds_self] at hy
      split at hy
      · cases hy; exact hx
      · cases hy
    · rw [Array.getElem?_setIfInBounds_ne z] at hy
      exact h.ng i y hy
theorem Sw.push {I : Nat → Option GenState} {A G : Array GenState} {x : GenState} (h : Sw I A G) (hx : StNG x) : Sw I (A.push x) (G.push x) where
  size := by rw [Array.size_push, Array.size_push, h.size]
  at_ := fun i y hy => by
    obtain ⟨a, b, c⟩ := h.at_ i y hy
    have h1 := (Array.getElem?_eq_some_iff.mp b).1
    have h2 := (Array.getElem?_eq_some_iff.mp c).1
    refine ⟨a, ?_, ?_⟩
    · rw [Array.getElem?_push_lt h1, ← Array.getElem?_eq_getElem h1]; exact b
    · rw [Array.getElem?_push_lt h2, ← Array.getElem?_eq_getElem h2]; exact c
  eq := fun i hi => by
    rw [Array.getElem?_push, Array.getElem?_push, h.size]
    split
    · rfl
    · exact h.eq i hi
  ng := fun i y hy => by
    rw [Array.getElem?_push] at hy
    split at hy
    · cases hy; exact hx
    · exact h.ng i y hy
theorem Sw.alive {I : Nat → Option GenState} {A G : Array GenState} {g : Nat} {x : GenState} (h : Sw I A G) (e : A[g]? = some x) (hx : ¬ Susp x) : I g = none ∧ G[g]? = some x := by
  cases z : I g with
  | none => exact ⟨rfl, by rw [← h.eq g z]; exact e⟩
  | some y =>
    obtain ⟨a, b, _⟩ := h.at_ g y z
    rw [b] at e
    cases e
    exact absurd (by cases y <;> first | exact a | exact True.intro) hx
section
variable {M : Model}
theorem no_unsup0 {Γ : Ctx} {p : Pos} {w : String} {s s' : Shared} {e : End} (h : Runs M Γ p (.unsupported w) [] s e s') : False := nomatch h
theorem no_unsup {Γ : Ctx} {p : Pos} {w : String} {fs : List Frame} {s s' : Shared} {e : End} (h : Runs M Γ p (.unsupported w) fs s e s') : False := by
  cases h with
  | segRet a _ => exact no_unsup0 a
  | segGen a _ => exact no_unsup0 a
  | segSuspOut _ a => exact no_unsup0 a
  | segSuspGen _ a _ _ => exact no_unsup0 a
end
end VG

set_option Elab.async false
set_option linter.all false
set_option maxRecDepth 100000
set_option maxHeartbeats 4000000
namespace VG
open PySem
open Sem (wp)
section
variable {M : Model} {I : Nat → Option GenState}
abbrev wg (s : Shared) (G : Array GenState) : Shared := { s with gens := G }
theorem runs_sw {Γ : Ctx} {p : Pos} {t : Sem PySem.Fin} {fs : List Frame} {s s' : Shared} {e : End} (h : Runs M Γ p t fs s e s') : NoGen fs → ∀ G, Sw I s.gens G →
    ∃ G', Sw I s'.gens G' ∧ EndNG e ∧ Runs M Γ p t fs (wg s G) e (wg s' G') := by
  induction h with
  | done => exact fun _ G w => ⟨G, w, True.intro, .done⟩
  | raise => exact fun _ G w => ⟨G, w, True.intro, .raise⟩
  | again hq r ih => intro _ G w; obtain ⟨G', a, b, c⟩ := ih .nil G w; exact ⟨G', a, b, .again hq c⟩
  | rule r ih => intro _ G w; obtain ⟨G', a, b, c⟩ := ih .nil G w; exact ⟨G', a, b, .rule c⟩
  | «at» r ih => intro _ G w; obtain ⟨G', a, b, c⟩ := ih .nil G w; exact ⟨G', a, b, .at c⟩
  | load ho r ih => intro _ G w; obtain ⟨G', a, b, c⟩ := ih .nil G w; exact ⟨G', a, b, .load ho c⟩
  | update ho r ih => intro _ G w; obtain ⟨G', a, b, c⟩ := ih .nil G w; exact ⟨G', a, b, .update ho c⟩
  | loadIfAlive r ih => intro _ G w; obtain ⟨G', a, b, c⟩ := ih .nil G w; exact ⟨G', a, b, .loadIfAlive c⟩
  | point r ih => intro _ G w; obtain ⟨G', a, b, c⟩ := ih .nil G w; exact ⟨G', a, b, .point c⟩
  | alloc r ih => intro _ G w; obtain ⟨G', a, b, c⟩ := ih .nil G w; exact ⟨G', a, b, .alloc c⟩
  | fresh r ih => intro _ G w; obtain ⟨G', a, b, c⟩ := ih .nil G w; exact ⟨G', a, b, .fresh c⟩
  | ask r ih => intro _ G w; obtain ⟨G', a, b, c⟩ := ih .nil G w; exact ⟨G', a, b, .ask c⟩
  | choose hn r ih => intro _ G w; obtain ⟨G', a, b, c⟩ := ih .nil G w; exact ⟨G', a, b, .choose hn c⟩
  | os r ih => intro _ G w; obtain ⟨G', a, b, c⟩ := ih .nil G w; exact ⟨G', a, b, .os c⟩
  | handled r ih => intro _ G w; obtain ⟨G', a, b, c⟩ := ih .nil G w; exact ⟨G', a, b, .handled c⟩
  | stack r ih => intro _ G w; obtain ⟨G', a, b, c⟩ := ih .nil G w; exact ⟨G', a, b, .stack c⟩
  | thread r ih => intro _ G w; obtain ⟨G', a, b, c⟩ := ih .nil G w; exact ⟨G', a, b, .thread c⟩
  | @genState g st Γ p k s e s' hs r ih =>
    intro _ G w
    obtain ⟨G', a, b, c⟩ := ih .nil G w
    refine ⟨G', a, b, ?_⟩
    cases z : I g with
    | none => exact .genState (st := st) (by show G[g]? = _; rw [← w.eq g z]; exact hs) c
    | some y =>
      obtain ⟨_, h2, h3⟩ := w.at_ g y z
      rw [h2] at hs
      cases hs
      rw [dead_seen] at c
      exact .genState (st := y) h3 c
  | @newGen Γ p k s e s' cc r ih =>
    intro _ G w
    obtain ⟨G', a, b, c⟩ := ih .nil _ (w.push (x := .fresh cc) True.intro)
    refine ⟨G', a, b, .newGen ?_⟩
    show Runs M Γ p (k G.size) [] _ _ _
    rw [← w.size]
    exact c
  | call r1 r2 ih1 ih2 =>
    intro _ G w
    obtain ⟨G1, a1, b1, c1⟩ := ih1 .nil G w
    obtain ⟨G2, a2, b2, c2⟩ := ih2 .nil G1 a1
    exact ⟨G2, a2, b2, .call c1 c2⟩
  | callSusp r1 ih1 =>
    intro _ G w
    obtain ⟨G1, a1, b1, c1⟩ := ih1 .nil G w
    exact ⟨G1, a1, NoGen.app b1 .one, .callSusp c1⟩
  | yield => exact fun _ G w => ⟨G, w, NoGen.nil, .yield⟩
  | resumeFresh hg r1 hq r2 ih1 ih2 =>
    intro _ G w
    obtain ⟨z, hg'⟩ := w.alive hg (fun z => z)
    obtain ⟨G1, a1, b1, c1⟩ := ih1 .nil _ (w.set z True.intro)
    obtain ⟨G2, a2, b2, c2⟩ := ih2 .nil _ (a1.set z b1.st)
    exact ⟨G2, a2, b2, .resumeFresh hg' c1 hq c2⟩
  | @resumeSuspended Γ p g r l k s k0 l0 c0 p0 fs cl e1 s1 e s' hg r1 hq r2 ih1 ih2 =>
    intro _ G w
    cases z : I g with
    | none =>
      have hg' : G[g]? = some (.suspended k0 l0 c0 p0 fs cl) := by rw [← w.eq g z]; exact hg
      obtain ⟨G1, a1, b1, c1⟩ := ih1 (w.ng g _ hg) _ (w.set z True.intro)
      obtain ⟨G2, a2, b2, c2⟩ := ih2 .nil _ (a1.set z b1.st)
      exact ⟨G2, a2, b2, .resumeSuspended hg' c1 hq c2⟩
    | some y =>
      obtain ⟨h1, h2, _⟩ := w.at_ g y z
      rw [h2] at hg
      cases y with
      | suspended k l c p fs cl =>
        cases hg
        exact (no_unsup r1).elim
      | _ => exact h1.elim
  | resumeJustStarted hg hv r ih =>
    intro _ G w
    obtain ⟨z, hg'⟩ := w.alive hg (fun z => z)
    obtain ⟨G', a, b, c⟩ := ih .nil G w
    exact ⟨G', a, b, .resumeJustStarted hg' hv c⟩
  | resumeThrowFresh hg r ih =>
    intro _ G w
    obtain ⟨z, hg'⟩ := w.alive hg (fun z => z)
    obtain ⟨G', a, b, c⟩ := ih .nil _ (w.set z True.intro)
    exact ⟨G', a, b, .resumeThrowFresh hg' c⟩
  | resumeRunning hg r ih =>
    intro _ G w
    obtain ⟨z, hg'⟩ := w.alive hg (fun z => z)
    obtain ⟨G', a, b, c⟩ := ih .nil G w
    exact ⟨G', a, b, .resumeRunning hg' c⟩
  | resumeFinished hg r ih =>
    intro _ G w
    obtain ⟨z, hg'⟩ := w.alive hg (fun z => z)
    obtain ⟨G', a, b, c⟩ := ih .nil G w
    exact ⟨G', a, b, .resumeFinished hg' c⟩
  | segRet r1 r2 ih1 ih2 =>
    intro hn G w
    obtain ⟨G1, a1, b1, c1⟩ := ih1 .nil G w
    obtain ⟨G2, a2, b2, c2⟩ := ih2 hn.tail G1 a1
    exact ⟨G2, a2, b2, .segRet c1 c2⟩
  | segGen r1 r2 ih1 ih2 => exact fun hn => absurd rfl (hn _ List.mem_cons_self _ _ _ _ _)
  | segSuspOut hs r ih =>
    intro hn G w
    obtain ⟨G', a, b, c⟩ := ih .nil G w
    exact ⟨G', a, NoGen.app b hn, .segSuspOut hs c⟩
  | segSuspGen hs r1 hq r2 ih1 ih2 =>
    intro hn
    rw [hn.split] at hs
    cases hs
theorem wakes_sw {Γ : Ctx} {p : Pos} {g : Nat} {r : Resume} {s s' : Shared} {res : GenResult} (h : Wakes M Γ p g r s res s') {G : Array GenState} (w : Sw I s.gens G) : ∃ G', Sw I s'.gens G' ∧ Wakes M Γ p g r (wg s G) res (wg s' G') := by
  unfold Wakes at h
  split at h
  · exact h.elim
  · rename_i c hg
    obtain ⟨z, hg'⟩ := w.alive hg (fun z => z)
    split at h
    · obtain ⟨e1, s1, r1, hq, hr, rfl⟩ := h
      obtain ⟨G1, a1, b1, c1⟩ := runs_sw r1 .nil _ (w.set z True.intro)
      refine ⟨_, a1.set z b1.st, ?_⟩
      unfold Wakes
      rw [show (wg _ G).gens[g]? = _ from hg']
      exact ⟨e1, _, c1, hq, hr, rfl⟩
    · rename_i v hv
      obtain ⟨hr, rfl⟩ := h
      refine ⟨G, w, ?_⟩
      unfold Wakes
      rw [show (wg _ G).gens[g]? = _ from hg']
      cases v with
      | none => exact (hv rfl).elim
      | _ => exact ⟨hr, rfl⟩
    · obtain ⟨hr, rfl⟩ := h
      refine ⟨_, w.set z True.intro, ?_⟩
      unfold Wakes
      rw [show (wg _ G).gens[g]? = _ from hg']
      exact ⟨hr, rfl⟩
  · rename_i k0 l0 c0 p0 fs cl hg
    obtain ⟨e1, s1, r1, hq, hr, rfl⟩ := h
    cases z : I g with
    | none =>
      have hg' : G[g]? = some (.suspended k0 l0 c0 p0 fs cl) := by rw [← w.eq g z]; exact hg
      obtain ⟨G1, a1, b1, c1⟩ := runs_sw r1 (w.ng g _ hg) _ (w.set z True.intro)
      refine ⟨_, a1.set z b1.st, ?_⟩
      unfold Wakes
      rw [show (wg _ G).gens[g]? = _ from hg']
      exact ⟨e1, _, c1, hq, hr, rfl⟩
    | some y =>
      obtain ⟨h1, h2, _⟩ := w.at_ g y z
      rw [h2] at hg
      cases y with
      | suspended k l c p fs cl =>
        cases hg
        exact (no_unsup r1).elim
      | _ => exact h1.elim
  · rename_i hg
    obtain ⟨z, hg'⟩ := w.alive hg (fun z => z)
    obtain ⟨hr, rfl⟩ := h
    refine ⟨G, w, ?_⟩
    unfold Wakes
    rw [show (wg _ G).gens[g]? = _ from hg']
    exact ⟨hr, rfl⟩
  · rename_i hg
    obtain ⟨z, hg'⟩ := w.alive hg (fun z => z)
    obtain ⟨hr, rfl⟩ := h
    refine ⟨G, w, ?_⟩
    unfold Wakes
    rw [show (wg _ G).gens[g]? = _ from hg']
    exact ⟨hr, rfl⟩
end
end VG

set_option Elab.async false
set_option linter.all false
set_option maxRecDepth 100000
set_option maxHeartbeats 4000000
namespace VG
open PySem
open Sem (wp)
section
variable {M : Model} {I : Nat → Option GenState}
/-- what was told of the state where they are dead -/
def QS (I : Nat → Option GenState) {α : Type} (Q : α → Pos → Shared → Prop) : α → Pos → Shared → Prop := fun a p s' => ∃ A, Sw I A s'.gens ∧ Q a p (wg s' A)
theorem wp_sw {α : Type} {Γ : Ctx} (t : Sem α) : ∀ (Q : α → Pos → Shared → Prop) (E : Value → Pos → Shared → Prop) (p : Pos) (s : Shared) (G : Array GenState), Sw I s.gens G → wp M Γ t Q E p s →
    wp M Γ t (QS I Q) (QS I E) p (wg s G) := by
  induction t with
  | pure a => intro Q E p s G w h; exact ⟨s.gens, w, h⟩
  | raise e => intro Q E p s G w h; exact ⟨s.gens, w, h⟩
  | unsupported _ => intro Q E p s G _ h; exact h
  | finish _ => intro Q E p s G _ h; exact h
  | rule _ k ih => intro Q E p s G w h; exact ih () Q E p s G w h
  | «at» p' k ih => intro Q E p s G w h; exact ih () Q E p' s G w h
  | load a _ k ih => intro Q E p s G w h; obtain ⟨o, ho, h⟩ := h; exact ⟨o, ho, ih o Q E p s G w h⟩
  | update a _ f k ih => intro Q E p s G w h; exact ⟨h.1, ih () Q E p { s with heap := s.heap.update a f } G w h.2⟩
  | loadIfAlive a k ih => intro Q E p s G w h; exact ih _ Q E p s G w h
  | point _ k ih => intro Q E p s G w h; exact ih () Q E p s G w h
  | register _ _ => intro Q E p s G _ h; exact h
  | alloc o k ih => intro Q E p s G w h; exact ih _ Q E p { s with heap := s.heap.push o } G w h
  | fresh k ih => intro Q E p s G w h; exact ih _ Q E p { s with toks := s.toks + 1 } G w h
  | ask k ih => intro Q E p s G w h; exact ih _ Q E p _ G w h
  | choose src m k ih => intro Q E p s G w h; exact ⟨h.1, ih _ Q E p { s with drawn := s.drawn.bump src } G w h.2⟩
  | os q _ k ih => intro Q E p s G w h; exact ih _ Q E p { s with os := (Os.step s.os q).1 } G w h
  | call c hd _ _ k ih =>
    intro Q E p s G w h
    obtain ⟨r, s', hr, h⟩ := h
    obtain ⟨G', a, _, c1⟩ := runs_sw hr .nil G w
    exact ⟨r, wg s' G', c1, ih r Q E p s' G' a h⟩
  | handled own k ih => intro Q E p s G w h; exact ih _ Q E p s G w h
  | genState g k ih =>
    intro Q E p s G w h
    obtain ⟨st, hs, h⟩ := h
    cases z : I g with
    | none => exact ⟨st, (by show G[g]? = _; rw [← w.eq g z]; exact hs), ih _ Q E p s G w h⟩
    | some y =>
      obtain ⟨_, h2, h3⟩ := w.at_ g y z
      rw [h2] at hs
      cases hs
      rw [dead_seen] at h
      exact ⟨y, h3, ih _ Q E p s G w h⟩
  | newGen c k ih =>
    intro Q E p s G w h
    have := ih _ Q E p _ (G.push (.fresh c)) (w.push (x := .fresh c) True.intro) h
    show wp M Γ (k G.size) _ _ p _
    rw [← w.size]
    exact this
  | resume g r _ k ih =>
    intro Q E p s G w h
    obtain ⟨res, s', hw, h⟩ := h
    obtain ⟨G', a, c1⟩ := wakes_sw hw w
    exact ⟨res, wg s' G', c1, ih res Q E p s' G' a h⟩
  | yield _ _ _ _ => intro Q E p s G _ h; exact h
  | stack k ih => intro Q E p s G w h; exact ih _ Q E p s G w h
  | fork _ _ => intro Q E p s G _ h; exact h
  | thread k ih => intro Q E p s G w h; exact ih _ Q E p s G w h
  | await _ _ _ _ _ => intro Q E p s G _ h; exact h
/-- the states of G that sleep -/
def sleepers (G : Array GenState) : Nat → Option GenState := fun i => match G[i]? with
  | some (.suspended k l c p fs cl) => some (.suspended k l c p fs cl)
  | _ => none
theorem sleepers_at {G : Array GenState} {i : Nat} {x : GenState} (h : sleepers G i = some x) : Susp x ∧ G[i]? = some x := by
  unfold sleepers at h
  split at h
  · cases h
    exact ⟨True.intro, by assumption⟩
  · cases h
theorem sleepers_of {G : Array GenState} {i : Nat} {x : GenState} (h : G[i]? = some x) (hx : Susp x) : sleepers G i = some x := by
  unfold sleepers
  rw [h]
  cases x <;> first | rfl | exact hx.elim
theorem dead_id {x : GenState} (h : ¬ Susp x) : dead x = x := by cases x <;> first | rfl | exact absurd True.intro h
theorem dead_ng (x : GenState) : StNG (dead x) := by cases x <;> first | exact NoGen.strip _ | exact True.intro
theorem sw_dead (G : Array GenState) : Sw (sleepers G) (G.map dead) G where
  size := Array.size_map ..
  at_ := fun i x h => by
    obtain ⟨a, b⟩ := sleepers_at h
    exact ⟨a, by rw [Array.getElem?_map, b]; rfl, b⟩
  eq := fun i h => by
    rw [Array.getElem?_map]
    cases z : G[i]? with
    | none => rfl
    | some x =>
      have : ¬ Susp x := fun q => by rw [sleepers_of z q] at h; cases h
      show some (dead x) = some x
      rw [dead_id this]
  ng := fun i x h => by
    rw [Array.getElem?_map] at h
    cases z : G[i]? with
    | none => rw [z] at h; cases h
    | some y =>
      rw [z] at h
      cases h
      exact dead_ng y
/-- THE RULE: shown where no sleeper can be woken, it holds where they sleep, and they sleep on -/
theorem wpAny_sleep {α : Type} {A : Around} {s : Shared} {t : Sem α} {Q : α → Shared → Prop} {E : Value → Shared → Prop} (h : wpAny M A t Q E (wg s (s.gens.map dead))) :
    wpAny M A t (fun a s' => ∃ B, Sw (sleepers s.gens) B s'.gens ∧ Q a (wg s' B)) (fun e s' => ∃ B, Sw (sleepers s.gens) B s'.gens ∧ E e (wg s' B)) s :=
  fun Γ p hΓ => wp_sw (I := sleepers s.gens) t _ _ p (wg s (s.gens.map dead)) s.gens (sw_dead s.gens) (h Γ p hΓ)
theorem wpAny_sw {α : Type} {A : Around} {s : Shared} {B0 : Array GenState} {t : Sem α} {Q : α → Shared → Prop} {E : Value → Shared → Prop} (w : Sw I B0 s.gens) (h : wpAny M A t Q E (wg s B0)) :
    wpAny M A t (fun a s' => ∃ B, Sw I B s'.gens ∧ Q a (wg s' B)) (fun e s' => ∃ B, Sw I B s'.gens ∧ E e (wg s' B)) s :=
  fun Γ p hΓ => wp_sw (I := I) t _ _ p (wg s B0) s.gens w (h Γ p hΓ)
theorem Sw.stays {G B G' : Array GenState} {g : Nat} {x : GenState} (h : Sw (sleepers G) B G') (e : G[g]? = some x) (hx : Susp x) : G'[g]? = some x := (h.at_ g x (sleepers_of e hx)).2.2
end
end VG

set_option Elab.async false
set_option linter.all false
set_option maxRecDepth 100000
set_option maxHeartbeats 4000000
/-! a generator's frame, left and entered again while its consumer does what it likes -/
namespace VG
open PySem PySem.Spec PyProof.Rows L2 GenW
def trunc (h : Heap) (n : Nat) : Heap := ⟨h.objs.extract 0 n, h.life⟩
theorem trunc_get {h : Heap} {n a : Nat} : (trunc h n).get? a = if a < n then h.get? a else none := by
  unfold trunc Heap.get?
  dsimp only
  rw [Array.getElem?_extract]
  by_cases c : a < n
  · rw [if_pos c]
    by_cases d : a < h.objs.size
    · rw [if_pos (by omega), Nat.zero_add]
    · rw [if_neg (by omega), Array.getElem?_eq_none (by omega)]
  · rw [if_neg c, if_neg (by omega)]
theorem trunc_some {h : Heap} {n a : Nat} {o : Obj} (e : (trunc h n).get? a = some o) : a < n ∧ h.get? a = some o := by
  rw [trunc_get] at e
  split at e
  · exact ⟨by assumption, e⟩
  · cases e
theorem trunc_of {h : Heap} {n a : Nat} {o : Obj} (c : a < n) (e : h.get? a = some o) : (trunc h n).get? a = some o := by rw [trunc_get, if_pos c, e]
theorem trunc_size {h : Heap} {n : Nat} (c : n ≤ h.objs.size) : (trunc h n).objs.size = n := by
  show (h.objs.extract 0 n).size = n
  rw [Array.size_extract]
  omega
theorem obj_get {P : Program} {w : World} {H : Hp} {h : Heap} {a : Addr} {u : HO} (x : ObjOk P w H h a u) : ∃ o, h.get? a = some o := by
  cases u with
  | lst xs => obtain ⟨_, _, _, _, e⟩ := x; exact ⟨_, e⟩
  | tup xs => obtain ⟨_, _, _, o, e, _⟩ := x; exact ⟨_, e⟩
  | dK kvs => obtain ⟨_, _, _, _, o, _, _, e, _⟩ := x; exact ⟨_, e⟩
  | dT kvs => obtain ⟨_, _, _, _, o, _, _, e, _⟩ := x; exact ⟨_, e⟩
  | set S n => obtain ⟨o, _, _, _, e, _⟩ := x; exact ⟨_, e⟩
  | ins C dx fs => obtain ⟨_, _, _, e, _⟩ := x; exact ⟨_, e⟩
  | own y => obtain ⟨_, e⟩ := x; exact ⟨_, e⟩
  | xd fs => obtain ⟨_, ⟨_, _, _, e, _⟩, _⟩ := x; exact ⟨_, e⟩
  | rng lo hi => obtain ⟨_, _, _, e⟩ := x; exact ⟨_, e⟩
  | frz ob u => obtain ⟨e, _⟩ := x; exact ⟨_, e⟩
  | tbl ps => exact ⟨_, (show h.get? a = some _ from x)⟩
  | met f y => exact ⟨_, (show h.get? a = some _ from x)⟩
  | ext φ => obtain ⟨_, ⟨_, e⟩, _⟩ := x; exact ⟨_, e⟩
abbrev fz (o : Obj) : HO := .frz o (.ext fun _ => True)
theorem fz_ok {P : Program} {w : World} {H : Hp} {h : Heap} {b : Addr} {o : Obj} (e : h.get? b = some o) : ObjOk P w H h b (fz o) := ⟨e, True.intro, ⟨o, e⟩, fun _ _ _ _ => True.intro⟩
abbrev re (X : Cx) (s0 : Shared) (H0 : Hp) : Cx := { X with s_0 := s0, H_0 := H0 }
/-- the frame's own objects -/
def own (X : Cx) : List Addr := X.env.locals :: X.env.cells.filterMap fun p => X.env.cells.lookup p.1
theorem own_cell {X : Cx} {x : Str} {c : Addr} (h : X.env.cells.lookup x = some c) : c ∈ own X :=
  List.mem_cons_of_mem _ (List.mem_filterMap.mpr ⟨(x, c), PySem.mem_of_lookup h, h⟩)
theorem own_of {X : Cx} {b : Addr} (h : b ∈ own X) : b = X.env.locals ∨ ∃ x, X.env.cells.lookup x = some b := by
  rcases List.mem_cons.mp h with h | h
  · exact .inl h
  · obtain ⟨p, _, e⟩ := List.mem_filterMap.mp h
    exact .inr ⟨p.1, e⟩
/-- what is fixed of it -/
structure GSt (X : Cx) (n0 : Nat) : Prop where
  kind : X.env.scope.kind = .function
  glob : X.env.globals = mainGlobals
  blt : X.env.builtins = builtinsNs
  inj : ∀ x y c, X.env.cells.lookup x = some c → X.env.cells.lookup y = some c → x = y
  has : ∀ x, (X.env.kindOf x = some .cell ∨ X.env.kindOf x = some .free) → ∃ c, X.env.cells.lookup x = some c
  above : n0 ≤ X.env.locals
  cab : ∀ x c, X.env.cells.lookup x = some c → n0 ≤ c
  st : X.stack = X.env :: X.outer
  frame : X.env.frame = some X.env.locals
  ex : X.ex = []
  pn : X.pn = []
  frl : ∀ b ∈ frs X.outer, b < n0
  bsz : X.base.objs.size ≤ n0
  hd : X.A.handled = none
  frames : X.A.frames = some X.stack
theorem GSt.own_ge {X : Cx} {n0 : Nat} (S : GSt X n0) {b : Addr} (h : b ∈ own X) : n0 ≤ b := by
  rcases own_of h with rfl | ⟨x, e⟩
  · exact S.above
  · exact S.cab x b e
/-- its names as they stand -/
structure Own (X : Cx) (σ : L2.St) (h : Heap) : Prop where
  loc : ∃ m, h.Ns X.env.locals m ∧ ∀ (i : Nat) (x : Str) (v : V), X.N[i]? = some x → σ[i]? = some (some v) → Vis X.env.scope x → ∃ u, RelV v u ∧ Look X.env h m x u
  cell : ∀ x c, X.env.cells.lookup x = some c → ∃ v, h.IsCell c v
  len : σ.length = X.N.length
theorem Own.keep {X : Cx} {σ : L2.St} {h h' : Heap} (O : Own X σ h) (k : ∀ b ∈ own X, ∀ o, h.get? b = some o → h'.get? b = some o) : Own X σ h' where
  loc := by
    obtain ⟨m, ⟨o, es, ep, e, r⟩, f⟩ := O.loc
    refine ⟨m, ⟨o, es, ep, k _ List.mem_cons_self o e, r⟩, fun i x v h1 h2 h3 => ?_⟩
    obtain ⟨u, ru, lk⟩ := f i x v h1 h2 h3
    refine ⟨u, ru, ?_⟩
    rcases lk with lk | ⟨a, c, e1, oc, e2, d⟩
    · exact .inl lk
    · exact .inr ⟨a, c, e1, oc, k c (own_cell e1) oc e2, d⟩
  cell := fun x c e => by
    obtain ⟨v, o, e2, d⟩ := O.cell x c e
    exact ⟨v, o, k c (own_cell e) o e2, d⟩
  len := O.len
open Classical in
/-- what the frame tracks: what is tracked around, and all else of age, known -/
noncomputable def ent (L : List Addr) (n0 : Nat) (H : Hp) (h : Heap) : Hp := fun b => if b ∈ L then none else match H b with
  | some o => some o
  | none => if n0 ≤ b then (h.get? b).map fz else none
theorem ent_own {L : List Addr} {n0 : Nat} {H : Hp} {h : Heap} {b : Addr} (e : b ∈ L) : ent L n0 H h b = none := by unfold ent; rw [if_pos e]
theorem ent_some {L : List Addr} {n0 : Nat} {H : Hp} {h : Heap} {b : Addr} {o : HO} (n : b ∉ L) (e : H b = some o) : ent L n0 H h b = some o := by unfold ent; rw [if_neg n, e]
theorem ent_old {L : List Addr} {n0 : Nat} {H : Hp} {h : Heap} {b : Addr} (e : H b = none) (c : b < n0) : ent L n0 H h b = none := by
  unfold ent
  split
  · rfl
  · rw [e]
    dsimp only
    rw [if_neg (Nat.not_le.mpr c)]
theorem ent_aux {L : List Addr} {n0 : Nat} {H : Hp} {h : Heap} {b : Addr} {o : Obj} (n : b ∉ L) (e : H b = none) (c : n0 ≤ b) (g : h.get? b = some o) : ent L n0 H h b = some (fz o) := by
  unfold ent
  rw [if_neg n, e]
  dsimp only
  rw [if_pos c, g]
  rfl
theorem ent_cases {L : List Addr} {n0 : Nat} {H : Hp} {h : Heap} {b : Addr} {u : HO} (e : ent L n0 H h b = some u) : b ∉ L ∧ (H b = some u ∨ (H b = none ∧ n0 ≤ b ∧ ∃ o, h.get? b = some o ∧ u = fz o)) := by
  unfold ent at e
  split at e
  · cases e
  · rename_i n
    refine ⟨n, ?_⟩
    cases z : H b with
    | some o => rw [z] at e; exact .inl e
    | none =>
      rw [z] at e
      dsimp only at e
      split at e
      · rename_i c
        cases g : h.get? b with
        | none => rw [g] at e; cases e
        | some o => rw [g] at e; cases e; exact .inr ⟨rfl, c, o, rfl, rfl⟩
      · cases e
theorem ent_hok {P : Program} {w : World} {L : List Addr} {n0 : Nat} {H : Hp} {h : Heap} (x : HOk P w H h) (hL : ∀ b ∈ L, H b = none) : HOk P w (ent L n0 H h) h := fun b u e => by
  obtain ⟨n, e | ⟨_, _, o, g, rfl⟩⟩ := ent_cases e
  · exact (x b u e).stay (fun _ _ _ q => q) (fun c q => ent_some (fun z => by rw [hL c z] at q; cases q) q) fun c xs q => ent_some (fun z => by rw [hL c z] at q; cases q) q
  · exact fz_ok g
theorem frames_trunc {h base : Heap} {n0 : Nat} : ∀ {l : List Env}, h.FunFrames base l → (∀ b ∈ frs l, b < n0) → (trunc h n0).FunFrames base l
  | [], _, _ => True.intro
  | e :: l, ⟨hk, ⟨L, o, hf, hn, ho, hd⟩, hr⟩, f => by
    have hL : L ∈ frs (e :: l) := List.mem_filterMap.mpr ⟨e, List.mem_cons_self, hf⟩
    refine ⟨hk, ⟨L, o, hf, hn, trunc_of (f L hL) ho, hd⟩, frames_trunc hr fun b hb => f b ?_⟩
    obtain ⟨e', he, q⟩ := List.mem_filterMap.mp hb
    exact List.mem_filterMap.mpr ⟨e', List.mem_cons_of_mem _ he, q⟩
section
variable {X : Cx} {n0 : Nat} {σ : L2.St} {H : Hp} {s : Shared} {Aw : Around}
/-- entered -/
theorem enter (S : GSt X n0) (e0 : Env0 X.prog X.w X.K X.mg X.base Aw X.outer s H) (hn : n0 ≤ s.heap.objs.size) (O : Own X σ s.heap) (hL : ∀ b ∈ own X, H b = none) :
    Inv (re X { s with heap := trunc s.heap n0 } (ent (own X) n0 H s.heap)) [] σ (ent (own X) n0 H s.heap) s := by
  have lt : ∀ b o, X.base.get? b = some o → b < n0 := fun b o e => Nat.lt_of_lt_of_le (Heap.lt_size e) S.bsz
  refine ⟨⟨e0.mod, S.kind, S.glob, S.blt, ?_, S.inj, S.has, fun x c _ e => ?_, fun _ => S.hd, S.frames, .inr ⟨S.st, S.frame⟩, fun b hb => ?_, fun b o e => ⟨trunc_of (lt b o e) (e0.bs b o e).1, ent_old (e0.bs b o e).2 (lt b o e)⟩, ?_, fun b o _ hb => ?_, fun b hb => ?_, ?_, fun b hb => ent_old (e0.frf b hb) (S.frl b hb)⟩,
    rfl, e0.bare, ⟨fun b o e _ _ _ => (trunc_some e).2, fun b o e _ _ _ => ⟨o.slots, (trunc_some e).2⟩, fun b o _ n _ => n, fun b o e _ => ⟨o, (trunc_some e).2⟩, fun _ _ q => q, fun _ _ _ q => q, fun _ _ q => ⟨#[], by simpa using q⟩⟩,
    O.loc, O.cell, ent_own List.mem_cons_self, fun x c e => ent_own (own_cell e), fun p hp => ?_, ent_hok e0.hok hL, O.len⟩
  · show (trunc s.heap n0).objs.size ≤ _
    rw [trunc_size hn]
    exact S.above
  · show (trunc s.heap n0).objs.size ≤ _
    rw [trunc_size hn]
    exact S.cab x c e
  · rw [show (re X _ _).ex = X.ex from rfl, S.ex] at hb
    cases hb
  · show _ ≤ (trunc s.heap n0).objs.size
    rw [trunc_size hn]
    exact S.bsz
  · rw [show (re X _ _).ex = X.ex from rfl, S.ex] at hb
    cases hb
  · rw [show (re X _ _).ex = X.ex from rfl, S.ex] at hb
    cases hb
  · show (trunc s.heap n0).FunFrames X.base X.outer
    exact frames_trunc e0.funs S.frl
  · rw [show (re X _ _).pn = X.pn from rfl, S.pn] at hp
    cases hp
open Classical in
/-- what the consumer is told: without what was only known -/
noncomputable def lv (L : List Addr) (n0 : Nat) (H : Hp) (h : Heap) (H1 : Hp) : Hp := fun b => if b ∉ L ∧ H b = none ∧ n0 ≤ b ∧ (h.get? b).isSome = true then none else H1 b
theorem lv_some {L : List Addr} {H H1 : Hp} {h : Heap} {b : Addr} {u : HO} (e : lv L n0 H h H1 b = some u) : H1 b = some u ∧ ¬ (b ∉ L ∧ H b = none ∧ n0 ≤ b ∧ (h.get? b).isSome = true) := by
  unfold lv at e
  split at e
  · cases e
  · exact ⟨e, by assumption⟩
theorem lv_of {L : List Addr} {H H1 : Hp} {h : Heap} {b : Addr} (n : ¬ (b ∉ L ∧ H b = none ∧ n0 ≤ b ∧ (h.get? b).isSome = true)) : lv L n0 H h H1 b = H1 b := by unfold lv; rw [if_neg n]
theorem lv_aux {L : List Addr} {H H1 : Hp} {h : Heap} {b : Addr} (n : b ∉ L ∧ H b = none ∧ n0 ≤ b ∧ (h.get? b).isSome = true) : lv L n0 H h H1 b = none := by unfold lv; rw [if_pos n]
/-- left -/
structure Left (X : Cx) (n0 : Nat) (H Ho : Hp) (s s1 : Shared) : Prop where
  os : s1.os = s.os
  bare : AllBare s1.gens
  un : Un (frs X.outer) (own X) H Ho s.heap s1.heap
  hok : HOk X.prog X.w Ho s1.heap
  own_ : ∀ b ∈ own X, Ho b = none
  nolim : s1.heap.NoLimit
theorem leave (S : GSt X n0) (hL : ∀ b ∈ own X, H b = none) {H1 : Hp} {s1 : Shared} {σ' : L2.St} (hn : n0 ≤ s.heap.objs.size) (I : Inv (re X { s with heap := trunc s.heap n0 } (ent (own X) n0 H s.heap)) [] σ' H1 s1) (tr : ∀ b u, H b = some u → b ∉ own X → H1 b ≠ none) :
    Left X n0 H (lv (own X) n0 H s.heap H1) s s1 ∧ Own X σ' s1.heap := by
  have base := I.base
  have aux : ∀ {b o}, b ∉ own X → H b = none → n0 ≤ b → s.heap.get? b = some o → s1.heap.get? b = some o := fun {b o} n e c g => by
    have q := base.frzs b o _ (ent_aux n e c g)
    exact (I.hok b _ q).1
  have hlv : ∀ {b u}, H1 b = some u → (∀ o, u ≠ fz o) → lv (own X) n0 H s.heap H1 b = some u := fun {b u} q d => by
    rw [lv_of, q]
    rintro ⟨n, e, c, g⟩
    obtain ⟨o, g⟩ := Option.isSome_iff_exists.mp g
    have := base.frzs b o _ (ent_aux n e c g)
    rw [q] at this
    exact d o (Option.some.inj this)
  have hlv2 : ∀ {b u}, H b = some u → H1 b = some u → lv (own X) n0 H s.heap H1 b = some u := fun {b u} e q => by
    rw [lv_of, q]
    rintro ⟨_, e', _⟩
    rw [e] at e'
    cases e'
  have fsn : ∀ b ∈ frs X.outer, b ∉ own X := fun b hb ho => by
    have h1 := S.frl b hb
    have h2 := S.own_ge ho
    exact absurd h1 (Nat.not_lt.mpr h2)
  refine ⟨⟨I.os, I.bare, ⟨fun b o g e hf n => ?_, fun b o g e hf n => ?_, fun b o g e n => ?_, fun b o g n => ?_, fun b xs e => ?_, fun b o u e => ?_, fun b ps e => ?_⟩, fun b u e => ?_, fun b hb => ?_, I.nolimit⟩, I.loc, I.cell, I.len⟩
  · by_cases c : b < n0
    · exact base.keep b o (trunc_of c g) (ent_old e c) hf (by rw [show (re X _ _).ex = X.ex from rfl, S.ex]; exact fun z => nomatch z)
    · exact aux n e (Nat.le_of_not_lt c) g
  · exact base.slot b o (trunc_of (S.frl b hf) g) (ent_old e (S.frl b hf)) hf (by rw [show (re X _ _).ex = X.ex from rfl, S.ex]; exact fun z => nomatch z)
  · by_cases c : b < n0
    · have q := base.free b o (trunc_of c g) (ent_old e c) (by rw [show (re X _ _).ex = X.ex from rfl, S.ex]; exact fun z => nomatch z)
      cases z : lv (own X) n0 H s.heap H1 b with
      | none => rfl
      | some u => rw [(lv_some z).1] at q; cases q
    · exact lv_aux ⟨n, e, Nat.le_of_not_lt c, by rw [g]; rfl⟩
  · by_cases c : b < n0
    · exact base.there b o (trunc_of c g) (by rw [show (re X _ _).ex = X.ex from rfl, S.ex]; exact fun z => nomatch z)
    · cases e : H b with
      | none => exact ⟨o, aux n e (Nat.le_of_not_lt c) g⟩
      | some u =>
        obtain ⟨u1, e1⟩ := Option.ne_none_iff_exists'.mp (tr b u e n)
        exact obj_get (I.hok b u1 e1)
  · by_cases n : b ∈ own X
    · rw [hL b n] at e
      cases e
    · exact hlv2 e (base.tups b xs (ent_some n e))
  · by_cases n : b ∈ own X
    · rw [hL b n] at e
      cases e
    · exact hlv2 e (base.frzs b o u (ent_some n e))
  · by_cases n : b ∈ own X
    · rw [hL b n] at e
      cases e
    · obtain ⟨more, q⟩ := base.tbls b ps (ent_some n e)
      exact ⟨more, hlv q fun o z => by cases z⟩
  · obtain ⟨q, n⟩ := lv_some e
    refine (I.hok b u q).stay (fun _ _ _ z => z) (fun c z => hlv z fun o y => by cases y) fun c xs z => hlv z fun o y => by cases y
  · have q : H1 b = none := by
      rcases own_of hb with rfl | ⟨x, e⟩
      · exact I.free
      · exact I.freeC x b e
    cases z : lv (own X) n0 H s.heap H1 b with
    | none => rfl
    | some u => rw [(lv_some z).1] at q; cases q
end
end VG

set_option Elab.async false
set_option linter.all false
set_option maxRecDepth 100000
set_option maxHeartbeats 4000000
/-! a generator: statements, then a while that hands out one item a turn; its consumer does what it likes -/
namespace VG
open PySem PySem.Spec PyProof.Rows L2 GenW VL
/-- the consumer's heap Ho, told from the frame's H2; H: where the turn began -/
structure Told (H H2 Ho : Hp) : Prop where
  new : ∀ b u, H2 b = some u → (∀ o, u ≠ fz o) → Ho b = some u
  old : ∀ b u, H b = some u → H2 b = some u → Ho b = some u
  sub : ∀ b u, Ho b = some u → H2 b = some u
section
variable {X : Cx} {n0 N : Nat} {Aw : Around} {Gh : Nat → Shared → Hp × L2.St} {Z : Nat → L2.St → Hp → Prop} {Yl : Nat → L2.St → Hp → V → L2.St → Hp → Prop} {En : Nat → L2.St → Hp → Hp → Prop}
/-- it may be woken at s' -/
structure Wakes (X : Cx) (n0 : Nat) (Aw : Around) (Zi : Hp → Prop) (H : Hp) (s' : Shared) : Prop where
  e0 : Env0 X.prog X.w X.K X.mg X.base Aw X.outer s' H
  sz : n0 ≤ s'.heap.objs.size
  own_ : ∀ b ∈ own X, H b = none
  z : Zi H
def YW (X : Cx) (n0 N : Nat) (Aw : Around) (Gh : Nat → Shared → Hp × L2.St) (Z : Nat → L2.St → Hp → Prop) (Yl : Nat → L2.St → Hp → V → L2.St → Hp → Prop) : Protocol := fun n s₀ v s₁ kap => ∃ i x Ho σ', i + n + 1 = N ∧ Left X n0 (Gh (n + 1) s₀).1 Ho s₀ s₁ ∧ n0 ≤ s₁.heap.objs.size ∧ RelV x v ∧ Yl i (Gh (n + 1) s₀).2 (Gh (n + 1) s₀).1 x σ' Ho ∧
  Own X σ' s₁.heap ∧ Z (i + 1) σ' Ho ∧ ∀ s', Wakes X n0 Aw (Z (i + 1) (Gh n s').2) (Gh n s').1 s' → Own X (Gh n s').2 s'.heap → kap (.send .none) s'
def FW (X : Cx) (n0 N : Nat) (Gh : Nat → Shared → Hp × L2.St) (En : Nat → L2.St → Hp → Hp → Prop) (n : Nat) (s₀ s₁ : Shared) : Prop := ∃ i Ho, i + n = N ∧ Left X n0 (Gh n s₀).1 Ho s₀ s₁ ∧ En i (Gh n s₀).2 (Gh n s₀).1 Ho
def RW (X : Cx) (n0 N : Nat) (Gh : Nat → Shared → Hp × L2.St) (En : Nat → L2.St → Hp → Hp → Prop) : GenEnd := fun n s₀ r s₁ => ((r = .ok (.ret .none) ∨ r = .ok .next) ∧ FW X n0 N Gh En n s₀ s₁) ∨ ∃ e, r = .error e ∧ False
/-- what is shown of the body -/
structure Body (X : Cx) (N : Nat) (Z : Nat → L2.St → Hp → Prop) (Yl : Nat → L2.St → Hp → V → L2.St → Hp → Prop) (En : Nat → L2.St → Hp → Hp → Prop) (pre st1 st2 : Stmt) (test e : Expr) (tpre t1 t2 : TS) (tc : TT) (te : TE) (Head : Nat → L2.St → Hp → L2.St → Hp → Prop) : Prop where
  pre : ∀ s0 H0, PS (re X s0 H0) pre tpre
  test : ∀ s0 H0, PT (re X s0 H0) test tc
  st1 : ∀ s0 H0, PS (re X s0 H0) st1 t1
  e : ∀ s0 H0, PE (re X s0 H0) e te
  st2 : ∀ s0 H0, PS (re X s0 H0) st2 t2
  start : ∀ σ H Hg, Z 0 σ H → Same H Hg → tpre { nx := Head 0 σ H, rt := fun _ _ => False } σ Hg
  resume : ∀ i σ H Hg, Z (i + 1) σ H → Same H Hg → t2 { nx := Head (i + 1) σ H, rt := fun _ _ => False } σ Hg
  head : ∀ i σp H σ Hg, Head i σp H σ Hg → tc σ Hg fun b H1 => if b = true then
        i < N ∧ t1 { nx := fun σ' H' => te σ' H' fun x H2 => (∀ b u, H b = some u → H2 b ≠ none) ∧ ∀ Ho, Told H H2 Ho → Yl i σp H x σ' Ho ∧ Z (i + 1) σ' Ho, rt := fun _ _ => False } σ H1
      else (∀ b u, H b = some u → H1 b ≠ none) ∧ ∀ Ho, Told H H1 Ho → En i σp H Ho
end
section
variable {X : Cx} {n0 N : Nat} {Aw : Around} {Gh : Nat → Shared → Hp × L2.St} {Z : Nat → L2.St → Hp → Prop} {Yl : Nat → L2.St → Hp → V → L2.St → Hp → Prop} {En : Nat → L2.St → Hp → Hp → Prop} {pre st1 st2 : Stmt} {test e : Expr} {wp yp xp : Pos} {tpre t1 t2 : TS} {tc : TT} {te : TE} {Head : Nat → L2.St → Hp → L2.St → Hp → Prop}
theorem same_ent {L : List Addr} {H : Hp} {h : Heap} (hL : ∀ b ∈ L, H b = none) : Same H (ent L n0 H h) := fun b o e => ent_some (fun z => by rw [hL b z] at e; cases e) e
theorem told_lv {L : List Addr} {H H1 : Hp} {h : Heap} (aux : ∀ b o, b ∉ L → H b = none → n0 ≤ b → h.get? b = some o → H1 b = some (fz o)) : Told H H1 (lv L n0 H h H1) where
  new := fun b u q d => by
    rw [lv_of, q]
    rintro ⟨n, e, c, g⟩
    obtain ⟨o, g⟩ := Option.isSome_iff_exists.mp g
    have := aux b o n e c g
    rw [q] at this
    exact d o (Option.some.inj this)
  old := fun b u e q => by
    rw [lv_of, q]
    rintro ⟨_, e', _⟩
    rw [e] at e'
    cases e'
  sub := fun b u e => (lv_some e).1
theorem Inv.szle {pins : List (Addr × Obj)} {s0 : Shared} {H0 : Hp} {σ : L2.St} {H : Hp} {s1 : Shared} (S : GSt X n0) (I : Inv (re X s0 H0) pins σ H s1) : n0 ≤ s1.heap.objs.size := by
  have h1 : (re X s0 H0).env.locals < s1.heap.objs.size := I.lt
  have h2 := S.above
  exact Nat.le_of_lt (Nat.lt_of_le_of_lt h2 h1)
theorem seg_turns (S : GSt X n0) (hxe : X.xe = fun _ _ => False) (hco : X.env.scope.isCoroutine = false) (hi : interactive X.env = false) (B : Body X N Z Yl En pre st1 st2 test e tpre t1 t2 tc te Head)
    {kk : Result → Sem PySem.Fin} {cf : Code} {p : Pos} (hkk : kk (.ok .next) = .pure (.done (.ret .none))) (hover : Aw.over cf [] = X.A) :
    ∀ (n i : Nat) (s₀ s : Shared) (σ : L2.St) (Hg : Hp), i + n = N → n0 ≤ s₀.heap.objs.size → (∀ b ∈ own X, (Gh n s₀).1 b = none) →
      L2.Inv (re X { s₀ with heap := trunc s₀.heap n0 } (ent (own X) n0 (Gh n s₀).1 s₀.heap)) [] σ Hg s → Head i (Gh n s₀).2 (Gh n s₀).1 σ Hg →
      Seg (model X.prog X.w) Aw (RW X n0 N Gh En) (YW X n0 N Aw Gh Z Yl) n s₀ (.whileLoop test [st1, .Expr (.Yield (some e) yp) xp, st2] [] X.env) ((model X.prog X.w).den (.whileLoop test [st1, .Expr (.Yield (some e) yp) xp, st2] [] X.env)) [.ret kk none false [] cf p []] s := by
  have nox : ∀ {s0 H0 u s'}, (re X s0 H0).xe u s' → False := fun {s0 H0 u s'} h => by
    have : X.xe u s' := h
    rw [hxe] at this
    exact this
  have ov : Aw.over (.whileLoop test [st1, .Expr (.Yield (some e) yp) xp, st2] [] X.env) [.ret kk none false [] cf p []] = X.A := (over_loop rfl rfl).trans hover
  intro n
  induction n with
  | zero =>
    intro i s₀ s σ Hg hin hsz hown I hd
    have aux : ∀ {σ' H' s'}, L2.Inv (re X { s₀ with heap := trunc s₀.heap n0 } (ent (own X) n0 (Gh 0 s₀).1 s₀.heap)) [] σ' H' s' → ∀ b o, b ∉ own X → (Gh 0 s₀).1 b = none → n0 ≤ b → s₀.heap.get? b = some o → H' b = some (fz o) := fun I b o n e c g => I.base.frzs b o _ (ent_aux n e c g)
    refine seg_whileLoop ?_
    rw [ov]
    refine wpAny_mono ((B.test { s₀ with heap := trunc s₀.heap n0 } (ent (own X) n0 (Gh 0 s₀).1 s₀.heap)).run [] s σ Hg _ I (B.head i _ _ σ Hg hd)) (fun b s' hb => ?_) fun x s' hx => (nox hx).elim
    obtain ⟨H2, I2, q2⟩ := hb
    cases b with
    | true =>
      obtain ⟨lt, _⟩ := q2
      omega
    | false =>
      rw [if_neg Bool.false_ne_true]
      refine seg_execs_nil ?_
      obtain ⟨tr, fin⟩ := q2
      refine seg_leaf (.ok .next) ?_
      rw [hkk]
      exact seg_end (.ok (.ret .none)) (.inl ⟨.inl rfl, i, _, hin, (leave S hown hsz I2 fun b u q _ => tr b u q).1, fin _ (told_lv (aux I2))⟩)
  | succ m ih =>
    intro i s₀ s σ Hg hin hsz hown I hd
    have aux : ∀ {σ' H' s'}, L2.Inv (re X { s₀ with heap := trunc s₀.heap n0 } (ent (own X) n0 (Gh (m + 1) s₀).1 s₀.heap)) [] σ' H' s' → ∀ b o, b ∉ own X → (Gh (m + 1) s₀).1 b = none → n0 ≤ b → s₀.heap.get? b = some o → H' b = some (fz o) := fun I b o n e c g => I.base.frzs b o _ (ent_aux n e c g)
    refine seg_whileLoop ?_
    rw [ov]
    refine wpAny_mono ((B.test { s₀ with heap := trunc s₀.heap n0 } (ent (own X) n0 (Gh (m + 1) s₀).1 s₀.heap)).run [] s σ Hg _ I (B.head i _ _ σ Hg hd)) (fun b s' hb => ?_) fun x s' hx => (nox hx).elim
    obtain ⟨H2, I2, q2⟩ := hb
    cases b with
    | false =>
      rw [if_neg Bool.false_ne_true]
      refine seg_execs_nil ?_
      obtain ⟨tr, fin⟩ := q2
      refine seg_leaf (.ok .next) ?_
      rw [hkk]
      exact seg_end (.ok (.ret .none)) (.inl ⟨.inl rfl, i, _, hin, (leave S hown hsz I2 fun b u q _ => tr b u q).1, fin _ (told_lv (aux I2))⟩)
    | true =>
      obtain ⟨lt, q2⟩ := q2
      rw [if_pos rfl]
      refine seg_execs_cons ?_
      refine seg_wrap ?_
      rw [ov]
      refine wpAny_mono ((B.st1 { s₀ with heap := trunc s₀.heap n0 } (ent (own X) n0 (Gh (m + 1) s₀).1 s₀.heap)).run [] s' σ H2 _ I2 q2) (fun f s3 hs => ?_) fun x s' hx => (nox hx).elim
      cases f with
      | brk => obtain ⟨_, _, _, q⟩ := hs; exact q.elim
      | cont => obtain ⟨_, _, _, q⟩ := hs; exact q.elim
      | ret v => obtain ⟨_, _, _, _, _, q⟩ := hs; exact q.elim
      | next =>
        obtain ⟨σ3, H3, I3, q3⟩ := hs
        refine seg_execs_cons ?_
        refine seg_Expr_Yield rfl rfl rfl ?_ hco hi
        rw [ov]
        refine wpAny_mono ((B.e { s₀ with heap := trunc s₀.heap n0 } (ent (own X) n0 (Gh (m + 1) s₀).1 s₀.heap)).run [] s3 σ3 H3 _ I3 q3) (fun v s4 hv => ?_) fun x s' hx => (nox hx).elim
        obtain ⟨x, H4, I4, rv, tr, yl⟩ := hv
        intro kap hk
        obtain ⟨L4, O4⟩ := leave S hown hsz I4 fun b u q _ => tr b u q
        obtain ⟨y1, z1⟩ := yl _ (told_lv (aux I4))
        refine ⟨i, x, _, σ3, by omega, L4, Inv.szle S I4, rv, y1, O4, z1, fun s5 W5 O5 => hk .none s5 ?_⟩
        have I5 := enter S W5.e0 W5.sz O5 W5.own_
        refine seg_execs_cons ?_
        refine seg_wrap ?_
        rw [ov]
        refine wpAny_mono ((B.st2 { s5 with heap := trunc s5.heap n0 } (ent (own X) n0 (Gh m s5).1 s5.heap)).run [] s5 _ _ _ I5 (B.resume i _ _ _ W5.z (same_ent W5.own_))) (fun f s6 hs => ?_) fun x s' hx => (nox hx).elim
        cases f with
        | brk => obtain ⟨_, _, _, q⟩ := hs; exact q.elim
        | cont => obtain ⟨_, _, _, q⟩ := hs; exact q.elim
        | ret v => obtain ⟨_, _, _, _, _, q⟩ := hs; exact q.elim
        | next =>
          obtain ⟨σ6, H6, I6, q6⟩ := hs
          refine seg_execs_nil ?_
          exact seg_again rfl (ih (i + 1) s5 s6 σ6 H6 (by omega) W5.sz W5.own_ I6 q6)
theorem seg_walk (S : GSt X n0) (hxe : X.xe = fun _ _ => False) (hA : Aw.deeper X.env = X.A) (hco : X.env.scope.isCoroutine = false) (hi : interactive X.env = false) (B : Body X N Z Yl En pre st1 st2 test e tpre t1 t2 tc te Head) (s : Shared)
    (W : Wakes X n0 Aw (Z 0 (Gh N s).2) (Gh N s).1 s) (O : Own X (Gh N s).2 s.heap) :
    Seg (model X.prog X.w) Aw (RW X n0 N Gh En) (YW X n0 N Aw Gh Z Yl) N s (.func [pre, .While test [st1, .Expr (.Yield (some e) yp) xp, st2] [] wp] X.env) ((model X.prog X.w).den (.func [pre, .While test [st1, .Expr (.Yield (some e) yp) xp, st2] [] wp] X.env)) [] s := by
  have nox : ∀ {s0 H0 u s'}, (re X s0 H0).xe u s' → False := fun {s0 H0 u s'} h => by
    have : X.xe u s' := h
    rw [hxe] at this
    exact this
  refine seg_func ?_
  refine seg_execs_cons ?_
  refine seg_wrap ?_
  rw [over_func, hA]
  have I0 := enter S W.e0 W.sz O W.own_
  refine wpAny_mono ((B.pre { s with heap := trunc s.heap n0 } (ent (own X) n0 (Gh N s).1 s.heap)).run [] s _ _ _ I0 (B.start _ _ _ W.z (same_ent W.own_))) (fun f s1 hs => ?_) fun x s' hx => (nox hx).elim
  cases f with
  | brk => obtain ⟨_, _, _, q⟩ := hs; exact q.elim
  | cont => obtain ⟨_, _, _, q⟩ := hs; exact q.elim
  | ret v => obtain ⟨_, _, _, _, _, q⟩ := hs; exact q.elim
  | next =>
    obtain ⟨σ1, H1, I1, q1⟩ := hs
    refine seg_execs_cons ?_
    refine seg_While fun p => ?_
    exact seg_turns S hxe hco hi B rfl (over_func.trans hA) N 0 s s1 σ1 H1 (Nat.zero_add _) W.sz W.own_ I1 q1
end
end VG

set_option Elab.async false
set_option linter.all false
set_option maxRecDepth 100000
set_option maxHeartbeats 4000000
/-! a call of a generator def: a generator that has not begun -/
namespace VG
open PySem PySem.Spec PyProof.Rows L2 GenW VL
/-- the context of its frame, woken from Aw -/
abbrev gX (P : Program) (w : World) (K : PySem.W.Frag) (mg : Str → Option Value) (base : Heap) (N : List Str) (qual : Str) (scope : Scope) (f : Addr) (cdv : Value) (Aw : Around) (outer : List Env) (s : Shared) (H : Hp) : Cx :=
  (cxOf CX0 P w K mg base N qual scope f cdv Aw outer s H E0).nox
structure GNew (P : Program) (w : World) (K : PySem.W.Frag) (mg : Str → Option Value) (base : Heap) (N : List Str) (qual : Str) (scope : Scope) (body : List Stmt) (f : Addr) (cdv : Value) (outer : List Env) (s : Shared) (H : Hp) (vs : List V) (u : Value) (s' : Shared) (a g : Nat) : Prop where
  val : u = .ref a
  ge : s.heap.objs.size ≤ a
  gen : s'.heap.IsGen a g
  st : s'.gens[g]? = some (.fresh (.func body (envOfC qual scope s.heap.objs.size f cdv)))
  os : s'.os = s.os
  bare : AllBare s'.gens
  nolim : s'.heap.NoLimit
  keep : ∀ b o, s.heap.get? b = some o → s'.heap.get? b = some o
  sz : s.heap.objs.size ≤ s'.heap.objs.size
  fr : ∀ Aw : Around, Aw.handled = none → Aw.frames = some outer → GSt (gX P w K mg base N qual scope f cdv Aw outer s H) s.heap.objs.size ∧ Own (gX P w K mg base N qual scope f cdv Aw outer s H) (L2.start N vs) s'.heap ∧
    a ∉ own (gX P w K mg base N qual scope f cdv Aw outer s H)
theorem gen_call {P : Program} {w : World} {K : PySem.W.Frag} {mg : Str → Option Value} {base : Heap} {f : Addr} {name qual : Str} {params : Arguments} {body : List Stmt} {scope : Scope} {dV kV doc pm cdv ct oc : Value} {an od : Option Addr}
    {osl : Array (Option Value)} {N ps : List Str} (lk : K.lookup f = some ⟨oc, od, .func (PySem.W.fnOf name qual params body scope dV kV doc pm an cdv ct), osl⟩) (hcd : PySem.W.codeIn K cdv qual = true) (S : GScope N ps scope)
    {A : Around} {outer : List Env} {s : Shared} {H : Hp} {args : Args} {us : List Value} {vs : List V} (hdp : A.depth < recursionLimit) (e0 : Env0 P w K mg base A outer s H) (hb : BindsTo s (PySem.W.fnOf name qual params body scope dV kV doc pm an cdv ct) args (ps.zip us)) (r : Vals vs us) (hl : vs.length = ps.length) :
    codeAny (model P w) A (.call (.ref f) args) (fun r s' => match r with | .ok (.ret u) => ∃ a g, GNew P w K mg base N qual scope body f cdv outer s H vs u s' a g | _ => False) s := by
  have kin : K.In s.heap := e0.mod.kin.keeps fun b o z => (e0.bs b o z).1
  have nol : s.heap.NoLimit := e0.mod.nolimit.keeps fun b o z => (e0.bs b o z).1
  refine codeAny_call_generator hdp (kin _ _ lk) rfl S.co S.gen rfl (PySem.W.codeRec_of kin hcd) (hb _ _ _ _ ?_)
  refine wpAny_newFunctionEnv_cells S.kind (fun ⟨n, v⟩ hy => ?_) fun env he s1 x => ?_
  · exact (S.par n (List.of_mem_zip hy).1).imp id fun q => ⟨q, PySem.W.cellsFrom_some _ _ _ (.inl q)⟩
  subst he
  have nol1 : s1.heap.NoLimit := nol.keeps x.toInCall.keep
  refine ⟨nol1, ?_⟩
  obtain ⟨h1, tk, esq, hkq⟩ := x.done
  have oseq : s1.os = s.os := by rw [esq]
  have geq : s1.gens = s.gens := by rw [esq]
  have below : s.heap.objs.size < s1.heap.objs.size := x.toInCall.ns.lt
  have kpt : ∀ b o, s.heap.get? b = some o → s1.heap.get? b = some o := x.toInCall.keep
  have laid : ∀ (gob : Obj) (nm qn : Value) (tkn : Nat), gob.cls = .type "generator" → gob.data = .fields #[.int s1.gens.size 0, nm, qn] → gob.slots = #[] → (∀ h : Heap, (h.push gob).get? h.objs.size = some gob) →
      ∃ a g, GNew P w K mg base N qual scope body f cdv outer s H vs (.ref s1.heap.objs.size) { s1 with gens := s1.gens.push (.fresh (.func body (envOfC qual scope s.heap.objs.size f cdv))), toks := tkn, heap := s1.heap.push gob } a g := by
    intro gob nm qn tkn hgc hgd0 hgs hgp
    have kp2 : ∀ b o, s1.heap.get? b = some o → (s1.heap.push gob).get? b = some o := fun b o e => Heap.get?_push_of_some _ e
    refine ⟨s1.heap.objs.size, s1.gens.size, rfl, Nat.le_of_lt below, ⟨gob, nm, qn, hgp _, hgc, hgd0, hgs⟩, Array.getElem?_push_size .., oseq, ?_, nol1.keeps kp2, fun b o e => kp2 b o (kpt b o e), ?_, fun Aw hh hf => ?_⟩
    · exact AllBare.push (by rw [geq]; exact e0.bare) rfl
    · show _ ≤ (s1.heap.push gob).objs.size
      rw [Heap.size_push]
      exact Nat.le_succ_of_le (Nat.le_of_lt below)
    have e0w : Env0 P w K mg base Aw outer s H := ⟨hf, e0.mod, e0.bs, e0.bsz, e0.funs, e0.frf, e0.hok, e0.bare⟩
    have I1 : L2.Inv (gcxOf P w K mg base N qual scope f cdv Aw outer s H E0 []) [] (L2.start N vs) H s1 := inv_startG S hh e0w hl r x
    have O1 : Own (gX P w K mg base N qual scope f cdv Aw outer s H) (L2.start N vs) s1.heap := ⟨I1.loc, I1.cell, I1.len⟩
    refine ⟨⟨I1.ok.kind, rfl, rfl, I1.ok.inj, I1.ok.has, Nat.le_refl _, fun y c e => ?_, rfl, rfl, rfl, rfl, fun b hb => ?_, e0.bsz, hh, Around.frames_deeper hf⟩, O1.keep fun b _ o e => kp2 b o e, fun hm => ?_⟩
    · exact Nat.le_of_lt (x.above y c (PySem.mem_of_lookup e))
    · obtain ⟨_, o, e, _⟩ := e0.funs.mem hb
      exact Heap.lt_size e
    · rcases own_of hm with e | ⟨y, e⟩
      · exact absurd e (Nat.ne_of_gt below)
      · obtain ⟨v, o, e2, _⟩ := I1.cell y _ e
        exact absurd (Heap.lt_size e2) (Nat.lt_irrefl _)
  exact laid _ _ _ _ rfl rfl rfl fun h => Heap.get?_push_size _ rfl
end VG

set_option Elab.async false
set_option linter.all false
set_option maxRecDepth 100000
set_option maxHeartbeats 4000000
/-! the consumer: what sleeps is known, dropped, known again -/
namespace VG
open PySem PySem.Spec PyProof.Rows L2 GenW VL
open Classical in
noncomputable def drop (L : List Addr) (H : Hp) : Hp := fun b => if b ∈ L then none else H b
open Classical in
noncomputable def frzL (L : List Addr) (h : Heap) (H : Hp) : Hp := fun b => if b ∈ L then (h.get? b).map fz else H b
theorem drop_in {L : List Addr} {H : Hp} {b : Addr} (h : b ∈ L) : drop L H b = none := by unfold drop; rw [if_pos h]
theorem drop_out {L : List Addr} {H : Hp} {b : Addr} (h : b ∉ L) : drop L H b = H b := by unfold drop; rw [if_neg h]
/-- Hf is Ho, what stands at L is known -/
structure Fz (L : List Addr) (Ho Hf : Hp) : Prop where
  out : ∀ b, b ∉ L → Hf b = Ho b
  in_ : ∀ b ∈ L, ∃ o, Hf b = some (fz o)
def Frozen (L : List Addr) (H : Hp) : Prop := ∀ b ∈ L, ∃ o, H b = some (fz o)
theorem frzL_fz {L : List Addr} {h : Heap} {H : Hp} (hex : ∀ b ∈ L, ∃ o, h.get? b = some o) : Fz L H (frzL L h H) where
  out := fun b hb => by unfold frzL; rw [if_neg hb]
  in_ := fun b hb => by
    obtain ⟨o, e⟩ := hex b hb
    exact ⟨o, by unfold frzL; rw [if_pos hb, e]; rfl⟩
theorem drop_fz {L : List Addr} {Ho Hf : Hp} (h : Fz L Ho Hf) (hn : ∀ b ∈ L, Ho b = none) : drop L Hf = Ho := by
  funext b
  by_cases c : b ∈ L
  · rw [drop_in c, hn b c]
  · rw [drop_out c, h.out b c]
/-- L is younger than the consumer's run so far, and is not its own -/
structure Cons (X : Cx) (pins : List (Addr × Obj)) (L : List Addr) : Prop where
  loc : X.env.locals ∉ L
  fs : ∀ b ∈ L, b ∉ X.fs
  ge : ∀ b ∈ L, b ∈ X.ex ∨ X.s_0.heap.objs.size ≤ b
  cell : ∀ x c, X.env.cells.lookup x = some c → c ∉ L
  pin : ∀ p ∈ X.pn ++ pins, p.1 ∉ L
  tup : ∀ b ∈ L, ∀ xs, X.H_0 b ≠ some (.tup xs)
  frz : ∀ b ∈ L, ∀ o u, X.H_0 b ≠ some (.frz o u)
  tbl : ∀ b ∈ L, ∀ ps, X.H_0 b ≠ some (.tbl ps)
section
variable {X : Cx} {pins : List (Addr × Obj)} {L : List Addr} {σ : L2.St} {H : Hp} {s : Shared}
theorem cons_of (I : L2.Inv X pins σ H s) (h : ∀ b ∈ L, s.heap.objs.size ≤ b) : Cons X pins L := by
  have fp := fun b hb => I.fpOk (h b hb) (I.hok.fresh (h b hb))
  have no : ∀ b ∈ L, ∀ u, H b ≠ some u := fun b hb u e => by rw [I.hok.fresh (h b hb)] at e; cases e
  exact ⟨fun hm => (fp _ hm).2.1 rfl, fun b hb => (fp b hb).2.2.1, fun b hb => .inr (Nat.le_trans I.sz (h b hb)), fun x c e hm => (fp c hm).2.2.2.2.1 x c e rfl, fun p hp hm => (fp _ hm).2.2.2.2.2 p hp rfl,
    fun b hb xs e => no b hb _ (I.base.tups b xs e), fun b hb o u e => no b hb _ (I.base.frzs b o u e), fun b hb ps e => by
      obtain ⟨m, q⟩ := I.base.tbls b ps e
      exact no b hb _ q⟩
theorem Cons.ch (C : Cons X pins L) : ∀ b ∈ L, (b ∈ X.ex ∨ X.s_0.heap.objs.size ≤ b) ∧ b ≠ X.env.locals ∧ (∀ x c, X.env.cells.lookup x = some c → c ≠ b) ∧ ∀ p ∈ X.pn ++ pins, p.1 ≠ b :=
  fun b hb => ⟨C.ge b hb, fun e => C.loc (e ▸ hb), fun x c e z => C.cell x c e (z ▸ hb), fun p hp z => C.pin p hp (z ▸ hb)⟩
theorem inv_drop (C : Cons X pins L) (I : L2.Inv X pins σ H s) (hf : Frozen L H) : L2.Inv X pins σ (drop L H) s := by
  have keep : ∀ {b u}, H b = some u → (∀ o, u ≠ fz o) → drop L H b = some u := fun {b u} e d => by
    rw [drop_out, e]
    intro hm
    obtain ⟨o, q⟩ := hf b hm
    rw [e] at q
    exact d o (Option.some.inj q)
  have none_ : ∀ {b}, H b = none → drop L H b = none := fun {b} e => by
    by_cases c : b ∈ L
    · exact drop_in c
    · rw [drop_out c, e]
  refine ⟨I.ok, I.os, I.bare, ⟨I.base.keep, I.base.slot, fun b o g n hx => none_ (I.base.free b o g n hx), I.base.there, fun b xs e => ?_, fun b o u e => ?_, fun b ps e => ?_⟩, I.loc, I.cell, none_ I.free, fun x c e => none_ (I.freeC x c e), fun p hp => ?_, fun b u e => ?_, I.len⟩
  · rw [drop_out fun hm => C.tup b hm xs e]
    exact I.base.tups b xs e
  · rw [drop_out fun hm => C.frz b hm o u e]
    exact I.base.frzs b o u e
  · rw [drop_out fun hm => C.tbl b hm ps e]
    exact I.base.tbls b ps e
  · obtain ⟨h1, h2, h3⟩ := I.pin p hp
    exact ⟨h1, none_ h2, h3⟩
  · by_cases c : b ∈ L
    · rw [drop_in c] at e
      cases e
    · rw [drop_out c] at e
      exact (I.hok b u e).stay (fun _ _ _ q => q) (fun d q => keep q fun o z => by cases z) fun d xs q => keep q fun o z => by cases z
theorem inv_frz (C : Cons X pins L) (I : L2.Inv X pins σ H s) (hn : ∀ b ∈ L, H b = none) (hex : ∀ b ∈ L, ∃ o, s.heap.get? b = some o) : L2.Inv X pins σ (frzL L s.heap H) s := by
  have out : ∀ {b}, b ∉ L → frzL L s.heap H b = H b := fun {b} hb => by unfold frzL; rw [if_neg hb]
  have keep : ∀ {b u}, H b = some u → frzL L s.heap H b = some u := fun {b u} e => by
    rw [out, e]
    intro hm
    rw [hn b hm] at e
    cases e
  refine ⟨I.ok, I.os, I.bare, ⟨I.base.keep, I.base.slot, fun b o g n hx => ?_, I.base.there, fun b xs e => keep (I.base.tups b xs e), fun b o u e => keep (I.base.frzs b o u e), fun b ps e => ?_⟩, I.loc, I.cell, ?_, fun x c e => ?_, fun p hp => ?_, fun b u e => ?_, I.len⟩
  · rw [out fun hm => (C.ge b hm).elim hx fun z => absurd (Nat.lt_of_lt_of_le (Heap.lt_size g) z) (Nat.lt_irrefl _)]
    exact I.base.free b o g n hx
  · obtain ⟨m, q⟩ := I.base.tbls b ps e
    exact ⟨m, keep q⟩
  · rw [out C.loc]
    exact I.free
  · rw [out (C.cell x c e)]
    exact I.freeC x c e
  · obtain ⟨h1, h2, h3⟩ := I.pin p hp
    exact ⟨h1, by rw [out (C.pin p hp)]; exact h2, h3⟩
  · by_cases c : b ∈ L
    · obtain ⟨o, g⟩ := hex b c
      have q : frzL L s.heap H b = some (fz o) := by unfold frzL; rw [if_pos c, g]; rfl
      rw [q] at e
      cases e
      exact fz_ok g
    · rw [out c] at e
      exact (I.hok b u e).stay (fun _ _ _ q => q) (fun d q => keep q) fun d xs q => keep q
/-- the generators alone are others -/
theorem inv_gens {G : Array GenState} (I : L2.Inv X pins σ H s) (h : AllBare G) : L2.Inv X pins σ H (wg s G) := ⟨I.ok, I.os, h, I.base, I.loc, I.cell, I.free, I.freeC, I.pin, I.hok, I.len⟩
end
theorem bare_dead {G : Array GenState} (h : AllBare G) : AllBare (G.map dead) := fun y hy => by
  obtain ⟨z, hz, e⟩ := Array.mem_map.mp hy
  have q := h z hz
  rw [← e]
  cases z <;> exact q
theorem bare_sw {G B G' : Array GenState} (w : Sw (sleepers G) B G') (hG : AllBare G) (hB : AllBare B) : AllBare G' := fun y hy => by
  obtain ⟨i, hi, e⟩ := Array.mem_iff_getElem.mp hy
  have e' : G'[i]? = some y := by rw [Array.getElem?_eq_getElem hi, e]
  cases z : sleepers G i with
  | none => exact hB y (Array.mem_of_getElem? (by rw [w.eq i z]; exact e'))
  | some x =>
    have h2 := (w.at_ i x z).2.2
    rw [h2] at e'
    rw [← Option.some.inj e']
    exact hG x (Array.mem_of_getElem? (sleepers_at z).2)
end VG

set_option Elab.async false
set_option linter.all false
set_option maxRecDepth 100000
set_option maxHeartbeats 4000000
/-! next of a generator: what it leaves is asleep -/
namespace VG
open PySem PySem.Spec PyProof.Rows L2 GenW VL
section
variable {M : Model} {A : Around} {R : GenEnd} {Y : Protocol} {n g : Nat} {E : Value → Shared → Prop} {s : Shared} {gs : GenState}
/-- what may follow, told of the state that sleeps -/
def kapOf (M : Model) (A : Around) (R : GenEnd) (Y : Protocol) (n : Nat) (x : GenState) : Resume → Shared → Prop := fun r s' => match n with
  | 0 => False
  | m + 1 => x.Goes M A R Y m r s'
theorem wakes_on {α : Type} {r : Resume} {l : List Value} {k : GenResult → Sem α} {Q : α → Shared → Prop} (hg : s.gens[g]? = some gs) (hgo : gs.Goes M A R Y n r (s.setGen g .running))
    (hR : ∀ x s1, R n (s.setGen g .running) x s1 → wpAny M A (k (End.ret x).result) Q E (s1.setGen g .finished))
    (hY : ∀ v s1 x, Susp x → x.bare = true → Y (n - 1) (s.setGen g .running) v s1 (kapOf M A R Y n x) → wpAny M A (k (.yielded v)) Q E (s1.setGen g x)) :
    wpAny M A (.resume g r l k) Q E s := by
  intro Γ p hΓ
  rw [Sem.wp_resume]
  have wk := fun c => hΓ.wake c p
  have after : ∀ e1 s1, SegEnd R Y n (Seg.next M A R Y n) (s.setGen g .running) e1 s1 → e1.quiet = true ∧ Sem.wp M Γ (k e1.result) (fun a _ s' => Q a s') (fun e _ s' => E e s') p (s1.setGen g e1.genState) := by
    intro e1 s1 he
    cases e1 with
    | ret x => exact ⟨rfl, hR x s1 he Γ p hΓ⟩
    | susp v g0 l0 k0 c0 p0 fs0 =>
      refine ⟨he.1, hY v s1 (.suspended k0 l0 c0 p0 fs0 (g0 || fs0.any Frame.guarded)) True.intro (End.bare_of_quiet he.1) ?_ Γ p hΓ⟩
      cases n with
      | zero => exact he.2
      | succ m => exact he.2
  cases gs with
  | running => exact hgo.elim
  | finished => exact hgo.elim
  | fresh c =>
    obtain ⟨rfl, hs⟩ := hgo
    obtain ⟨e1, s1, run, he⟩ := seg_iff.mp hs (Γ.wake c p) p rfl (wk c)
    obtain ⟨q1, q2⟩ := after e1 s1 he
    refine ⟨_, _, ?_, q2⟩
    unfold PySem.Wakes
    rw [hg]
    exact ⟨e1, s1, run, q1, rfl, rfl⟩
  | suspended k0 l0 c0 p0 fs0 cl =>
    obtain ⟨e1, s1, run, he⟩ := seg_iff.mp hgo (Γ.wake c0 p) p0 rfl (wk c0)
    obtain ⟨q1, q2⟩ := after e1 s1 he
    refine ⟨_, _, ?_, q2⟩
    unfold PySem.Wakes
    rw [hg]
    exact ⟨e1, s1, run, q1, rfl, rfl⟩
end
section
variable {P : Program} {w : World} {A : Around} {E : Value → Shared → Prop} {s : Shared}
abbrev REnd0 (F : Nat → Shared → Shared → Prop) : GenEnd := fun n s₀ r s₁ => ((r = .ok (.ret .none) ∨ r = .ok .next) ∧ F n s₀ s₁) ∨ ∃ e, r = .error e ∧ False
theorem next_on {a : Addr} {g n : Nat} {gs : GenState} {F : Nat → Shared → Shared → Prop} {Y : Protocol} {Q : Option Value → Shared → Prop} (hh : A.handled = none)
    (hl : s.heap.NoLimit) (hd : A.depth < recursionLimit) (hg : s.heap.IsGen a g) (hgs : s.gens[g]? = some gs) (hgo : gs.Goes (model P w) A.in1 (REnd0 F) Y n (.send .none) (s.setGen g .running))
    (hY : ∀ v s1 x, Susp x → x.bare = true → Y (n - 1) (s.setGen g .running) v s1 (kapOf (model P w) A.in1 (REnd0 F) Y n x) → Q (some v) (s1.setGen g x))
    (hP : ∀ s1, F n (s.setGen g .running) s1 → ∀ h', (∀ b o, s1.heap.get? b = some o → h'.get? b = some o) → Q none { s1.setGen g .finished with heap := h' }) :
    wpAny (model P w) A (pyNext (.ref a)) Q E s := by
  unfold pyNext
  refine wpAny_bind (wpAny_attempt (wpAny_callSpecial?_slot (name := Str.ofString "__next__") hg.typeIs slot_gen_next (wpAny_call_entry slot_gen_next hg.typeIs entry_gen_next ?_ (args_gen_next _))))
  show wpAny _ A.in1 (Builtin.Generator.genWake (.ref a) (.send .none)) _ _ s
  unfold Builtin.Generator.genWake
  refine wpAny_bind (wpAny_holding (wpAny_genNumber hg (wpAny_bind (wpAny_genState hgs ?_))))
  cases gs with
  | running => exact hgo.elim
  | finished => exact hgo.elim
  | _ =>
    refine wpAny_bind (wpAny_roomToWake hl hd ?_)
    show wpAny _ A.in1 (.resume g (.send .none) [] _) _ _ s
    refine wakes_on hgs hgo (fun x s1 hx => ?_) (fun v s1 y hs hb hv => wpAny_pure ⟨v, rfl, wpAny_pure (hY v s1 y hs hb hv)⟩)
    obtain ⟨hr, hp⟩ := hx.resolve_right fun z => z.elim fun _ q => q.2
    have er : End.result (.ret x) = .returned .none := by
      rcases hr with hr | hr <;> rw [hr] <;> rfl
    first | rw [er] | simp only [er]
    show wpAny _ A.in1 (newExc (.type "StopIteration") [] >>= _) _ _ _
    refine wpAny_bind ?_
    simp only [newExc, newTuple]
    refine wpAny_bind (wpAny_newObj_type ?_ (by size_fits))
    refine wpAny_bind (m := firstArgMember _ _) (wpAny_of_eq (a := Value.none) (by first | rfl | (simp only [firstArgMember]; rfl)) ?_)
    refine wpAny_newObj_type ?_ (by size_fits)
    simp only [raiseNew]
    refine wpAny_bind (wpAny_bind (wpAny_handled ?_))
    first | rw [show A.in1.handled = none from hh] | rw [hh]
    refine wpAny_throw (wpAny_bind (wpAny_isInstance (T := "StopIteration") (b := true) ⟨_, Heap.get?_push_size _ rfl, rfl⟩ isSubtype_stop ?_))
    exact wpAny_pure (hP s1 hp _ fun b o z => Heap.get?_push_of_some _ (Heap.get?_push_of_some _ z))
end
end VG

set_option Elab.async false
set_option linter.all false
set_option maxRecDepth 100000
set_option maxHeartbeats 4000000
/-! for x in g(..): body, g a generator def of one's own -/
namespace VG
open PySem PySem.Spec PyProof.Rows L2 GenW VL
/-- the consumer's state at turn i: its names, its heap, the sleeper's names -/
structure JG (X G : Cx) (pins : List (Addr × Obj)) (L : List Addr) (Z : Nat → L2.St → Hp → Prop) (Pv : Nat → L2.St → L2.St → Hp → Prop) (i : Nat) (s : Shared) (t : L2.St × Hp × L2.St) : Prop where
  inv : L2.Inv X pins t.1 t.2.1 s
  fz : Frozen L t.2.1
  ow : Own G t.2.2 s.heap
  z : Z i t.2.2 (drop L t.2.1)
  pv : Pv i t.2.2 t.1 t.2.1
theorem JG.gens {X G : Cx} {pins : List (Addr × Obj)} {L : List Addr} {Z : Nat → L2.St → Hp → Prop} {Pv : Nat → L2.St → L2.St → Hp → Prop} {i : Nat} {s : Shared} {t : L2.St × Hp × L2.St} (h : JG X G pins L Z Pv i s t) {B : Array GenState} (hb : AllBare B) : JG X G pins L Z Pv i (wg s B) t :=
  ⟨inv_gens h.inv hb, h.fz, h.ow, h.z, h.pv⟩
open Classical in
noncomputable def ghost (X G : Cx) (pins : List (Addr × Obj)) (L : List Addr) (Z : Nat → L2.St → Hp → Prop) (Pv : Nat → L2.St → L2.St → Hp → Prop) (N : Nat) : Nat → Shared → Hp × L2.St := fun n s => if h : ∃ t, JG X G pins L Z Pv (N - n) s t then (drop L (Classical.choose h).2.1, (Classical.choose h).2.2) else (fun _ => none, [])
theorem ghost_at {X G : Cx} {pins : List (Addr × Obj)} {L : List Addr} {Z : Nat → L2.St → Hp → Prop} {Pv : Nat → L2.St → L2.St → Hp → Prop} {N n : Nat} {s : Shared} (h : ∃ t, JG X G pins L Z Pv (N - n) s t) : ∃ t, JG X G pins L Z Pv (N - n) s t ∧ ghost X G pins L Z Pv N n s = (drop L t.2.1, t.2.2) :=
  ⟨Classical.choose h, Classical.choose_spec h, by unfold ghost; rw [dif_pos h]⟩
/-- it sleeps at g and goes on so -/
def Alive (X G : Cx) (n0 : Nat) (pins : List (Addr × Obj)) (L : List Addr) (Z : Nat → L2.St → Hp → Prop) (Pv : Nat → L2.St → L2.St → Hp → Prop) (Yl : Nat → L2.St → Hp → V → L2.St → Hp → Prop) (En : Nat → L2.St → Hp → Hp → Prop) (N n : Nat) (gs : GenState) : Prop :=
  ∀ s', Wakes G n0 X.A.in1 (Z (N - n) (ghost X G pins L Z Pv N n s').2) (ghost X G pins L Z Pv N n s').1 s' → Own G (ghost X G pins L Z Pv N n s').2 s'.heap →
    gs.Goes (model X.prog X.w) X.A.in1 (RW G n0 N (ghost X G pins L Z Pv N) En) (YW G n0 N X.A.in1 (ghost X G pins L Z Pv N) Z Yl) n (.send .none) s'
section
variable {X : Cx} {pins : List (Addr × Obj)} {Nm : List Str} {qual : Str} {scope : Scope} {f : Addr} {cdv : Value} {sc : Shared} {Hsc : Hp} {Z : Nat → L2.St → Hp → Prop} {Pv : Nat → L2.St → L2.St → Hp → Prop} {Yl : Nat → L2.St → Hp → V → L2.St → Hp → Prop} {En : Nat → L2.St → Hp → Hp → Prop} {N : Nat}
abbrev GX (X : Cx) (Nm : List Str) (qual : Str) (scope : Scope) (f : Addr) (cdv : Value) (sc : Shared) (Hsc : Hp) : Cx := gX X.prog X.w X.K X.mg X.base Nm qual scope f cdv X.A.in1 X.stack sc Hsc
/-- one turn -/
theorem turn_gen {a g n i : Nat} {gs : GenState} {s : Shared} {Q : Option Value → Shared → Prop} {E : Value → Shared → Prop} (hh : X.A.handled = none) (hd : X.A.depth < recursionLimit)
    (C : Cons X pins (a :: own (GX X Nm qual scope f cdv sc Hsc))) (hao : a ∉ own (GX X Nm qual scope f cdv sc Hsc)) (hin : i + n = N) (hn1 : 1 ≤ n)
    (S : GSt (GX X Nm qual scope f cdv sc Hsc) sc.heap.objs.size)
    (J : ∃ t, JG X (GX X Nm qual scope f cdv sc Hsc) pins (a :: own (GX X Nm qual scope f cdv sc Hsc)) Z Pv i s t) (hg : s.heap.IsGen a g) (hgs : s.gens[g]? = some gs)
    (al : Alive X (GX X Nm qual scope f cdv sc Hsc) sc.heap.objs.size pins (a :: own (GX X Nm qual scope f cdv sc Hsc)) Z Pv Yl En N n gs)
    (hY : ∀ σ H σp x v Ho σg m s1 y, n = m + 1 → Pv i σp σ H → Frozen (a :: own (GX X Nm qual scope f cdv sc Hsc)) H → Yl i σp (drop (a :: own (GX X Nm qual scope f cdv sc Hsc)) H) x σg Ho → Z (i + 1) σg Ho → (∀ b ∈ a :: own (GX X Nm qual scope f cdv sc Hsc), Ho b = none) → RelV x v →
      L2.Inv X pins σ Ho s1 → (∀ b ∈ a :: own (GX X Nm qual scope f cdv sc Hsc), ∃ o, s1.heap.get? b = some o) → s1.heap.IsGen a g → Own (GX X Nm qual scope f cdv sc Hsc) σg s1.heap → s1.gens[g]? = some y → Susp y →
      Alive X (GX X Nm qual scope f cdv sc Hsc) sc.heap.objs.size pins (a :: own (GX X Nm qual scope f cdv sc Hsc)) Z Pv Yl En N m y → Q (some v) s1)
    (hP : ∀ σ H σp Ho s1, Pv i σp σ H → Frozen (a :: own (GX X Nm qual scope f cdv sc Hsc)) H → En i σp (drop (a :: own (GX X Nm qual scope f cdv sc Hsc)) H) Ho → (∀ b ∈ a :: own (GX X Nm qual scope f cdv sc Hsc), Ho b = none) → L2.Inv X pins σ Ho s1 → Q none s1) :
    wpAny (model X.prog X.w) X.A (pyNext (.ref a)) Q E s := by
  obtain ⟨t0, J0⟩ := J
  have hi : N - n = i := by omega
  have hgl : g < s.gens.size := (Array.getElem?_eq_some_iff.mp hgs).1
  have b0 : AllBare (s.setGen g .running).gens := allBare_setGen J0.inv.bare rfl
  obtain ⟨t, Jt, eg⟩ := ghost_at (N := N) (n := n) (s := s.setGen g .running) ⟨t0, by rw [hi]; exact J0.gens b0⟩
  rw [hi] at Jt
  have Id := inv_drop C Jt.inv Jt.fz
  have hown : ∀ b ∈ own (GX X Nm qual scope f cdv sc Hsc), drop (a :: own (GX X Nm qual scope f cdv sc Hsc)) t.2.1 b = none := fun b hb => drop_in (List.mem_cons_of_mem _ hb)
  have e0 := Id.env0
  have W : Wakes (GX X Nm qual scope f cdv sc Hsc) sc.heap.objs.size X.A.in1 (Z (N - n) (ghost X (GX X Nm qual scope f cdv sc Hsc) pins (a :: own (GX X Nm qual scope f cdv sc Hsc)) Z Pv N n (s.setGen g .running)).2) (ghost X (GX X Nm qual scope f cdv sc Hsc) pins (a :: own (GX X Nm qual scope f cdv sc Hsc)) Z Pv N n (s.setGen g .running)).1 (s.setGen g .running) := by
    rw [eg, hi]
    refine ⟨⟨e0.frames, e0.mod, e0.bs, e0.bsz, e0.funs, e0.frf, e0.hok, e0.bare⟩, ?_, hown, Jt.z⟩
    obtain ⟨m, hm, _⟩ := Jt.ow.loc
    exact Nat.le_of_lt (Nat.lt_of_le_of_lt S.above hm.lt)
  have left : ∀ {Ho s1}, Left (GX X Nm qual scope f cdv sc Hsc) sc.heap.objs.size (drop (a :: own (GX X Nm qual scope f cdv sc Hsc)) t.2.1) Ho (s.setGen g .running) s1 → L2.Inv X pins t.1 Ho s1 ∧ s1.heap.IsGen a g ∧ ∀ b ∈ a :: own (GX X Nm qual scope f cdv sc Hsc), Ho b = none := by
    intro Ho s1 lf
    have I1 : L2.Inv X pins t.1 Ho s1 := Id.call' lf.os lf.un lf.hok lf.bare fun b hb => C.ch b (List.mem_cons_of_mem _ hb)
    obtain ⟨o, nm, qn, ho, r⟩ := hg
    have ha : drop (a :: own (GX X Nm qual scope f cdv sc Hsc)) t.2.1 a = none := drop_in List.mem_cons_self
    have hfs : a ∉ frs X.stack := fun hm => by
      rcases List.mem_cons.mp (Id.stkSub a hm) with z | z
      · exact C.loc (z ▸ List.mem_cons_self)
      · exact C.fs a List.mem_cons_self z
    have hk : s1.heap.get? a = some o := lf.un.keep a o ho ha hfs hao
    refine ⟨I1, ⟨o, nm, qn, hk, r⟩, fun b hb => ?_⟩
    rcases List.mem_cons.mp hb with rfl | hb
    · exact lf.un.free b o ho ha hao
    · exact lf.own_ b hb
  refine wpAny_gsz (n := g + 1) hgl (next_on hh J0.inv.nolimit hd hg hgs (al _ W (by rw [eg]; exact Jt.ow)) (fun v s1 y hs hb hv hsz => ?_) fun s1 hF h' hk hsz => ?_)
  · obtain ⟨m, rfl⟩ : ∃ m, n = m + 1 := ⟨n - 1, by omega⟩
    obtain ⟨i', x, Ho, σ', e1, lf, sz1, rv, yl, ow, z, kp⟩ := hv
    have ei : i' = i := by
      have : i' + m + 1 = N := e1
      omega
    subst ei
    rw [show m + 1 - 1 + 1 = m + 1 from rfl, eg] at lf yl
    obtain ⟨I1, hg1, hn⟩ := left lf
    have hsz' : g + 1 ≤ s1.gens.size := by rw [setGen_size] at hsz; exact hsz
    refine hY t.1 t.2.1 t.2.2 x v Ho σ' m _ y rfl Jt.pv Jt.fz yl z hn rv (inv_gens I1 (allBare_setGen lf.bare hb)) (fun b hb' => ?_) hg1 ow (setGen_at hsz') hs fun s' W' O' => ?_
    · rcases List.mem_cons.mp hb' with rfl | hb'
      · obtain ⟨o, _, _, ho, _⟩ := hg1
        exact ⟨o, ho⟩
      · rcases own_of hb' with rfl | ⟨c, e⟩
        · obtain ⟨mm, ⟨o, _, _, ho, _⟩, _⟩ := ow.loc
          exact ⟨o, ho⟩
        · obtain ⟨_, o, ho, _⟩ := ow.cell c b e
          exact ⟨o, ho⟩
    · have em : N - m = i' + 1 := by omega
      rw [em] at W'
      exact kp s' W' O'
  · obtain ⟨i', Ho, e1, lf, en⟩ := hF
    have ei : i' = i := by omega
    subst ei
    rw [eg] at lf en
    obtain ⟨I1, hg1, hn⟩ := left lf
    exact hP t.1 t.2.1 t.2.2 Ho _ Jt.pv Jt.fz en hn (inv_gens (I1.kept (t' := s1.toks) hk) (allBare_setGen lf.bare rfl))
end
end VG

set_option Elab.async false
set_option linter.all false
set_option maxRecDepth 100000
set_option maxHeartbeats 4000000
namespace VG
open PySem PySem.Spec PyProof.Rows L2 GenW VL
/-- what a generator def promises: for its arguments and the heap, how many items at most, what holds while it sleeps, what it hands out, its end -/
abbrev SpW := List V → Hp → Nat → (Nat → L2.St → Hp → Prop) → (Nat → L2.St → Hp → V → L2.St → Hp → Prop) → (Nat → L2.St → Hp → Hp → Prop) → Prop
structure Wlk (P : Program) (w : World) (K : PySem.W.Frag) (mg : Str → Option Value) (base : Heap) (k : Nat) (x : Str) (sp : SpW) : Prop where
  ex : ∃ (f : Addr) (fd : FuncData) (qual : Str) (scope : Scope) (cdv : Value) (Nm ps : List Str) (pre st1 st2 : Stmt) (test e : Expr) (wp yp xp : Pos), mg x = some (.ref f) ∧ PySem.W.keepIn K (.ref f) = true ∧ Binds K fd ps [] ∧ scope.isCoroutine = false ∧ (∀ n, interactive (envOfC qual scope n f cdv) = false) ∧
    (∀ vs H N Z Yl En, sp vs H N Z Yl En → vs.length = ps.length ∧ (∀ H', Same H H' → Z 0 (L2.start Nm vs) H') ∧ (∀ i σp H x σg Ho, Yl i σp H x σg Ho → i < N) ∧
      ∀ (Aw : Around) (outer : List Env) (s : Shared), Room k (Aw.deeper (envOfC qual scope s.heap.objs.size f cdv)) → ∃ tpre t1 t2 tc te Head, Body (gX P w K mg base Nm qual scope f cdv Aw outer s H) (N + 1) Z Yl En pre st1 st2 test e tpre t1 t2 tc te Head) ∧
    ∀ (A : Around) (outer : List Env) (s : Shared) (H : Hp) (args : Args) (us : List Value) (vs : List V), A.depth < recursionLimit → Env0 P w K mg base A outer s H → BindsTo s fd args (ps.zip us) → Vals vs us → vs.length = ps.length →
      codeAny (model P w) A (.call (.ref f) args) (fun r s' => match r with | .ok (.ret u) => ∃ a g, GNew P w K mg base Nm qual scope [pre, .While test [st1, .Expr (.Yield (some e) yp) xp, st2] [] wp] f cdv outer s H vs u s' a g | _ => False) s
theorem wlk_of {P : Program} {w : World} {K : PySem.W.Frag} {mg : Str → Option Value} {base : Heap} {k : Nat} {x : Str} {st : Stmt} {ps Nm : List Str} {sp : SpW} {pre st1 st2 : Stmt} {test e : Expr} {wp yp xp : Pos} (D : DefE K mg x st ps) (S : GScope Nm ps (defScope st))
    (hb : defBody st = [pre, .While test [st1, .Expr (.Yield (some e) yp) xp, st2] [] wp]) (hint : ∀ (n : Nat) (f : Addr) (cdv : Value), interactive (envOfC x (defScope st) n f cdv) = false)
    (hbody : ∀ vs H N Z Yl En, sp vs H N Z Yl En → vs.length = ps.length ∧ (∀ H', Same H H' → Z 0 (L2.start Nm vs) H') ∧ (∀ i σp H x σg Ho, Yl i σp H x σg Ho → i < N) ∧
      ∀ (f : Addr) (cdv : Value) (Aw : Around) (outer : List Env) (s : Shared), Room k (Aw.deeper (envOfC x (defScope st) s.heap.objs.size f cdv)) → ∃ tpre t1 t2 tc te Head, Body (gX P w K mg base Nm x (defScope st) f cdv Aw outer s H) (N + 1) Z Yl En pre st1 st2 test e tpre t1 t2 tc te Head) :
    Wlk P w K mg base k x sp := by
  obtain ⟨f, fd, F, hm, bi⟩ := D
  have F0 := F
  obtain ⟨oc, od, kV, doc, pm, an, cdv, ct, osl, rfl, lk, hcd⟩ := F.ex
  refine ⟨f, _, x, defScope st, cdv, Nm, ps, pre, st1, st2, test, e, wp, yp, xp, hm, F0.kp, bi, S.co, fun n => hint n f cdv, fun vs H N Z Yl En h => ?_, fun A outer s H args us vs hd e0 hbi r hl => ?_⟩
  · obtain ⟨h1, h2, h3, h4⟩ := hbody vs H N Z Yl En h
    exact ⟨h1, h2, h3, fun Aw outer s => h4 f cdv Aw outer s⟩
  · have := gen_call lk hcd S (A := A) (outer := outer) (s := s) (H := H) (args := args) (us := us) (vs := vs) hd e0 hbi r hl
    rw [hb] at this
    exact this
def Nxt (L : List Addr) (Z : Nat → L2.St → Hp → Prop) (Pv : Nat → L2.St → L2.St → Hp → Prop) (i : Nat) (σg : L2.St) (Hf : Hp) : L2.St → Hp → Prop := fun σ' H' => (∀ b ∈ L, H' b = Hf b) ∧ Z (i + 1) σg (drop L H') ∧ Pv (i + 1) σg σ' H'
/-- L: the own addresses of what sleeps -/
def tForG (sp : SpW) (t : TA) (g : TG) (tb : TS) : TS := fun D σ H => t σ H fun vs H1 => ∃ N Z Yl En, sp vs H1 N Z Yl En ∧ ∀ L : List Addr, (∀ b ∈ L, H1 b = none) → ∃ Pv : Nat → L2.St → L2.St → Hp → Prop,
  (∀ Hf σp, Fz L H1 Hf → Pv 0 σp σ Hf) ∧
  (∀ i σp σ H x Ho Hf σg, Pv i σp σ H → Frozen L H → Yl i σp (drop L H) x σg Ho → Z (i + 1) σg Ho → Fz L Ho Hf → (∀ b ∈ L, Ho b = none) → g x σ Hf fun σ2 H2 => tb { D with nx := Nxt L Z Pv i σg Hf, ct := Nxt L Z Pv i σg Hf, bk := D.nx } σ2 H2) ∧
  ∀ i σp σ H Ho, Pv i σp σ H → Frozen L H → En i σp (drop L H) Ho → (∀ b ∈ L, Ho b = none) → D.nx σ Ho
section
variable {X : Cx} {pins : List (Addr × Obj)} {L : List Addr} {G : Cx}
/-- what is known stays -/
theorem own_frz {σg : L2.St} {h h' : Heap} {Ho H' : Hp} {P : Program} {w : World} (hL : ∀ b ∈ own G, b ∈ L) (O : Own G σg h) (k : HOk P w H' h') (e : ∀ b ∈ L, H' b = frzL L h Ho b) : Own G σg h' :=
  O.keep fun b hb o ho => by
    have q : H' b = some (fz o) := by
      rw [e b (hL b hb)]
      unfold frzL
      rw [if_pos (hL b hb), ho]
      rfl
    exact (k b _ q).1
theorem gen_frz {a g : Nat} {h h' : Heap} {Ho H' : Hp} {P : Program} {w : World} (ha : a ∈ L) (O : h.IsGen a g) (k : HOk P w H' h') (e : ∀ b ∈ L, H' b = frzL L h Ho b) : h'.IsGen a g := by
  obtain ⟨o, nm, qn, ho, r⟩ := O
  have q : H' a = some (fz o) := by
    rw [e a ha]
    unfold frzL
    rw [if_pos ha, ho]
    rfl
  exact ⟨o, nm, qn, (k a _ q).1, r⟩
end
/-- the call is made: what sleeps has not begun -/
structure Rdy (X : Cx) (pins : List (Addr × Obj)) (σ : L2.St) (N : Nat) (Z : Nat → L2.St → Hp → Prop) (Yl : Nat → L2.St → Hp → V → L2.St → Hp → Prop) (En : Nat → L2.St → Hp → Hp → Prop) (H1 : Hp) (s1 s2 : Shared) (Nm : List Str) (qual : Str) (scope : Scope) (f : Addr) (cdv : Value) (a gi : Nat) (cd : Code) (σ0 : L2.St) : Prop where
  inv : L2.Inv X pins σ H1 s2
  no : ∀ b ∈ a :: own (GX X Nm qual scope f cdv s1 H1), H1 b = none
  C : Cons X pins (a :: own (GX X Nm qual scope f cdv s1 H1))
  S : GSt (GX X Nm qual scope f cdv s1 H1) s1.heap.objs.size
  O : Own (GX X Nm qual scope f cdv s1 H1) σ0 s2.heap
  hao : a ∉ own (GX X Nm qual scope f cdv s1 H1)
  gen : s2.heap.IsGen a gi
  st : s2.gens[gi]? = some (.fresh cd)
  yl : ∀ i σp H x σg Ho, Yl i σp H x σg Ho → i < N
  z : ∀ H', Same H1 H' → Z 0 σ0 H'
  al : ∀ (Gh : Nat → Shared → Hp × L2.St) (s' : Shared), Wakes (GX X Nm qual scope f cdv s1 H1) s1.heap.objs.size X.A.in1 (Z 0 (Gh (N + 1) s').2) (Gh (N + 1) s').1 s' → Own (GX X Nm qual scope f cdv s1 H1) (Gh (N + 1) s').2 s'.heap →
    (GenState.fresh cd).Goes (model X.prog X.w) X.A.in1 (RW (GX X Nm qual scope f cdv s1 H1) s1.heap.objs.size (N + 1) Gh En) (YW (GX X Nm qual scope f cdv s1 H1) s1.heap.objs.size (N + 1) X.A.in1 Gh Z Yl) (N + 1) (.send .none) s'
theorem own_there {G : Cx} {σg : L2.St} {h : Heap} {a gi : Nat} (ow : Own G σg h) (ea : h.IsGen a gi) : ∀ b ∈ a :: own G, ∃ o, h.get? b = some o := fun b hb => by
  rcases List.mem_cons.mp hb with rfl | hb
  · obtain ⟨o, _, _, ho, _⟩ := ea
    exact ⟨o, ho⟩
  · rcases own_of hb with rfl | ⟨c, e⟩
    · obtain ⟨mm, ⟨o, _, _, ho, _⟩, _⟩ := ow.loc
      exact ⟨o, ho⟩
    · obtain ⟨_, o, ho, _⟩ := ow.cell c b e
      exact ⟨o, ho⟩
section
variable {X : Cx} {k j : Nat} {x : Str} {sp : SpW} {p pos pos' : Pos} {e : Expr} {es : List Expr} {t : TA} {tg : Expr} {body : List Stmt} {g : TG} {tb : TS}
/-- the call alone -/
theorem call_wlk (hh : X.A.handled = none) (c : Wlk X.prog X.w X.K X.mg X.base k x sp) (hr : Room j X.A) (hk : k + 2 ≤ j) (hg : Gl X x) (ha : PA X (e :: es) t) {Kc : Nat → (Nat → L2.St → Hp → Prop) → (Nat → L2.St → Hp → V → L2.St → Hp → Prop) → (Nat → L2.St → Hp → Hp → Prop) → Hp → Prop}
    (hdb : (x == ("__debug__" : Str)) = false) (he : starEach (e :: es) X.env = (false, eval e X.env) :: starEach es X.env) (hpl : (backTo pos (starEach es X.env)).any (·.1) = false) {pins : List (Addr × Obj)} {s : Shared} {σ : L2.St} {H : Hp}
    (I : L2.Inv X pins σ H s) (h : t σ H fun vs H1 => ∃ N Z Yl En, sp vs H1 N Z Yl En ∧ Kc N Z Yl En H1) :
    wpAny (model X.prog X.w) X.A (eval (.Call (.Name x p) (e :: es) [] pos) X.env) (fun u s2 => ∃ N Z Yl En H1 s1 Nm qual scope f cdv a gi cd σ0, u = .ref a ∧ Rdy X pins σ N Z Yl En H1 s1 s2 Nm qual scope f cdv a gi cd σ0 ∧ Kc N Z Yl En H1) X.xe s := by
  obtain ⟨f, fd, qual, scope, cdv, Nm, ps, pre, st1, st2, test, ye, wp, yp, xp, hm, kp, bi, hco, hint, hsp, hcall⟩ := c.ex
  have hdp : X.A.depth < recursionLimit := by have := hr.dp; omega
  refine wpAny_Call_Name_kw (ld_glob I hg hm ?_ hdb)
  refine PySem.W.callWith_K (h₀ := X.base) I.ok.mod.kin kp (thn (ha.run pos pins s σ H _ I h) fun us s1 ⟨vs, H1, I1, r, q⟩ => ⟨I1.kIn, ?_⟩) he hpl
  obtain ⟨N, Z, Yl, En, hspec, hL⟩ := q
  obtain ⟨hl, hz0, hyl, hbody⟩ := hsp vs H1 N Z Yl En hspec
  have hlu : us.length = ps.length := by rw [← r.length]; exact hl
  have bb := bi s1 us I1.kIn (by rw [List.append_nil]; exact hlu)
  rw [List.append_nil] at bb
  refine wpAny_call (codeAny_mono (hcall X.A X.stack s1 H1 ⟨us, []⟩ us vs hdp I1.env0 bb r hl) fun rr s2 hq => ?_)
  cases rr with
  | error z => exact hq.elim
  | ok fl =>
    cases fl with
    | next => exact hq.elim
    | brk => exact hq.elim
    | cont => exact hq.elim
    | ret u =>
      obtain ⟨a, gi, gn⟩ := hq
      cases gn.val
      obtain ⟨S, O, hao⟩ := gn.fr X.A.in1 hh I1.env0.frames
      have hLge : ∀ b ∈ a :: own (GX X Nm qual scope f cdv s1 H1), s1.heap.objs.size ≤ b := fun b hb' => by
        rcases List.mem_cons.mp hb' with rfl | hb'
        · exact gn.ge
        · exact S.own_ge hb'
      have rm : Room k (X.A.in1.deeper (envOfC qual scope s1.heap.objs.size f cdv)) := ((hr.mono hk).in1).deeper _
      obtain ⟨tpre, t1, t2, tc, te, Head, B⟩ := hbody X.A.in1 X.stack s1 rm
      exact ⟨N, Z, Yl, En, H1, s1, Nm, qual, scope, f, cdv, a, gi, _, _, rfl, ⟨I1.call' (ch := []) gn.os (Un.kept gn.keep) (I1.hok.kept gn.keep) gn.bare fun b z => by simp at z, fun b hb' => I1.hok.fresh (hLge b hb'), cons_of I1 hLge, S, O, hao, gn.gen, gn.st, hyl, hz0,
        fun Gh s' W' O' => ⟨rfl, seg_walk S rfl rfl hco (hint _) B s' W' O'⟩⟩, hL⟩
theorem ps_forG (hxe : X.xe = fun _ _ => False) (hh : X.A.handled = none) (c : Wlk X.prog X.w X.K X.mg X.base k x sp) (hr : Room j X.A) (hk : k + 2 ≤ j) (hg : Gl X x) (ha : PA X (e :: es) t) (hpg : PG X tg g) (hb : PSs X body tb)
    (hdb : (x == ("__debug__" : Str)) = false := by decide) (he : starEach (e :: es) X.env = (false, eval e X.env) :: starEach es X.env := by rfl) (hpl : (backTo pos (starEach es X.env)).any (·.1) = false := by rfl)
    (hs : ∀ v, foldedSetIterable (.Call (.Name x p) (e :: es) [] pos) X.env v = pure v := by intro _; rfl) :
    PS X (.For tg (.Call (.Name x p) (e :: es) [] pos) body [] pos') (tForG sp t g tb) := by
  have nox : ∀ {u s'}, X.xe u s' → False := fun {u s'} h => by rw [hxe] at h; exact h
  refine ⟨fun pins s σ H D I h => ?_⟩
  have hdp : X.A.depth < recursionLimit := by have := hr.dp; omega
  refine wpAny_For (thn (call_wlk hh c hr hk hg ha hdb he hpl I h) fun u s2 hq => ?_) hs
  obtain ⟨N, Z, Yl, En, H1, s1, Nm, qual, scope, f, cdv, a, gi, cd, σ0, rfl, R, hL⟩ := hq
  refine wpAny_pyIter_gen R.gen ?_
  obtain ⟨Pv, hP0, hPt, hPe⟩ := hL (a :: own (GX X Nm qual scope f cdv s1 H1)) R.no
  have hx2 := own_there R.O R.gen
  have fz0 := frzL_fz (H := H1) hx2
  have J0 : JG X (GX X Nm qual scope f cdv s1 H1) pins (a :: own (GX X Nm qual scope f cdv s1 H1)) Z Pv 0 s2 (σ, frzL (a :: own (GX X Nm qual scope f cdv s1 H1)) s2.heap H1, σ0) :=
    ⟨inv_frz R.C R.inv R.no hx2, fz0.in_, R.O, by rw [show drop _ (σ, frzL (a :: own (GX X Nm qual scope f cdv s1 H1)) s2.heap H1, σ0).2.1 = H1 from drop_fz fz0 R.no]; exact R.z H1 fun _ _ e => e, hP0 _ _ fz0⟩
  have al0 : Alive X (GX X Nm qual scope f cdv s1 H1) s1.heap.objs.size pins (a :: own (GX X Nm qual scope f cdv s1 H1)) Z Pv Yl En (N + 1) (N + 1) (.fresh cd) := fun s' W' O' => by
    rw [Nat.sub_self] at W'
    exact R.al _ s' W' O'
  refine codeAny_forLoop_any (fun m s' => ∃ i, i ≤ N ∧ m = N + 1 - i ∧ (∃ t, JG X (GX X Nm qual scope f cdv s1 H1) pins (a :: own (GX X Nm qual scope f cdv s1 H1)) Z Pv i s' t) ∧ s'.heap.IsGen a gi ∧ ∃ gs, s'.gens[gi]? = some gs ∧
    Alive X (GX X Nm qual scope f cdv s1 H1) s1.heap.objs.size pins (a :: own (GX X Nm qual scope f cdv s1 H1)) Z Pv Yl En (N + 1) (N + 1 - i) gs) ?_ (N + 1) ⟨0, Nat.zero_le _, rfl, ⟨_, J0⟩, R.gen, _, R.st, al0⟩
  rintro m s3 ⟨i, hi, rfl, J, hg3, gs, hgs, al⟩
  refine turn_gen hh hdp R.C R.hao (by omega) (by omega) R.S J hg3 hgs al (fun σ3 H3 σp xv v Ho σg m s4 y hm3 pv fz3 yl z hn4 rv I4 hx4 hg4 ow4 hgs4 hsy al4 => ?_) fun σ3 H3 σp Ho s4 pv fz3 en hn4 I4 => ?_
  · obtain ⟨go_, nm, qn, ho, hc, hdt, _⟩ := hg4
    refine go_of ho hc hdt (by decide) ?_
    have hg4 : s4.heap.IsGen a gi := ⟨go_, nm, qn, ho, hc, hdt, by assumption⟩
    have fz4 := frzL_fz (H := Ho) hx4
    have If := inv_frz R.C I4 hn4 hx4
    have w0 := sw_dead s4.gens
    have i_lt := R.yl _ _ _ _ _ _ yl
    refine wpAny_mono (wpAny_sw w0 (hpg.run pins (wg s4 (s4.gens.map dead)) σ3 _ xv v _ (inv_gens If (bare_dead If.bare)) rv (hPt i σp σ3 H3 xv Ho _ σg pv fz3 yl z fz4 hn4))) (fun _ s5 hq5 => ?_) fun z5 s5 hq5 => ?_
    · obtain ⟨B5, w5, σ5, H5, I5, q5⟩ := hq5
      refine wpAny_mono (wpAny_sw w5 (hb.run pins (wg s5 B5) σ5 H5 _ I5 q5)) (fun fl s6 hq6 => ?_) fun z6 s6 hq6 => ?_
      · obtain ⟨B6, w6, hq6⟩ := hq6
        have back : ∀ {σ6 H6}, L2.Inv X pins σ6 H6 (wg s6 B6) → L2.Inv X pins σ6 H6 s6 := fun {σ6 H6} I6 => inv_gens (s := wg s6 B6) (G := s6.gens) I6 (bare_sw w6 If.bare I6.bare)
        have again : ∀ {σ6 H6}, L2.Inv X pins σ6 H6 (wg s6 B6) → Nxt (a :: own (GX X Nm qual scope f cdv s1 H1)) Z Pv i σg (frzL (a :: own (GX X Nm qual scope f cdv s1 H1)) s4.heap Ho) σ6 H6 →
            ∃ m', m' < N + 1 - i ∧ ∃ i, i ≤ N ∧ m' = N + 1 - i ∧ (∃ t, JG X (GX X Nm qual scope f cdv s1 H1) pins (a :: own (GX X Nm qual scope f cdv s1 H1)) Z Pv i s6 t) ∧ s6.heap.IsGen a gi ∧ ∃ gs, s6.gens[gi]? = some gs ∧
              Alive X (GX X Nm qual scope f cdv s1 H1) s1.heap.objs.size pins (a :: own (GX X Nm qual scope f cdv s1 H1)) Z Pv Yl En (N + 1) (N + 1 - i) gs := fun {σ6 H6} I6 q6 => by
          obtain ⟨k1, k2, k3⟩ := q6
          have I7 := back I6
          refine ⟨N + 1 - (i + 1), by omega, i + 1, i_lt, rfl, ⟨(σ6, H6, σg), I7, fun b hb' => ?_, own_frz (fun b hb' => List.mem_cons_of_mem _ hb') ow4 I7.hok k1, k2, k3⟩, gen_frz List.mem_cons_self hg4 I7.hok k1, y, w6.stays hgs4 hsy, ?_⟩
          · show ∃ o, H6 b = _
            rw [k1 b hb']
            exact fz4.in_ b hb'
          · have em : m = N + 1 - (i + 1) := by omega
            rw [← em]
            exact al4
        cases fl with
        | next => obtain ⟨σ6, H6, I6, q6⟩ := hq6; exact again I6 q6
        | cont => obtain ⟨σ6, H6, I6, q6⟩ := hq6; exact again I6 q6
        | brk => obtain ⟨σ6, H6, I6, q6⟩ := hq6; exact ⟨σ6, H6, back I6, q6⟩
        | ret v6 => obtain ⟨x6, σ6, H6, I6, r6, q6⟩ := hq6; exact ⟨x6, σ6, H6, back I6, r6, q6⟩
      · obtain ⟨_, _, h6⟩ := hq6
        exact (nox h6).elim
    · obtain ⟨_, _, h5⟩ := hq5
      exact (nox h5).elim
  · refine wpAny_execs_nil ?_
    exact ⟨σ3, Ho, I4, hPe i σp σ3 H3 Ho pv fz3 en hn4⟩
end
end VG

set_option Elab.async false
set_option linter.all false
set_option maxRecDepth 100000
set_option maxHeartbeats 4000000
/-! [elt for target in g(..) if ..], g a generator def of one's own -/
namespace VG
open PySem PySem.Spec PyProof.Rows L2 GenW VL
def NxL (L : List Addr) (Z : Nat → L2.St → Hp → Prop) (Pv : Nat → L2.St → Hp → Prop) (i : Nat) (σg : L2.St) (Hf : Hp) : Hp → Prop := fun H' => (∀ b ∈ L, H' b = Hf b) ∧ Z (i + 1) σg (drop L H') ∧ Pv (i + 1) σg H'
/-- L: the own addresses of what sleeps; D: the new list -/
def tLcG (sp : SpW) (t : TA) (g : TG) (tt : TT) (te : TE) (vs : List Nat) : TE := fun σ H Q => t σ H fun ws H1 => ∃ N Z Yl En, sp ws H1 N Z Yl En ∧ ∀ L D, (∀ b ∈ L, H1 b = none) → H1 D = none → D ∉ L → ∃ Pv : Nat → L2.St → Hp → Prop,
  (∀ Hf σp, Fz L (upd H1 D (.lst [])) Hf → Pv 0 σp Hf) ∧
  (∀ i σp H x Ho Hf σg, Pv i σp H → Frozen L H → Yl i σp (drop L H) x σg Ho → Z (i + 1) σg Ho → Fz L Ho Hf → (∀ b ∈ L, Ho b = none) → g x (wipe σ vs) Hf fun σ2 H2 => wipe σ2 vs = wipe σ vs ∧ tt σ2 H2 fun b H3 => if b = true then
    te σ2 H3 fun y H4 => ∃ acc, H4 D = some (.lst acc) ∧ acc.length < sizeLine ∧ NxL L Z Pv i σg Hf (upd H4 D (.lst (acc ++ [y]))) else NxL L Z Pv i σg Hf H3) ∧
  ∀ i σp H Ho, Pv i σp H → Frozen L H → En i σp (drop L H) Ho → (∀ b ∈ L, Ho b = none) → Q (.ref D) Ho
section
variable {X : Cx} {k j : Nat} {x : Str} {sp : SpW} {p cp : Pos} {e : Expr} {es : List Expr} {t : TA}
theorem lc_walk {pins : List (Addr × Obj)} {s : Shared} {σ : L2.St} {H : Hp} {Q : VK} {elt tg : Expr} {ifs : List Expr} {scope : Scope} {own_ : List (Str × Nat)} {pos pos' : Pos} {g : TG} {tt : TT} {te : TE} {use : Option (Value → Sem Unit)} {Qf : Value → Shared → Prop}
    (hh : X.A.handled = none) (hN : X.N.Nodup) (I : L2.Inv X pins σ H s) (c : Wlk X.prog X.w X.K X.mg X.base k x sp) (hr : Room j X.A) (hk : k + 2 ≤ j) (hg : Gl X x) (ha : PA X (e :: es) t)
    (hdb : (x == ("__debug__" : Str)) = false) (he : starEach (e :: es) X.env = (false, eval e X.env) :: starEach es X.env) (hpl : (backTo cp (starEach es X.env)).any (·.1) = false) (ok : BlkOk X.N X.env.scope scope own_)
    (pg : ∀ (s : Shared) (H : Hp) (C : Addr) (cl : List (Str × Addr)) (fp : List Addr), PG (X.blk s H scope (compEnvC scope cl C X.env) fp) tg g) (pt : ∀ (s : Shared) (H : Hp) (C : Addr) (cl : List (Str × Addr)) (fp : List Addr), PTs (X.blk s H scope (compEnvC scope cl C X.env) fp) ifs tt)
    (pe : ∀ (s : Shared) (H : Hp) (C : Addr) (cl : List (Str × Addr)) (fp : List Addr), PE (X.blk s H scope (compEnvC scope cl C X.env) fp) elt te) (hs : ∀ v, foldedSetIterable (.Call (.Name x p) (e :: es) [] cp) X.env v = pure v)
    (h : tLcG sp t g tt te (own_.map (·.2)) σ H Q)
    (hRR : ∀ D C s' m H', L2.Inv X pins σ H' s' → Q (.ref D) H' → s'.heap.Ns C m → FpOk X pins H' C → compPost (model X.prog X.w) X.A X.xe use Qf (.ref D) C (.ok .next) s') :
    wpAny (model X.prog X.w) X.A (comprehension (.ListComp elt [⟨tg, .Call (.Name x p) (e :: es) [] cp, ifs, 0⟩] scope pos) scope X.env pos' (newList []) false (eval (.Call (.Name x p) (e :: es) [] cp) X.env) use) Qf X.xe s := by
  have hfree : ∀ y ∈ scope.names, y.2 = .free → ∃ c, X.env.cells.lookup y.1 = some c := fun y hy q => (ok.free y hy q).elim (fun z => I.ok.has _ (.inl z)) fun z => I.ok.has _ (.inr z)
  refine wpAny_comprehension_free (use := use) rfl hs (closure_ok hfree) ok.kind (fun y hy q => by rw [ok.uniq y hy, q]) (thn (call_wlk hh c hr hk hg ha hdb he hpl I h) fun u s2 hq => ?_)
  obtain ⟨N, Z, Yl, En, H1, s1, Nm, qual, scg, f, cdv, a, gi, cd, σ0, rfl, R, hL⟩ := hq
  have hdp : X.A.depth < recursionLimit := by have := hr.dp; omega
  refine wpAny_pyIter_gen R.gen ?_
  refine wpAny_newObj_type (newEnv_comp ?_) (by show 0 ≤ sizeLine; decide)
  generalize hD : s2.heap.objs.size = D
  have hDn : H1 D = none := R.inv.hok.fresh (Nat.le_of_eq hD)
  have hx2 := own_there R.O R.gen
  have hDL : D ∉ a :: own (GX X Nm qual scg f cdv s1 H1) := fun hm => by
    obtain ⟨o, eo⟩ := hx2 D hm
    have := Heap.lt_size eo
    rw [hD] at this
    exact absurd this (Nat.lt_irrefl _)
  obtain ⟨Pv, hP0, hPt, hPe⟩ := hL (a :: own (GX X Nm qual scg f cdv s1 H1)) D R.no hDn hDL
  generalize hs3 : ({ s2 with heap := s2.heap.push { cls := .type "list", data := .seq ([] : List Value).toArray } } : Shared) = s3
  have k23 : ∀ b o, s2.heap.get? b = some o → s3.heap.get? b = some o := fun b o q => by rw [← hs3]; exact Heap.get?_push_of_some _ q
  have I3 : L2.Inv X pins σ (upd H1 D (.lst [])) s3 := by
    rw [← hs3]
    refine R.inv.laid (t' := s2.toks) (fun b o q => Heap.get?_push_of_some _ q) (Nat.le_of_eq hD) ⟨Nat.zero_le _, [], 0, .nil, ?_⟩
    rw [← hD]
    exact Heap.get?_push_size _ rfl
  have no3 : ∀ b ∈ a :: own (GX X Nm qual scg f cdv s1 H1), upd H1 D (.lst []) b = none := fun b hb => by
    have nb : b ≠ D := fun z => hDL (by rw [← z]; exact hb)
    rw [upd_ne nb]
    exact R.no b hb
  have f3 : ∀ b ∈ a :: own (GX X Nm qual scg f cdv s1 H1), FpOk X pins (upd H1 D (.lst [])) b ∧ b < s3.heap.objs.size := fun b hb => by
    obtain ⟨o, eo⟩ := hx2 b hb
    obtain ⟨c1, c2, c3, c4⟩ := R.C.ch b hb
    exact ⟨⟨no3 b hb, c2, R.C.fs b hb, c1, c3, c4⟩, Heap.lt_size (k23 b o eo)⟩
  have I4 := block_start I3 ok hN f3
  have pg' := pg s3 (upd H1 D (.lst [])) s3.heap.objs.size (cellsFrom (s3.heap.objs.size + 1) scope.names (cloFrom X.env.cells scope.names [])) (a :: own (GX X Nm qual scg f cdv s1 H1))
  have pt' := pt s3 (upd H1 D (.lst [])) s3.heap.objs.size (cellsFrom (s3.heap.objs.size + 1) scope.names (cloFrom X.env.cells scope.names [])) (a :: own (GX X Nm qual scg f cdv s1 H1))
  have pe' := pe s3 (upd H1 D (.lst [])) s3.heap.objs.size (cellsFrom (s3.heap.objs.size + 1) scope.names (cloFrom X.env.cells scope.names [])) (a :: own (GX X Nm qual scg f cdv s1 H1))
  show codeAny _ _ (.compStart (.ListComp elt [⟨tg, .Call (.Name x p) (e :: es) [] cp, ifs, 0⟩] scope pos) 0 (.ref a) (.ref D) (compEnvC scope (cellsFrom (s3.heap.objs.size + 1) scope.names (cloFrom X.env.cells scope.names [])) s3.heap.objs.size X.env)) (compPost (model X.prog X.w) X.A X.xe use Qf (.ref D) s3.heap.objs.size) { s3 with heap := pushCells (s3.heap.push { cls := .type "dict", data := .dict #[] }) scope.names }
  generalize hce : compEnvC scope (cellsFrom (s3.heap.objs.size + 1) scope.names (cloFrom X.env.cells scope.names [])) s3.heap.objs.size X.env = ce at I4 pg' pt' pe' ⊢
  have cL : ce.locals = s3.heap.objs.size := by subst hce; rfl
  generalize hH3 : upd H1 D (.lst []) = H3 at I3 I4 pg' pt' pe' no3 f3 hP0
  have z3 : Same H1 H3 := fun b o q => by rw [← hH3, upd_ne (ne_of_none q hDn)]; exact q
  generalize hs4 : ({ s3 with heap := pushCells (s3.heap.push { cls := .type "dict", data := .dict #[] }) scope.names } : Shared) = s4 at I4 ⊢
  have k34 : ∀ b o, s3.heap.get? b = some o → s4.heap.get? b = some o := fun b o q => by rw [← hs4]; exact pushCells_keeps _ _ _ _ (Heap.get?_push_of_some _ q)
  have g4 : s4.gens = s2.gens := by rw [← hs4, ← hs3]
  have Cb : Cons (X.blk s3 H3 scope ce (a :: own (GX X Nm qual scg f cdv s1 H1))) [] (a :: own (GX X Nm qual scg f cdv s1 H1)) :=
    ⟨fun hm => (I4.ok.exf _ hm).1 rfl, fun b hb => I4.ok.exfs b hb, fun b hb => .inl hb, fun y cc q hm => (I4.ok.exf cc hm).2 y cc q rfl, fun pp hp => absurd (show pp ∈ ([] : List (Addr × Obj)) ++ [] from hp) (by simp),
      fun b hb xs q => (by have z := (no3 b hb).symm.trans q; cases z), fun b hb o u q => (by have z := (no3 b hb).symm.trans q; cases z), fun b hb ps q => by have z := (no3 b hb).symm.trans q; cases z⟩
  have gen4 : s4.heap.IsGen a gi := R.gen.keeps fun b o q => k34 b o (k23 b o q)
  have O4 : Own (GX X Nm qual scg f cdv s1 H1) σ0 s4.heap := R.O.keep fun b _ o q => k34 b o (k23 b o q)
  have hx4 := own_there O4 gen4
  have fz0 := frzL_fz (H := H3) hx4
  have J0 : JG (X.blk s3 H3 scope ce (a :: own (GX X Nm qual scg f cdv s1 H1))) (GX X Nm qual scg f cdv s1 H1) [] (a :: own (GX X Nm qual scg f cdv s1 H1)) Z (fun i σp σ' H' => σ' = wipe σ (own_.map (·.2)) ∧ Pv i σp H') 0 s4 (wipe σ (own_.map (·.2)), frzL (a :: own (GX X Nm qual scg f cdv s1 H1)) s4.heap H3, σ0) :=
    ⟨inv_frz Cb I4 no3 hx4, fz0.in_, O4, by rw [show drop _ (wipe σ (own_.map (·.2)), frzL (a :: own (GX X Nm qual scg f cdv s1 H1)) s4.heap H3, σ0).2.1 = H3 from drop_fz fz0 no3]; exact R.z H3 z3, rfl, hP0 _ _ fz0⟩
  have al0 : Alive (X.blk s3 H3 scope ce (a :: own (GX X Nm qual scg f cdv s1 H1))) (GX X Nm qual scg f cdv s1 H1) s1.heap.objs.size [] (a :: own (GX X Nm qual scg f cdv s1 H1)) Z (fun i σp σ' H' => σ' = wipe σ (own_.map (·.2)) ∧ Pv i σp H') Yl En (N + 1) (N + 1) (.fresh cd) := fun s' W' O' => by
    rw [Nat.sub_self] at W'
    exact R.al _ s' W' O'
  have loop : codeAny (model X.prog X.w) X.A (.compLoop (.ListComp elt [⟨tg, .Call (.Name x p) (e :: es) [] cp, ifs, 0⟩] scope pos) 0 (.ref a) (.ref D) ce) (compPost (model X.prog X.w) X.A X.xe use Qf (.ref D) s3.heap.objs.size) s4 := by
    refine compLoop_any (fun m s' => ∃ i, i ≤ N ∧ m = N + 1 - i ∧ (∃ t, JG (X.blk s3 H3 scope ce (a :: own (GX X Nm qual scg f cdv s1 H1))) (GX X Nm qual scg f cdv s1 H1) [] (a :: own (GX X Nm qual scg f cdv s1 H1)) Z (fun i σp σ' H' => σ' = wipe σ (own_.map (·.2)) ∧ Pv i σp H') i s' t) ∧ s'.heap.IsGen a gi ∧ ∃ gs, s'.gens[gi]? = some gs ∧
      Alive (X.blk s3 H3 scope ce (a :: own (GX X Nm qual scg f cdv s1 H1))) (GX X Nm qual scg f cdv s1 H1) s1.heap.objs.size [] (a :: own (GX X Nm qual scg f cdv s1 H1)) Z (fun i σp σ' H' => σ' = wipe σ (own_.map (·.2)) ∧ Pv i σp H') Yl En (N + 1) (N + 1 - i) gs) ?_ (N + 1) ⟨0, Nat.zero_le _, rfl, ⟨_, J0⟩, gen4, _, by rw [g4]; exact R.st, al0⟩
    rintro m s5 ⟨i, hi, rfl, J, hg5, gs, hgs, al⟩
    refine turn_gen (X := X.blk s3 H3 scope ce (a :: own (GX X Nm qual scg f cdv s1 H1))) hh hdp Cb R.hao (by omega) (by omega) R.S J hg5 hgs al (fun σ6 H6 σp xv v Ho σg m s6 y hm6 pv fz6 yl z hn6 rv I6 hx6 hg6 ow6 hgs6 hsy al6 => ?_) fun σ6 H6 σp Ho s6 pv fz6 en hn6 I6 => ?_
    · obtain ⟨es6, pv⟩ := pv
      obtain ⟨go_, nm, qn, ho, hc, hdt, hsl⟩ := hg6
      refine go_of ho hc hdt (by decide) ?_
      have hg6 : s6.heap.IsGen a gi := ⟨go_, nm, qn, ho, hc, hdt, hsl⟩
      have fz4 := frzL_fz (H := Ho) hx6
      have If := inv_frz Cb I6 hn6 hx6
      have i_lt := R.yl _ _ _ _ _ _ yl
      rw [es6] at If
      have stp := hPt i σp H6 xv Ho _ σg pv fz6 yl z fz4 hn6
      refine wpAny_mono (wpAny_sw (sw_dead s6.gens) (pg'.run [] (wg s6 (s6.gens.map dead)) _ _ xv v _ (inv_gens If (bare_dead If.bare)) rv stp)) (fun _ s7 hq7 => ?_) fun z7 s7 hq7 => (hq7.elim fun _ q => q.2.elim)
      obtain ⟨B7, w7, σ7, H7, I7, hw7, q7⟩ := hq7
      refine wpAny_mono (wpAny_sw w7 (pt'.run [] (wg s7 B7) σ7 H7 _ I7 q7)) (fun b s8 hq8 => ?_) fun z8 s8 hq8 => (hq8.elim fun _ q => q.2.elim)
      obtain ⟨B8, w8, H8, I8, q8⟩ := hq8
      -- the turn's end
      have fin : ∀ {s' : Shared} {B : Array GenState} {H' : Hp}, Sw (sleepers s6.gens) B s'.gens → L2.Inv (X.blk s3 H3 scope ce (a :: own (GX X Nm qual scg f cdv s1 H1))) [] σ7 H' (wg s' B) → NxL (a :: own (GX X Nm qual scg f cdv s1 H1)) Z Pv i σg (frzL (a :: own (GX X Nm qual scg f cdv s1 H1)) s6.heap Ho) H' →
          ∃ m', m' < N + 1 - i ∧ ∃ i, i ≤ N ∧ m' = N + 1 - i ∧ (∃ t, JG (X.blk s3 H3 scope ce (a :: own (GX X Nm qual scg f cdv s1 H1))) (GX X Nm qual scg f cdv s1 H1) [] (a :: own (GX X Nm qual scg f cdv s1 H1)) Z (fun i σp σ' H' => σ' = wipe σ (own_.map (·.2)) ∧ Pv i σp H') i s' t) ∧ s'.heap.IsGen a gi ∧ ∃ gs, s'.gens[gi]? = some gs ∧
            Alive (X.blk s3 H3 scope ce (a :: own (GX X Nm qual scg f cdv s1 H1))) (GX X Nm qual scg f cdv s1 H1) s1.heap.objs.size [] (a :: own (GX X Nm qual scg f cdv s1 H1)) Z (fun i σp σ' H' => σ' = wipe σ (own_.map (·.2)) ∧ Pv i σp H') Yl En (N + 1) (N + 1 - i) gs := fun {s' B H'} wB I' nx => by
        obtain ⟨k1, k2, k3⟩ := nx
        have I9 : L2.Inv (X.blk s3 H3 scope ce (a :: own (GX X Nm qual scg f cdv s1 H1))) [] σ7 H' s' := inv_gens (s := wg s' B) (G := s'.gens) I' (bare_sw wB If.bare I'.bare)
        have hl : (wipe σ (own_.map (·.2))).length = σ7.length := by rw [← hw7, wipe_length]
        have I10 := I9.weak hl fun jj vv ee => by
          rw [← hw7] at ee
          exact (wipe_some ee).1
        refine ⟨N + 1 - (i + 1), by omega, i + 1, i_lt, rfl, ⟨(wipe σ (own_.map (·.2)), H', σg), I10, fun b hb' => ?_, own_frz (fun b hb' => List.mem_cons_of_mem _ hb') ow6 I9.hok k1, k2, rfl, k3⟩, gen_frz List.mem_cons_self hg6 I9.hok k1, y, wB.stays hgs6 hsy, ?_⟩
        · show ∃ o, H' b = _
          rw [k1 b hb']
          exact fz4.in_ b hb'
        · have em : m = N + 1 - (i + 1) := by omega
          rw [← em]
          exact al6
      cases b with
      | false =>
        simp only [Bool.false_eq_true, if_false] at q8 ⊢
        exact fin w8 I8 q8
      | true =>
        simp only [if_true] at q8 ⊢
        refine wpAny_mono (wpAny_sw w8 (pe'.run [] (wg s8 B8) σ7 H8 _ I8 q8)) (fun zv s9 hq9 => ?_) fun z9 s9 hq9 => (hq9.elim fun _ q => q.2.elim)
        obtain ⟨B9, w9, yv, H9, I9, r9, acc, hD9, hz9, nx⟩ := hq9
        refine wpAny_mono (wpAny_sw w9 (app_ok (X := X.blk s3 H3 scope ce (a :: own (GX X Nm qual scg f cdv s1 H1))) (E := fun _ _ => False) (Q := fun _ s' => L2.Inv (X.blk s3 H3 scope ce (a :: own (GX X Nm qual scg f cdv s1 H1))) [] σ7 (upd H9 D (.lst (acc ++ [yv]))) s') I9 hD9 hz9 r9 fun s' I' => I')) (fun _ s10 hq10 => ?_) fun z10 s10 hq10 => (hq10.elim fun _ q => q.2.elim)
        obtain ⟨B10, w10, I10⟩ := hq10
        exact fin w10 I10 nx
    · obtain ⟨rfl, pv⟩ := pv
      have I7 : L2.Inv X pins σ Ho s6 := I3.call' (ch := a :: own (GX X Nm qual scg f cdv s1 H1)) I6.os I6.base I6.hok I6.bare fun b hb => ⟨(f3 b hb).1.2.2.2.1, (f3 b hb).1.2.1, (f3 b hb).1.2.2.2.2.1, (f3 b hb).1.2.2.2.2.2⟩
      have nC : Ho s3.heap.objs.size = none := by
        have q : Ho ce.locals = none := I6.free
        rw [cL] at q
        exact q
      obtain ⟨mm, hn, _⟩ := I6.loc
      have hn : s6.heap.Ns ce.locals mm := hn
      rw [cL] at hn
      exact hRR D s3.heap.objs.size s6 mm Ho I7 (hPe i σp H6 Ho pv fz6 en hn6) hn (I3.fpOk (Nat.le_refl _) nC)
  exact codeAny_compStart_list loop (wpAny_pyIter_gen gen4 loop)
/-- as a value -/
theorem pe_lcG {elt tg : Expr} {ifs : List Expr} {scope : Scope} {own_ : List (Str × Nat)} {pos : Pos} {g : TG} {tt : TT} {te : TE} (hN : X.N.Nodup) (hh : X.A.handled = none) (c : Wlk X.prog X.w X.K X.mg X.base k x sp) (hr : Room j X.A) (hk : k + 2 ≤ j) (hg : Gl X x) (ha : PA X (e :: es) t) (ok : BlkOk X.N X.env.scope scope own_)
    (pg : ∀ (s : Shared) (H : Hp) (C : Addr) (cl : List (Str × Addr)) (fp : List Addr), PG (X.blk s H scope (compEnvC scope cl C X.env) fp) tg g) (pt : ∀ (s : Shared) (H : Hp) (C : Addr) (cl : List (Str × Addr)) (fp : List Addr), PTs (X.blk s H scope (compEnvC scope cl C X.env) fp) ifs tt)
    (pe : ∀ (s : Shared) (H : Hp) (C : Addr) (cl : List (Str × Addr)) (fp : List Addr), PE (X.blk s H scope (compEnvC scope cl C X.env) fp) elt te)
    (hdb : (x == ("__debug__" : Str)) = false := by decide) (he : starEach (e :: es) X.env = (false, eval e X.env) :: starEach es X.env := by rfl) (hpl : (backTo cp (starEach es X.env)).any (·.1) = false := by rfl) (hs : ∀ v, foldedSetIterable (.Call (.Name x p) (e :: es) [] cp) X.env v = pure v := by intro _; rfl) :
    PE X (.ListComp elt [⟨tg, .Call (.Name x p) (e :: es) [] cp, ifs, 0⟩] scope pos) (tLcG sp t g tt te (own_.map (·.2))) := by
  refine ⟨fun pins s σ H Q I h => ?_⟩
  rw [eval_ListComp]
  refine lc_walk hh hN I c hr hk hg ha hdb he hpl ok pg pt pe hs h fun D C s' m H' I' q hn f => ⟨m, hn, fun h'' sb => ?_⟩
  exact ⟨.ref D, H', I'.turned (t' := s'.toks) (fun b o hb z => (sb.2 b hb).trans z) f.1 f.2.1 f.2.2.2.1 f.2.2.2.2.1 f.2.2.2.2.2, rfl, q⟩
/-- y = [..] on one row, y a local -/
theorem ps_setLcG {i : Nat} {y : Str} {py spos : Pos} {elt tg : Expr} {ifs : List Expr} {scope : Scope} {own_ : List (Str × Nat)} {pos : Pos} {g : TG} {tt : TT} {te : TE} (hN : X.N.Nodup) (hh : X.A.handled = none) (hy : X.N[i]? = some y) (hyl : X.env.scope.names.lookup y = some .local)
    (hsw : swapsWith (.ListComp elt [⟨tg, .Call (.Name x p) (e :: es) [] cp, ifs, 0⟩] scope pos) (some (.Name y py)) spos.line X.env = pure true) (c : Wlk X.prog X.w X.K X.mg X.base k x sp) (hr : Room j X.A) (hk : k + 2 ≤ j) (hg : Gl X x) (ha : PA X (e :: es) t) (ok : BlkOk X.N X.env.scope scope own_)
    (pg : ∀ (s : Shared) (H : Hp) (C : Addr) (cl : List (Str × Addr)) (fp : List Addr), PG (X.blk s H scope (compEnvC scope cl C X.env) fp) tg g) (pt : ∀ (s : Shared) (H : Hp) (C : Addr) (cl : List (Str × Addr)) (fp : List Addr), PTs (X.blk s H scope (compEnvC scope cl C X.env) fp) ifs tt)
    (pe : ∀ (s : Shared) (H : Hp) (C : Addr) (cl : List (Str × Addr)) (fp : List Addr), PE (X.blk s H scope (compEnvC scope cl C X.env) fp) elt te)
    (hdb : (x == ("__debug__" : Str)) = false := by decide) (he : starEach (e :: es) X.env = (false, eval e X.env) :: starEach es X.env := by rfl) (hpl : (backTo cp (starEach es X.env)).any (·.1) = false := by rfl) (hs : ∀ v, foldedSetIterable (.Call (.Name x p) (e :: es) [] cp) X.env v = pure v := by intro _; rfl) :
    PS X (.Assign [.Name y py] (.ListComp elt [⟨tg, .Call (.Name x p) (e :: es) [] cp, ifs, 0⟩] scope pos) spos) (tAsg (tLcG sp t g tt te (own_.map (·.2))) (gName i)) := by
  refine ⟨fun pins s σ H D I h => ?_⟩
  rw [exec_Assign_Name_used _ _ _ _ hsw]
  refine wpAny_bind (wpAny_standAt (wpAny_bind ?_))
  show wpAny _ X.A (do let _ ← comprehension (.ListComp elt [⟨tg, .Call (.Name x p) (e :: es) [] cp, ifs, 0⟩] scope pos) scope X.env (firstIterPos [⟨tg, .Call (.Name x p) (e :: es) [] cp, ifs, 0⟩] pos) (newList []) false (eval (.Call (.Name x p) (e :: es) [] cp) X.env) (some (assign (.Name y py) X.env))) _ _ s
  have h : tLcG sp t g tt te (own_.map (·.2)) σ H (fun v H1 => gName i v σ H1 D.nx) := h
  refine wpAny_bind (thn (lc_walk (Qf := fun _ s' => SP X pins D .next s') hh hN I c hr hk hg ha hdb he hpl ok pg pt pe hs h fun D' C s' m H' I' q hn f => ?_) fun _ s' hq => wpAny_pure (wpAny_pure hq))
  show wpAny _ _ (assign (.Name y py) X.env (.ref D')) _ _ _
  refine wpAny_assign_Name (store_ok2 (v := V.ref D') I' hN hy (.inl hyl) rfl (fun s2 I2 ⟨b, sb, hb⟩ => ?_) (.inr hyl))
  have nC : C ≠ b := hb.elim (fun z => by rw [z]; exact f.2.1) fun z q' => f.2.2.2.2.1 y b z q'.symm
  exact ⟨m, hn.sameBut sb nC, fun h3 sb3 => ⟨_, H', I2.turned (t' := s2.toks) (fun b' o hb' z => (sb3.2 b' hb').trans z) f.1 f.2.1 f.2.2.2.1 f.2.2.2.2.1 f.2.2.2.2.2, q⟩⟩
end
end VG

set_option Elab.async false
set_option linter.all false
set_option maxRecDepth 100000
set_option maxHeartbeats 4000000
/-! dict(pairs) of a tuple of pairs; tuple(list) whose answer is known to have no dict -/
namespace VL
open PySem PySem.Spec PyProof.Rows L2
variable {X : Cx}
/-- tuple(list): the new tuple stands as a raw object -/
theorem call_tupleF : CallR X (.type "tuple") (fun xs H Q => ∃ p ys, xs = [.ref p] ∧ SqL X.K H p ys ∧ ∀ l o, H l = none → o.dict = none → Q (.ref l) (upd H l (.frz o (.tup ys)))) := by
  intro pins s σ H xs us Q I r h
  obtain ⟨p, ys, rfl, hq, q⟩ := h
  obtain ⟨u, rfl, rx⟩ := vals1 r
  cases rx
  obtain ⟨its, r', pl, hz⟩ := I.list hq
  have hlen := r'.length
  refine call_tuple_list pl.isList (fun h' kp => ?_) (by simp only [List.size_toArray] <;> omega)
  have I1 : Inv X pins σ H { s with heap := h' } := I.kept (t' := s.toks) kp
  have I2 : Inv X pins σ (upd H h'.objs.size (.frz { cls := .type "tuple", data := .seq its.toArray } (.tup ys))) { s with heap := h'.push { cls := .type "tuple", data := .seq its.toArray } } :=
    I1.laid (t' := s.toks) (fun b o e => Heap.get?_push_of_some _ e) (Nat.le_refl _) (show ObjOk X.prog X.w _ _ _ (.frz _ (.tup ys)) from ⟨Heap.get?_push_size _ rfl, hz, its, r', IsTup.new _ _⟩)
  exact ⟨.ref h'.objs.size, _, I2, rfl, q _ _ (I1.hok.fresh (Nat.le_refl _)) rfl⟩
theorem pairs_ofU {pins : List (Addr × Obj)} {σ : L2.St} {H : Hp} {s : Shared} (I : Inv X pins σ H s) : ∀ {ps : List Addr} {kvs : List (Key × V)}, Paired (fun p kv => SqT X.K H p [kV kv.1, kv.2]) ps kvs →
    ∃ (prs : List (Key × Value)) (us : List (Value × Value)), KV kvs prs ∧ prs.length = ps.length ∧ us.length = ps.length ∧ ∀ (j : Nat) (k v : Value), us[j]? = some (k, v) → ∃ (b : Addr) (key : Key), ps[j]? = some b ∧ IsTup s.heap b #[k, v] ∧ prs[j]? = some (key, v) ∧ keyIs key k = true
  | _, _, .nil => ⟨[], [], .nil, rfl, rfl, fun j k v e => by simp at e⟩
  | _, _, .cons (a := p) (b := kv) h t => by
    obtain ⟨prs, us, r, hl, hu, hp⟩ := pairs_ofU I t
    obtain ⟨its, rv, ht, _⟩ := I.tuple h
    obtain ⟨u, y, ei, ru, ry⟩ := vals2 rv
    subst ei
    refine ⟨(kv.1, y) :: prs, (u, y) :: us, .cons ⟨rfl, ry⟩ r, by rw [List.length_cons, List.length_cons, hl], by rw [List.length_cons, List.length_cons, hu], fun j k v e => ?_⟩
    cases j with
    | zero =>
      have e' : (u, y) = (k, v) := Option.some.inj e
      cases e'
      exact ⟨p, kv.1, rfl, ht, rfl, kV_is (P := X.prog) (w := X.w) ru⟩
    | succ j =>
      obtain ⟨b, key, e1, e2, e3, e4⟩ := hp j k v (by simpa using e)
      exact ⟨b, key, by simpa using e1, e2, by simpa using e3, e4⟩
/-- dict(xs) of a tuple of pairs (key, value), the tuple's raw object being known -/
theorem call_dictT (hcalm : X.calm = true) : CallR X (.type "dict") (fun xs H Q => ∃ (a : Addr) (o : Obj) (ps : List Addr) (kvs : List (Key × V)), xs = [.ref a] ∧ H a = some (.frz o (.tup (ps.map V.ref))) ∧ o.dict = none ∧ Paired (fun p kv => SqT X.K H p [kV kv.1, kv.2]) ps kvs ∧
    ∀ p, H p = none → Q (.ref p) (upd H p (.dK (mergeK [] kvs)))) := by
  intro pins s σ H xs us Q I r q
  obtain ⟨a, o, ps, kvs, ex, hq, hod, hp, q⟩ := q
  subst ex
  obtain ⟨u, eu, rx⟩ := vals1 r
  subst eu
  cases rx
  obtain ⟨ho, hz, its, rv, o', ho', hc, n, hdat⟩ := (show ObjOk X.prog X.w H s.heap a (.frz o (.tup (ps.map V.ref))) from I.hok a _ hq)
  rw [ho] at ho'
  cases ho'
  have ei := refs_at rv
  subst ei
  rw [List.length_map] at hz
  obtain ⟨prs, us, rel, hl, hul, hpr⟩ := pairs_ofU I hp
  have hps : PairItems s.heap (ps.map Value.ref).toArray (fun j => ps[j]?.getD 0) us := by
    refine ⟨by simp [hul], fun j k v e => ?_⟩
    obtain ⟨b, key, e1, e2, e3, e4⟩ := hpr j k v e
    obtain ⟨o2, h2, h3, n2, h4⟩ := id e2
    exact ⟨by simp [e1], by simp only [e1, Option.getD_some]; exact .inl ⟨o2, h2, h3, n2, h4⟩⟩
  have hseq : PlainSeq "tuple" s.heap a (ps.map Value.ref).toArray := ⟨o, n, ho, hc, hod, hdat⟩
  refine PySem.call_dict_pairs (knd := mixKind X.prog X.w) (kvs := prs) (PairArg.tuple a _ _ us) (I.ok.hd hcalm) ⟨hseq, hps⟩ ⟨by rw [hl, hul], fun i key v e => ?_⟩ (by rw [hul]; exact hz) fun h' tk hd' k => ?_
  · obtain ⟨b, kk, e1, e2, e3, e4⟩ := hpr i key v e
    exact ⟨kk, e3, e4⟩
  · have hm : (s.heap.objs.size == sysModules) = false := beq_eq_false_iff_ne.mpr (Nat.ne_of_gt I.big)
    have hlen : (mergeK [] kvs).length ≤ sizeLine := by
      refine Nat.le_trans (length_mergeK kvs []) ?_
      rw [List.length_nil, Nat.zero_add, rel.length, hl]
      exact hz
    exact ⟨.ref s.heap.objs.size, upd H s.heap.objs.size (.dK (mergeK [] kvs)), I.laid (t' := tk) (fun b o e => k b o (fun z => nomatch z) e) (Nat.le_refl _) (show ObjOk X.prog X.w _ _ _ (.dK (mergeK [] kvs)) from ⟨hlen, hm, merged [] prs, KV.merge rel .nil, hd'⟩), rfl, q _ (I.hok.fresh (Nat.le_refl _))⟩
end VL

set_option Elab.async false
set_option linter.all false
set_option maxRecDepth 100000
set_option maxHeartbeats 4000000
/-! documents: nodes with numbers, attributes, kids -/
namespace VL
open PySem PySem.Spec PyProof.Rows L2
inductive Dn where
  | tx (n : Int) (x : Str)
  | el (n : Int) (t : Str) (as : List (Str × Str)) (ks : List Dn)
def Dn.num : Dn → Int
  | .tx n _ => n
  | .el n _ _ _ => n
def Dn.kids : Dn → List Dn
  | .tx _ _ => []
  | .el _ _ _ ks => ks
def Dn.isE : Dn → Bool
  | .tx _ _ => false
  | .el _ _ _ _ => true
mutual
def it (l : Int) : Dn → List (Int × Dn)
  | .tx n x => [(l, .tx n x)]
  | .el n t as ks => (l, .el n t as ks) :: itS (l + 1) ks
def itS (l : Int) : List Dn → List (Int × Dn)
  | [] => []
  | d :: r => it l d ++ itS l r
end
theorem it_eq (l : Int) : ∀ d : Dn, it l d = (l, d) :: itS (l + 1) d.kids
  | .tx n x => by simp only [it, Dn.kids, itS]
  | .el n t as ks => by simp only [it, Dn.kids]
theorem itS_app (l : Int) : ∀ a b : List Dn, itS l (a ++ b) = itS l a ++ itS l b
  | [], b => by simp only [itS, List.nil_append]
  | d :: r, b => by simp only [List.cons_append, itS, itS_app l r b, List.append_assoc]
def rest (st : List (Int × Dn)) : List (Int × Dn) := st.reverse.flatMap fun p => it p.1 p.2
theorem rest_snoc (st : List (Int × Dn)) (l : Int) (d : Dn) : rest (st ++ [(l, d)]) = it l d ++ rest st := by simp [rest]
theorem rest_kids (l : Int) : ∀ (ks : List Dn) (st : List (Int × Dn)), rest (st ++ ks.reverse.map fun d => (l, d)) = itS l ks ++ rest st
  | [], st => by simp [itS]
  | d :: r, st => by
    rw [List.reverse_cons, List.map_append, ← List.append_assoc, List.map_cons, List.map_nil, rest_snoc, rest_kids l r st]
    simp only [itS, List.append_assoc]
theorem rest_len : ∀ st : List (Int × Dn), st.length ≤ (rest st).length := fun st => by
  unfold rest
  rw [List.length_flatMap]
  have : ∀ l : List (Int × Dn), l.length ≤ (l.map fun p => (it p.1 p.2).length).sum := fun l => by
    induction l with
    | nil => simp
    | cons p l ih =>
      rw [List.map_cons, List.sum_cons, List.length_cons, it_eq]
      simp only [List.length_cons]
      omega
  have := this st.reverse
  simpa using this
theorem itS_len (l : Int) : ∀ ks : List Dn, ks.length ≤ (itS l ks).length
  | [] => by simp [itS]
  | d :: r => by
    have ih := itS_len l r
    simp only [itS, it_eq, List.length_cons, List.length_append]
    omega
def pairP (a : Str × Str) : PyData := .tuple [.str a.1, .str a.2]
/-- the attributes' tuple: no dict hangs on it -/
def AtA (H : Hp) (v : V) (as : List (Str × Str)) : Prop := ∃ (a : Addr) (o : Obj) (ps : List Addr), v = .ref a ∧ H a = some (.frz o (.tup (ps.map V.ref))) ∧ o.dict = none ∧ Paired (fun p (x : Str × Str) => H p = some (.tup [.str x.1, .str x.2])) ps as
theorem AtA.same {H H' : Hp} {v : V} {as : List (Str × Str)} (s : Same H H') (h : AtA H v as) : AtA H' v as := by
  obtain ⟨a, o, ps, rfl, h1, h2, h3⟩ := h
  refine ⟨a, o, ps, rfl, s _ _ h1, h2, ?_⟩
  clear h1
  induction h3 with
  | nil => exact .nil
  | cons h t ih => exact .cons (s _ _ h) ih
mutual
inductive NdA (H : Hp) : V → Dn → Prop
  | tx {a : Addr} {n : Int} {x : Str} : H a = some (.tup [.str "text", .int n, .str x]) → NdA H (.ref a) (.tx n x)
  | el {a pk : Addr} {n : Int} {t : Str} {va : V} {as : List (Str × Str)} {vs : List V} {ks : List Dn} : H a = some (.tup [.str "element", .int n, .str t, va, .ref pk]) → AtA H va as → H pk = some (.tup vs) → NdAs H vs ks → NdA H (.ref a) (.el n t as ks)
inductive NdAs (H : Hp) : List V → List Dn → Prop
  | nil : NdAs H [] []
  | cons {v : V} {vs : List V} {d : Dn} {ds : List Dn} : NdA H v d → NdAs H vs ds → NdAs H (v :: vs) (d :: ds)
end
mutual
theorem NdA.same {H H' : Hp} (s : Same H H') : ∀ {v : V} {d : Dn}, NdA H v d → NdA H' v d
  | _, _, .tx h => .tx (s _ _ h)
  | _, _, .el h ha hk hs => .el (s _ _ h) (ha.same s) (s _ _ hk) (NdAs.same s hs)
theorem NdAs.same {H H' : Hp} (s : Same H H') : ∀ {vs : List V} {ds : List Dn}, NdAs H vs ds → NdAs H' vs ds
  | _, _, .nil => .nil
  | _, _, .cons a b => .cons (NdA.same s a) (NdAs.same s b)
end
theorem NdAs.paired {H : Hp} : ∀ {vs : List V} {ds : List Dn}, NdAs H vs ds → Paired (NdA H) vs ds
  | _, _, .nil => .nil
  | _, _, .cons a b => .cons a (NdAs.paired b)
theorem NdAs.of {H : Hp} : ∀ {vs : List V} {ds : List Dn}, Paired (NdA H) vs ds → NdAs H vs ds
  | _, _, .nil => .nil
  | _, _, .cons a b => .cons a (NdAs.of b)
theorem NdAs.len {H : Hp} : ∀ {vs : List V} {ds : List Dn}, NdAs H vs ds → vs.length = ds.length
  | _, _, .nil => rfl
  | _, _, .cons _ h => by simp [NdAs.len h]
theorem NdAs.app {H : Hp} : ∀ {vs : List V} {ds : List Dn} {ws : List V} {es : List Dn}, NdAs H vs ds → NdAs H ws es → NdAs H (vs ++ ws) (ds ++ es)
  | _, _, _, _, .nil, h => h
  | _, _, _, _, .cons a b, h => .cons a (NdAs.app b h)
theorem paired_rev {α β : Type} {R : α → β → Prop} : ∀ {xs : List α} {ys : List β}, Paired R xs ys → Paired R xs.reverse ys.reverse := by
  have ap : ∀ {xs : List α} {ys : List β} {x : α} {y : β}, Paired R xs ys → R x y → Paired R (xs ++ [x]) (ys ++ [y]) := by
    intro xs ys x y h r
    induction h with
    | nil => exact .cons r .nil
    | cons h t ih => exact .cons h ih
  intro xs ys h
  induction h with
  | nil => exact .nil
  | cons h t ih =>
    rw [List.reverse_cons, List.reverse_cons]
    exact ap ih h
theorem NdAs.rev {H : Hp} {vs : List V} {ds : List Dn} (h : NdAs H vs ds) : NdAs H vs.reverse ds.reverse := .of (paired_rev h.paired)
theorem NdAs.get {H : Hp} : ∀ {vs : List V} {ds : List Dn}, NdAs H vs ds → ∀ {i : Nat} {v : V}, vs[i]? = some v → ∃ d, ds[i]? = some d ∧ NdA H v d
  | _, _, .cons a b, 0, v, e => by
    have : _ = v := Option.some.inj e
    subst this
    exact ⟨_, rfl, a⟩
  | _, _, .cons a b, i + 1, v, e => by
    obtain ⟨d, h1, h2⟩ := NdAs.get b (by simpa using e)
    exact ⟨d, by simpa using h1, h2⟩
  | _, _, .nil, i, v, e => by simp at e
/-- what waits: pairs (level, node) -/
def StA (H0 H : Hp) (ws : List V) (st : List (Int × Dn)) : Prop := Paired (fun (v : V) (p : Int × Dn) => ∃ t u, v = .ref t ∧ H t = some (.tup [.int p.1, u]) ∧ NdA H0 u p.2) ws st
theorem StA.len {H0 H : Hp} {ws : List V} {st : List (Int × Dn)} (h : StA H0 H ws st) : ws.length = st.length := Paired.length h
theorem StA.snoc {H0 H : Hp} {ws : List V} {st : List (Int × Dn)} {t : Addr} {u : V} {l : Int} {d : Dn} (h : StA H0 H ws st) (ht : H t = some (.tup [.int l, u])) (hu : NdA H0 u d) : StA H0 H (ws ++ [.ref t]) (st ++ [(l, d)]) := by
  unfold StA at h
  induction h with
  | nil => exact .cons ⟨t, u, rfl, ht, hu⟩ .nil
  | cons a b ih => exact .cons a ih
/-- kept by what keeps tuples -/
theorem StA.keep {H0 H H' : Hp} {ws : List V} {st : List (Int × Dn)} (h : StA H0 H ws st) (k : ∀ b xs, H b = some (.tup xs) → H' b = some (.tup xs)) : StA H0 H' ws st := by
  unfold StA at h ⊢
  induction h with
  | nil => exact .nil
  | cons a b ih =>
    obtain ⟨t, u, e, ht, hu⟩ := a
    exact .cons ⟨t, u, e, k _ _ ht, hu⟩ ih
theorem StA.last {H0 H : Hp} {ws : List V} {st : List (Int × Dn)} (h : StA H0 H ws st) (hn : 0 < ws.length) : ∃ ws' st' t u l d, ws = ws' ++ [.ref t] ∧ st = st' ++ [(l, d)] ∧ StA H0 H ws' st' ∧ H t = some (.tup [.int l, u]) ∧ NdA H0 u d := by
  unfold StA at h
  induction h with
  | nil => exact absurd hn (by decide)
  | @cons v p vs ps a b ih =>
    obtain ⟨t, u, e, ht, hu⟩ := a
    cases b with
    | nil => exact ⟨[], [], t, u, p.1, p.2, by rw [e]; rfl, rfl, .nil, ht, hu⟩
    | cons a' b' =>
      obtain ⟨ws', st', t', u', l', d', e1, e2, h1, h2, h3⟩ := ih (by simp)
      exact ⟨v :: ws', p :: st', t', u', l', d', by rw [e1]; rfl, by rw [e2]; rfl, .cons ⟨t, u, e, ht, hu⟩ h1, h2, h3⟩
end VL

set_option Elab.async false
set_option linter.all false
set_option maxRecDepth 100000
set_option maxHeartbeats 4000000
/-! walk(document): what it hands out, what it keeps -/
namespace VL
open PySem PySem.Spec PyProof.Rows L2
theorem walk_revT {K : PySem.W.Frag} {a : Addr} {xs : List V} : Walk (RT.ItvT K a xs.length) xs.length (fun H => SqT K H a xs) (fun i H x H' => H' = H ∧ xs[xs.length - 1 - i]? = some x) :=
  ⟨fun i _ hi q => ⟨hi, xs, xs[xs.length - 1 - i]'(by omega), q, by simp [show xs.length - 1 - i < xs.length by omega]⟩, fun _ _ => Nat.le_refl _, fun _ _ _ _ _ q y => ⟨y.1, y.2 xs q⟩⟩
theorem Sm.new {t : Addr} {o : HO} {H : Hp} (h : H t = none) : Same H (upd H t o) := fun b u e => by rw [upd_ne (ne_of_none e h)]; exact e
theorem ps_const {X : Cx} {st : Stmt} {t : Shared → Hp → TS} (h : ∀ s0 H0, PS (VG.re X s0 H0) st (t s0 H0)) (s1 : Shared) (H1 : Hp) (e : ∀ s0 H0, t s0 H0 = t s1 H1) : ∀ s0 H0, PS (VG.re X s0 H0) st (t s1 H1) := fun s0 H0 => by rw [← e s0 H0]; exact h s0 H0
theorem pt_const {X : Cx} {st : Expr} {t : Shared → Hp → TT} (h : ∀ s0 H0, PT (VG.re X s0 H0) st (t s0 H0)) (s1 : Shared) (H1 : Hp) (e : ∀ s0 H0, t s0 H0 = t s1 H1) : ∀ s0 H0, PT (VG.re X s0 H0) st (t s1 H1) := fun s0 H0 => by rw [← e s0 H0]; exact h s0 H0
theorem fz_same {L : List Addr} {Ho Hf : Hp} (z : VG.Fz L Ho Hf) (n : ∀ b ∈ L, Ho b = none) : Same Ho Hf := fun b o e => by
  rw [z.out b fun m => by rw [n b m] at e; cases e]
  exact e
theorem drop_same {L : List Addr} {Ho Hf H' : Hp} (z : VG.Fz L Ho Hf) (n : ∀ b ∈ L, Ho b = none) (s : Same Hf H') : Same Ho (VG.drop L H') := fun b o e => by
  rw [VG.drop_out fun m => by rw [n b m] at e; cases e]
  exact s _ _ (fz_same z n _ _ e)
theorem keep_L {L : List Addr} {Ho Hf H' : Hp} (z : VG.Fz L Ho Hf) (s : Same Hf H') : ∀ b ∈ L, H' b = Hf b := fun b hb => by
  obtain ⟨o, e⟩ := z.in_ b hb
  rw [e]
  exact s _ _ e
theorem fz_in {L : List Addr} {Ho Hf : Hp} (z : VG.Fz L Ho Hf) {b : Addr} (h : b ∈ L) : ∃ o, Hf b = some (VG.fz o) := z.in_ b h
/-- all but the list of what waits is kept -/
def KeptBut (wl : Addr) (H H' : Hp) : Prop := ∀ b o, H b = some o → b ≠ wl → H' b = some o
def zW (H0 : Hp) (a : Addr) (ks : List Dn) : Nat → L2.St → Hp → Prop
  | 0, σ, H => σ = [some (.ref a), none, none, none, none] ∧ Same H0 H
  | i + 1, σ, H => ∃ (wl : Addr) (ws : List V) (st : List (Int × Dn)) (lv : Int) (d : Dn) (v : V) (y4 : Option V), σ = [some (.ref a), some v, some (.ref wl), some (.int lv), y4] ∧ Same H0 H ∧ H0 wl = none ∧ H wl = some (.lst ws) ∧ StA H0 H ws st ∧ NdA H0 v d ∧
      (itS 1 ks)[i]? = some (lv, d) ∧ (itS 1 ks).drop (i + 1) = itS (lv + 1) d.kids ++ rest st
theorem zW_same {H0 : Hp} {a : Addr} {ks : List Dn} {i : Nat} {σ : L2.St} {H H' : Hp} (h : zW H0 a ks i σ H) (s : Same H H') : zW H0 a ks i σ H' := by
  cases i with
  | zero => exact ⟨h.1, Same.trans h.2 s⟩
  | succ i =>
    obtain ⟨wl, ws, st, lv, d, v, y4, e, h1, h2, h3, h4, h5, h6⟩ := h
    exact ⟨wl, ws, st, lv, d, v, y4, e, Same.trans h1 s, h2, s _ _ h3, h4.keep fun b xs e => s _ _ e, h5, h6⟩
def yW (H0 : Hp) (its : List (Int × Dn)) (i : Nat) (σp : L2.St) (H : Hp) (x : V) (σg : L2.St) (Ho : Hp) : Prop := i < its.length ∧ ∃ (wl t : Addr) (v : V) (lv : Int) (d : Dn), x = .ref t ∧ Ho t = some (.tup [.int lv, v]) ∧ NdA H0 v d ∧ its[i]? = some (lv, d) ∧
  KeptBut wl H Ho ∧ H0 wl = none ∧ σg[2]? = some (some (.ref wl)) ∧ (0 < i → σp[2]? = some (some (.ref wl))) ∧ (i = 0 → H wl = none) ∧ Same H0 Ho
def eW (H0 : Hp) (its : List (Int × Dn)) (i : Nat) (σp : L2.St) (H : Hp) (Ho : Hp) : Prop := its.length ≤ i ∧ ∃ wl, KeptBut wl H Ho ∧ H0 wl = none ∧ (0 < i → σp[2]? = some (some (.ref wl))) ∧ (i = 0 → H wl = none) ∧ Same H0 Ho
def hW (H0 : Hp) (a : Addr) (ks : List Dn) (i : Nat) (σp : L2.St) (H : Hp) (σ : L2.St) (Hg : Hp) : Prop := ∃ (wl : Addr) (ws : List V) (st : List (Int × Dn)) (y1 y3 y4 : Option V), σ = [some (.ref a), y1, some (.ref wl), y3, y4] ∧ Same H0 H ∧ H0 wl = none ∧ Hg wl = some (.lst ws) ∧ StA H0 Hg ws st ∧
  (itS 1 ks).drop i = rest st ∧ KeptBut wl H Hg ∧ (0 < i → σp[2]? = some (some (.ref wl))) ∧ (i = 0 → H wl = none)
def spWalk : VG.SpW := fun vs H0 N Z Yl En => ∃ (a : Addr) (xs : List V) (ks : List Dn), vs = [.ref a] ∧ H0 a = some (.tup xs) ∧ NdAs H0 xs ks ∧ (itS 1 ks).length ≤ 1000 ∧ N = (itS 1 ks).length ∧ Z = zW H0 a ks ∧ Yl = yW H0 (itS 1 ks) ∧ En = eW H0 (itS 1 ks)
end VL

set_option Elab.async false
set_option linter.all false
set_option maxRecDepth 100000
set_option maxHeartbeats 4000000
/-! nodes with what stands around them -/
namespace VL
open PySem PySem.Spec PyProof.Rows L2
mutual
def an (ar : List Dn) : Dn → List (Dn × List Dn)
  | .tx n x => [(.tx n x, ar)]
  | .el n t as ks => (.el n t as ks, ar) :: anS (ar ++ [.el n t as ks]) ks
def anS (ar : List Dn) : List Dn → List (Dn × List Dn)
  | [] => []
  | d :: r => an ar d ++ anS ar r
end
mutual
theorem it_an (ar : List Dn) : ∀ d : Dn, it ((ar.length : Int) + 1) d = (an ar d).map fun p => ((p.2.length : Int) + 1, p.1)
  | .tx n x => by simp only [it, an, List.map_cons, List.map_nil]
  | .el n t as ks => by
    have ih := itS_an (ar ++ [.el n t as ks]) ks
    rw [List.length_append] at ih
    simp only [it, an, List.map_cons]
    rw [← ih]
    rfl
theorem itS_an (ar : List Dn) : ∀ ks : List Dn, itS ((ar.length : Int) + 1) ks = (anS ar ks).map fun p => ((p.2.length : Int) + 1, p.1)
  | [] => by simp only [itS, anS, List.map_nil]
  | d :: r => by
    simp only [itS, anS, List.map_append]
    rw [it_an ar d, itS_an ar r]
end
/-- each next one stands within what the one before leaves -/
inductive Run {α : Type} (R : α → α → Prop) : List α → Prop
  | nil : Run R []
  | one (a : α) : Run R [a]
  | cons {a b : α} {l : List α} : R a b → Run R (b :: l) → Run R (a :: b :: l)
theorem Run.app {α : Type} {R : α → α → Prop} : ∀ {l m : List α}, Run R l → Run R m → (∀ p ∈ l, ∀ q, m.head? = some q → R p q) → Run R (l ++ m)
  | [], m, _, h, _ => h
  | [a], [], _, _, _ => .one a
  | [a], b :: m, _, h, f => .cons (f a (by simp) b rfl) h
  | a :: b :: l, m, .cons r h1, h, f => .cons r (Run.app h1 h fun p hp => f p (List.mem_cons_of_mem _ hp))
theorem Run.at {α : Type} {R : α → α → Prop} : ∀ {l : List α}, Run R l → ∀ {i : Nat} {p q : α}, l[i]? = some p → l[i + 1]? = some q → R p q
  | _, .nil, i, p, q, h, _ => by simp at h
  | _, .one a, i, p, q, _, h => by simp at h
  | _, .cons r h, 0, p, q, hp, hq => by
    have e1 : _ = p := Option.some.inj hp
    have e2 : _ = q := Option.some.inj (show some _ = some q from hq)
    subst e1 e2
    exact r
  | _, .cons r h, i + 1, p, q, hp, hq => Run.at h (by simpa using hp) (by simpa using hq)
theorem an_head (ar : List Dn) : ∀ d : Dn, ∃ l, an ar d = (d, ar) :: l
  | .tx n x => ⟨[], by simp only [an]⟩
  | .el n t as ks => ⟨anS (ar ++ [.el n t as ks]) ks, by simp only [an]⟩
theorem anS_head (ar : List Dn) : ∀ ks q, (anS ar ks).head? = some q → q.2 = ar
  | [], q, h => by simp [anS] at h
  | d :: r, q, h => by
    obtain ⟨l, e⟩ := an_head ar d
    simp only [anS, e, List.cons_append, List.head?_cons, Option.some.injEq] at h
    rw [← h]
mutual
theorem an_pre (ar : List Dn) : ∀ d : Dn, ∀ p ∈ an ar d, ar <+: p.2
  | .tx n x, p, hp => by
    simp only [an, List.mem_singleton] at hp
    rw [hp]
    exact List.prefix_refl _
  | .el n t as ks, p, hp => by
    simp only [an, List.mem_cons] at hp
    rcases hp with rfl | hp
    · exact List.prefix_refl _
    · exact (List.prefix_append ar _).trans (anS_pre _ ks p hp)
theorem anS_pre (ar : List Dn) : ∀ ks : List Dn, ∀ p ∈ anS ar ks, ar <+: p.2
  | [], p, hp => by simp [anS] at hp
  | d :: r, p, hp => by
    simp only [anS, List.mem_append] at hp
    rcases hp with hp | hp
    · exact an_pre ar d p hp
    · exact anS_pre ar r p hp
end
def Nx (p q : Dn × List Dn) : Prop := q.2 <+: p.2 ++ [p.1]
mutual
theorem an_run (ar : List Dn) : ∀ d : Dn, Run Nx (an ar d)
  | .tx n x => by simp only [an]; exact .one _
  | .el n t as ks => by
    simp only [an]
    have h := anS_run (ar ++ [.el n t as ks]) ks
    refine Run.app (l := [_]) (.one _) h fun p hp q hq => ?_
    rw [List.mem_singleton.mp hp]
    show q.2 <+: ar ++ [.el n t as ks]
    rw [anS_head _ _ _ hq]
    exact List.prefix_refl _
theorem anS_run (ar : List Dn) : ∀ ks : List Dn, Run Nx (anS ar ks)
  | [] => by simp only [anS]; exact .nil
  | d :: r => by
    simp only [anS]
    refine Run.app (an_run ar d) (anS_run ar r) fun p hp q hq => ?_
    show q.2 <+: p.2 ++ [p.1]
    rw [anS_head _ _ _ hq]
    exact (an_pre ar d p hp).trans (List.prefix_append _ _)
end
def pathD (ks : List Dn) (n : Int) : List Dn := match (anS [] ks).find? fun p => decide (p.1.num = n) with
  | some p => (p.2 ++ [p.1]).reverse.filter Dn.isE
  | none => []
/-- what stands around the i-th -/
theorem step_an {ks : List Dn} {i : Nat} {p : Dn × List Dn} (h : (anS [] ks)[i]? = some p) {A : List Dn} (hA : (i = 0 ∧ A = []) ∨ ∃ q, 0 < i ∧ (anS [] ks)[i - 1]? = some q ∧ A = q.2 ++ [q.1]) : A.take p.2.length = p.2 := by
  rcases hA with ⟨rfl, rfl⟩ | ⟨q, hi, hq, rfl⟩
  · rw [← List.head?_eq_getElem?] at h
    rw [anS_head _ _ _ h]
    rfl
  · obtain ⟨j, rfl⟩ : ∃ j, i = j + 1 := ⟨i - 1, by omega⟩
    have r : p.2 <+: q.2 ++ [q.1] := (anS_run [] ks).at (by simpa using hq) h
    exact (List.prefix_iff_eq_take.mp r).symm
theorem NdAs.take {H : Hp} : ∀ {vs : List V} {ds : List Dn} (n : Nat), NdAs H vs ds → NdAs H (vs.take n) (ds.take n)
  | _, _, 0, _ => by simpa using NdAs.nil
  | _, _, _ + 1, .nil => .nil
  | _, _, n + 1, .cons a b => .cons a (b.take n)
def Dn.as : Dn → List (Str × Str)
  | .tx _ _ => []
  | .el _ _ as _ => as
mutual
def AllD (P : Dn → Prop) : Dn → Prop
  | .tx n x => P (.tx n x)
  | .el n t as ks => P (.el n t as ks) ∧ AllS P ks
def AllS (P : Dn → Prop) : List Dn → Prop
  | [] => True
  | d :: r => AllD P d ∧ AllS P r
end
mutual
theorem an_all {P : Dn → Prop} (ar : List Dn) (ha : ∀ d ∈ ar, P d) : ∀ d : Dn, AllD P d → ∀ p ∈ an ar d, P p.1 ∧ ∀ e ∈ p.2, P e
  | .tx n x, h, p, hp => by
    simp only [an, List.mem_singleton] at hp
    simp only [AllD] at h
    rw [hp]
    exact ⟨h, ha⟩
  | .el n t as ks, h, p, hp => by
    simp only [an, List.mem_cons] at hp
    simp only [AllD] at h
    rcases hp with rfl | hp
    · exact ⟨h.1, ha⟩
    · refine anS_all (ar ++ [.el n t as ks]) (fun d hd => ?_) ks h.2 p hp
      rcases List.mem_append.mp hd with hd | hd
      · exact ha d hd
      · rw [List.mem_singleton.mp hd]
        exact h.1
theorem anS_all {P : Dn → Prop} (ar : List Dn) (ha : ∀ d ∈ ar, P d) : ∀ ks : List Dn, AllS P ks → ∀ p ∈ anS ar ks, P p.1 ∧ ∀ e ∈ p.2, P e
  | [], _, p, hp => by simp [anS] at hp
  | d :: r, h, p, hp => by
    simp only [anS, List.mem_append] at hp
    simp only [AllS] at h
    rcases hp with hp | hp
    · exact an_all ar ha d h.1 p hp
    · exact anS_all ar ha r h.2 p hp
end
theorem pathD_all {P : Dn → Prop} {ks : List Dn} (h : AllS P ks) (n : Int) : ∀ d ∈ pathD ks n, P d ∧ d.isE = true := by
  intro d hd
  unfold pathD at hd
  split at hd
  · rename_i p e
    have hp := List.mem_of_find?_eq_some e
    obtain ⟨h1, h2⟩ := anS_all [] (fun _ z => nomatch z) ks h p hp
    obtain ⟨hm, he⟩ := List.mem_filter.mp hd
    rw [List.mem_reverse] at hm
    refine ⟨?_, he⟩
    rcases List.mem_append.mp hm with hm | hm
    · exact h2 d hm
    · rw [List.mem_singleton.mp hm]
      exact h1
  · exact nomatch hd
def attrD (as : List (Str × Str)) (x : Str) : V := match as.find? fun a => decide (a.1 = x) with
  | some a => .str a.2
  | none => .non
def NamesOk (d : Dn) : Prop := (d.as.map (·.1)).Nodup
/-- the dict that dict(pairs) makes of pairs with different keys -/
theorem mergeK_nd : ∀ (kvs acc : List (Key × V)), ((acc ++ kvs).map (·.1)).Nodup → mergeK acc kvs = acc ++ kvs
  | [], acc, _ => by simp [mergeK]
  | kv :: r, acc, h => by
    have hn : putK acc kv.1 kv.2 = acc ++ [kv] := by
      refine putK_nw (valV_out fun hm => ?_)
      rw [List.map_append, List.nodup_append] at h
      exact h.2.2 _ hm _ (by simp) rfl
    show mergeK (putK acc kv.1 kv.2) r = _
    rw [hn, mergeK_nd r (acc ++ [kv]) (by simpa using h)]
    simp
def kvA (as : List (Str × Str)) : List (Key × V) := as.map fun a => (.inr a.1, .str a.2)
theorem attr_val (x : Str) : ∀ as : List (Str × Str), (valV (kvA as) (.inr x)).getD .non = attrD as x
  | [] => rfl
  | a :: r => by
    have ih := attr_val x r
    unfold attrD at ih ⊢
    rw [List.find?_cons]
    by_cases c : a.1 = x
    · rw [decide_eq_true c]
      show (valV ((Sum.inr a.1, V.str a.2) :: kvA r) (.inr x)).getD .non = _
      rw [valV_pos (by rw [c])]
      rfl
    · rw [decide_eq_false c]
      show (valV ((Sum.inr a.1, V.str a.2) :: kvA r) (.inr x)).getD .non = _
      rw [valV_neg (fun z => c (Sum.inr.inj z))]
      exact ih
theorem kvA_merge {as : List (Str × Str)} (h : (as.map (·.1)).Nodup) : mergeK [] (kvA as) = kvA as := by
  have := mergeK_nd (kvA as) [] (by
    rw [List.nil_append]
    unfold kvA
    rw [List.map_map]
    show ((as.map fun a => (Sum.inr a.1 : Key)).Nodup)
    rw [show (as.map fun a => (Sum.inr a.1 : Key)) = (as.map (·.1)).map Sum.inr by rw [List.map_map]; rfl]
    exact List.Pairwise.map _ (fun a b n z => n (Sum.inr.inj z)) h)
  simpa using this
theorem getElem?_mem' {α : Type} {l : List α} {i : Nat} {a : α} (h : l[i]? = some a) : a ∈ l := List.mem_of_getElem? h
mutual
theorem an_len (ar : List Dn) : ∀ d : Dn, ∀ p ∈ an ar d, p.2.length + 1 ≤ ar.length + (an ar d).length
  | .tx n x, p, hp => by
    simp only [an, List.mem_singleton] at hp
    rw [hp]
    simp [an]
  | .el n t as ks, p, hp => by
    simp only [an, List.mem_cons] at hp
    rcases hp with rfl | hp
    · simp [an]
    · have := anS_len (ar ++ [.el n t as ks]) ks p hp
      simp only [an, List.length_cons, List.length_append, List.length_nil] at this ⊢
      omega
theorem anS_len (ar : List Dn) : ∀ ks : List Dn, ∀ p ∈ anS ar ks, p.2.length + 1 ≤ ar.length + (anS ar ks).length
  | [], p, hp => by simp [anS] at hp
  | d :: r, p, hp => by
    simp only [anS, List.mem_append] at hp
    simp only [anS, List.length_append]
    rcases hp with hp | hp
    · have := an_len ar d p hp
      omega
    · have := anS_len ar r p hp
      omega
end
theorem pathD_len {ks : List Dn} {n : Int} (h : (itS 1 ks).length ≤ 1000) : (pathD ks n).length ≤ 1001 := by
  rw [show itS 1 ks = (anS [] ks).map fun p => ((p.2.length : Int) + 1, p.1) from itS_an [] ks, List.length_map] at h
  unfold pathD
  split
  · rename_i p e
    have := anS_len [] ks p (List.mem_of_find?_eq_some e)
    refine Nat.le_trans (List.length_filter_le _ _) ?_
    rw [List.length_reverse, List.length_append]
    simp only [List.length_nil, List.length_cons] at this ⊢
    omega
  · simp
theorem mem_it_an {ks : List Dn} {p : Int × Dn} (h : p ∈ itS 1 ks) : ∃ q ∈ anS [] ks, q.1 = p.2 := by
  rw [show itS 1 ks = (anS [] ks).map fun p => ((p.2.length : Int) + 1, p.1) from itS_an [] ks] at h
  obtain ⟨q, hq, rfl⟩ := List.mem_map.mp h
  exact ⟨q, hq, rfl⟩
theorem itS_all {P : Dn → Prop} {ks : List Dn} (h : AllS P ks) : ∀ p ∈ itS 1 ks, P p.2 := fun p hp => by
  obtain ⟨q, hq, e⟩ := mem_it_an hp
  rw [← e]
  exact (anS_all [] (fun _ z => nomatch z) ks h q hq).1
mutual
def numN : Dn → List Int
  | .tx n _ => [n]
  | .el n _ _ ks => n :: numS ks
def numS : List Dn → List Int
  | [] => []
  | d :: r => numN d ++ numS r
end
mutual
theorem it_num (l : Int) : ∀ d : Dn, (it l d).map (fun p => p.2.num) = numN d
  | .tx n x => by simp only [it, numN, List.map_cons, List.map_nil, Dn.num]
  | .el n t as ks => by
    simp only [it, numN, List.map_cons]
    rw [itS_num (l + 1) ks]
    rfl
theorem itS_num (l : Int) : ∀ ks : List Dn, (itS l ks).map (fun p => p.2.num) = numS ks
  | [] => by simp only [itS, numS, List.map_nil]
  | d :: r => by
    simp only [itS, numS, List.map_append]
    rw [it_num l d, itS_num l r]
end
theorem numS_app : ∀ a b : List Dn, numS (a ++ b) = numS a ++ numS b
  | [], b => by simp only [numS, List.nil_append]
  | d :: r, b => by simp only [List.cons_append, numS, numS_app r b, List.append_assoc]
theorem numS_one (d : Dn) : numS [d] = numN d := by simp only [numS, List.append_nil]
theorem AllS_app {P : Dn → Prop} : ∀ {a b : List Dn}, AllS P a → AllS P b → AllS P (a ++ b)
  | [], _, _, h => h
  | d :: r, _, h, h' => by
    simp only [AllS, List.cons_append] at h ⊢
    exact ⟨h.1, AllS_app h.2 h'⟩
theorem AllS_one {P : Dn → Prop} {d : Dn} (h : AllD P d) : AllS P [d] := by simp only [AllS]; exact ⟨h, trivial⟩
mutual
def dN : Dn → Nat
  | .tx _ _ => 0
  | .el _ _ _ ks => dS ks + 1
def dS : List Dn → Nat
  | [] => 0
  | d :: r => max (dN d) (dS r)
end
theorem dS_app : ∀ a b : List Dn, dS (a ++ b) = max (dS a) (dS b)
  | [], b => by simp [dS]
  | d :: r, b => by
    simp only [List.cons_append, dS, dS_app r b]
    omega
theorem dS_one (d : Dn) : dS [d] = dN d := by simp [dS]
theorem anS_num (ar : List Dn) (ks : List Dn) : (anS ar ks).length = (numS ks).length := by
  have h := congrArg List.length (itS_an ar ks)
  rw [List.length_map] at h
  rw [← h, ← itS_num ((ar.length : Int) + 1) ks, List.length_map]
theorem anS_app (ar : List Dn) : ∀ a b : List Dn, anS ar (a ++ b) = anS ar a ++ anS ar b
  | [], b => by simp only [anS, List.nil_append]
  | d :: r, b => by simp only [List.cons_append, anS, anS_app ar r b, List.append_assoc]
theorem dS_get : ∀ {ks : List Dn} {i : Nat} {d : Dn}, ks[i]? = some d → dN d ≤ dS ks
  | [], _, _, h => by simp at h
  | e :: r, 0, d, h => by
    have : e = d := Option.some.inj h
    subst this
    simp only [dS]
    omega
  | e :: r, i + 1, d, h => by
    have := dS_get (ks := r) (i := i) (d := d) (by simpa using h)
    simp only [dS]
    omega
mutual
theorem an_isE (ar : List Dn) (ha : ∀ e ∈ ar, e.isE = true) : ∀ d : Dn, ∀ p ∈ an ar d, ∀ e ∈ p.2, e.isE = true
  | .tx n x, p, hp => by
    simp only [an, List.mem_singleton] at hp
    rw [hp]
    exact ha
  | .el n t as ks, p, hp => by
    simp only [an, List.mem_cons] at hp
    rcases hp with rfl | hp
    · exact ha
    · refine anS_isE (ar ++ [.el n t as ks]) (fun e he => ?_) ks p hp
      rcases List.mem_append.mp he with he | he
      · exact ha e he
      · rw [List.mem_singleton.mp he]
        rfl
theorem anS_isE (ar : List Dn) (ha : ∀ e ∈ ar, e.isE = true) : ∀ ks : List Dn, ∀ p ∈ anS ar ks, ∀ e ∈ p.2, e.isE = true
  | [], p, hp => by simp [anS] at hp
  | d :: r, p, hp => by
    simp only [anS, List.mem_append] at hp
    rcases hp with hp | hp
    · exact an_isE ar ha d p hp
    · exact anS_isE ar ha r p hp
end
theorem anS_nums (ks : List Dn) : (anS [] ks).map (fun p => p.1.num) = numS ks := by
  have h := congrArg (List.map fun p : Int × Dn => p.2.num) (itS_an [] ks)
  rw [itS_num, List.map_map] at h
  rw [h]
  rfl
theorem find_nd {α : Type} {f : α → Int} : ∀ {l : List α} {p : α}, (l.map f).Nodup → p ∈ l → l.find? (fun q => decide (f q = f p)) = some p
  | [], p, _, h => nomatch h
  | q :: l, p, nd, h => by
    rw [List.map_cons, List.nodup_cons] at nd
    rcases List.mem_cons.mp h with rfl | h
    · rw [List.find?_cons, decide_eq_true rfl]
    · have : f q ≠ f p := fun z => nd.1 (by rw [z]; exact List.mem_map_of_mem h)
      rw [List.find?_cons, decide_eq_false this]
      exact find_nd nd.2 h
theorem find_an {ks : List Dn} (nd : (numS ks).Nodup) {p : Dn × List Dn} (h : p ∈ anS [] ks) : (anS [] ks).find? (fun q => decide (q.1.num = p.1.num)) = some p :=
  find_nd (f := fun q : Dn × List Dn => q.1.num) (by rw [anS_nums]; exact nd) h
def holdD (p : Dn × List Dn) : List Dn := p.2 ++ if p.1.isE then [p.1] else []
theorem pathD_at {ks : List Dn} (nd : (numS ks).Nodup) {p : Dn × List Dn} (h : p ∈ anS [] ks) : pathD ks p.1.num = (holdD p).reverse := by
  unfold pathD holdD
  rw [find_an nd h]
  show ((p.2 ++ [p.1]).reverse.filter Dn.isE) = _
  rw [List.filter_reverse]
  rw [List.filter_append]
  have : p.2.filter Dn.isE = p.2 := List.filter_eq_self.mpr (anS_isE [] (fun _ z => nomatch z) ks p h)
  rw [this]
  cases c : p.1.isE <;> simp [c]
theorem pathD_no {ks : List Dn} {n : Int} (h : n ∉ numS ks) : pathD ks n = [] := by
  unfold pathD
  have : (anS [] ks).find? (fun p => decide (p.1.num = n)) = none := by
    rw [List.find?_eq_none]
    intro p hp c
    exact h (by rw [← anS_nums, ← of_decide_eq_true c]; exact List.mem_map_of_mem hp)
  rw [this]
end VL

set_option Elab.async false
set_option linter.all false
set_option maxRecDepth 100000
set_option maxHeartbeats 4000000
namespace VL
open PySem PySem.Spec PyProof.Rows L2 NdefX

/-! ### an own exception's __init__ that begins with super().__init__(..), over ValueError -/
abbrev supBody (p0 p1 p2 p3 p4 : Pos) (es : List Expr) (rest : List Stmt) : List Stmt := .Expr (.Call (.Attribute (.Call (.Name "super" p0) [] [] p1) "__init__" p2) es [] p3) p4 :: rest
section
variable {CX : CXT} {P : Program} {w : World} {K : PySem.W.Frag} {mg : Str → Option Value} {base : Heap} {k : Nat} {f D cc cda : Addr} {name qual : Str} {params : Arguments} {es : List Expr} {ar : Arg} {rest : List Stmt} {p0 p1 p2 p3 p4 : Pos} {scope : Scope}
  {dV kV doc pm ct oc cl ccl : Value} {od cld cdd an : Option Addr} {osl csl ccs : Array (Option Value)} {vsC : Array Value} {file : Str} {tf : Tok} {cdD : ClassData} {N ps : List Str} {sp : Sp}
/-- what the written part says of it -/
structure SupK (P : Program) (K : PySem.W.Frag) (mg : Str → Option Value) (f D cc cda : Addr) (fd : FuncData) (qual : Str) : Prop where
  lk : ∃ oc od osl, K.lookup f = some ⟨oc, od, .func fd, osl⟩
  cd : PySem.W.codeIn K (.ref cda) qual = true
  cell : ∃ cl cld csl, K.lookup cc = some ⟨cl, cld, .cell (some (.ref D)), csl⟩
  code : ∃ ccl cdd vsC ccs file tf, K.lookup cda = some ⟨ccl, cdd, .fields vsC, ccs⟩ ∧ vsC[2]? = some (.str file tf) ∧ ((P.main.file : Str) == file) = true
  cls : ∃ cdD, PySem.W.clsIn K D = some cdD
  sub : PySem.W.mroIn K D (.ref D) = some true
  zsuper : mg "super" = none
  ops : PySem.W.nsIn K cStatics "thirdparty.any" = some none
  along : PySem.W.ks_superIn K D D "__init__" = some (some (.builtin "ValueError.__init__"))
  subV : PySem.W.subIn K (.ref D) (.type "ValueError") = some true
  top : (P.main.scope.names.lookup ("super" : Str)).isSome = false
theorem fn_sup {fd : FuncData} (T : SupK P K mg f D cc cda fd qual) (O : OexC K D) (efd : fd = PySem.W.fnX name qual params (supBody p0 p1 p2 p3 p4 es rest) scope [("__class__", cc)] dV kV doc pm an (.ref cda) ct)
    (S : NScope N ps ["__class__"] scope) (har : (params.posonlyargs ++ params.args).head? = some ar) (hps : ps.head? = some ar.arg) (hks : scope.names.lookup ("super" : Str) = some .globalImplicit)
    (hsw : ∀ env : Env, swapsWith (.Call (.Attribute (.Call (.Name "super" p0) [] [] p1) "__init__" p2) es [] p3) none p4.line env = pure false)
    (hst : ∀ env : Env, (backTo p3 (starEach es env)).any (·.1) = false)
    (hee : ∀ env : Env, ∃ x r, backTo p3 (starEach es env) = (false, x) :: r)
    {pl : Sem Bool} (hev : ∀ env : Env, eval (.Call (.Attribute (.Call (.Name "super" p0) [] [] p1) "__init__" p2) es [] p3) env = (do
      let ov ← attributeBase (.Call (.Name "super" p0) [] [] p1) "__init__" env (eval (.Call (.Name "super" p0) [] [] p1) env)
      standAt p2.atName
      let (g, first) ← holding [ov] (getMethod ov "__init__" pl)
      callWith p3 g first (backTo p3 (starEach es env)) []))
    (len : ∀ vs H Q E, sp vs H Q E → vs.length = ps.length)
    (hbody : ∀ (A : Around) (outer : List Env) (s : Shared) (H : Hp) (vs : List V) (Q : VK) (E : XK), Room k (A.deeper (envF ⟨name, qual, params, supBody p0 p1 p2 p3 p4 es rest, scope, [("__class__", cc)], cda⟩ f s.heap.objs.size)) → sp vs H Q E →
      ∃ ta tr, PA (ncx CX P w K mg base N ⟨name, qual, params, supBody p0 p1 p2 p3 p4 es rest, scope, [("__class__", cc)], cda⟩ f A outer s H E) es ta ∧
        PSs (ncx CX P w K mg base N ⟨name, qual, params, supBody p0 p1 p2 p3 p4 es rest, scope, [("__class__", cc)], cda⟩ f A outer s H E) rest tr ∧
        ∃ (a : Addr) (vs' : List V), vs = .ref a :: vs' ∧ H a = some (exo a D none) ∧
          ta (startF N vs [some (.ref D)]) H fun ws H1 => ws.length ≤ 1000 ∧ H1 a = some (exo a D none) ∧ tr { nx := fun _ H' => Q .non H', rt := Q } (startF N vs [some (.ref D)]) H1) :
    FnOk P w K mg base CX (k + 1) f fd ps sp := by
  subst efd
  obtain ⟨oc, od, osl, lk⟩ := T.lk
  obtain ⟨cl, cld, csl, hcell⟩ := T.cell
  obtain ⟨ccl, cdd, vsC, ccs, file, tf, hcode, hvs, hfile⟩ := T.code
  obtain ⟨cdD, hD⟩ := T.cls
  refine ⟨len, fun A outer s H args us vs Q E hr e0 hb r hsp => ?_⟩
  have hl := len _ _ _ _ hsp
  have KX : K.In s.heap := e0.mod.kin.keeps fun b o q => (e0.bs b o q).1
  have lim : s.heap.NoLimit := e0.mod.nolimit.keeps fun b o e => (e0.bs b o e).1
  have C : CellsAt [("__class__", cc)] ["__class__"] [some (.ref D)] s.heap H := by
    have one : ∀ y c, [(("__class__" : Str), cc)].lookup y = some c → y = "__class__" ∧ c = cc := fun y c e => by
      by_cases h : y = ("__class__" : Str)
      · subst h
        have e2 : [(("__class__" : Str), cc)].lookup ("__class__" : Str) = some cc := by simp [List.lookup]
        rw [e2] at e
        exact ⟨rfl, (Option.some.inj e).symm⟩
      · have q : (y == ("__class__" : Str)) = false := by simpa using h
        simp [List.lookup, q] at e
    have hc : ∃ v, s.heap.IsCell cc v := ⟨_, _, KX _ _ hcell, rfl⟩
    have hcH : H cc = none := (e0.bs cc _ (e0.mod.kin _ _ hcell)).2
    refine ⟨rfl, fun y c e => ?_, fun x y c e1 e2 => ?_, fun i y e => ?_⟩
    · obtain ⟨_, rfl⟩ := one y c e
      exact ⟨hcH, hc⟩
    · rw [(one _ _ e1).1, (one _ _ e2).1]
    · cases i with
      | zero =>
        injection e with e
        subst e
        refine ⟨cc, by simp [List.lookup], fun v ev => ?_⟩
        injection ev with ev
        injection ev with ev
        subst ev
        exact ⟨_, rfl, _, KX _ _ hcell, rfl⟩
      | succ i => cases i <;> cases e
  refine PySem.ks_codeAny_call_defAt (body := supBody p0 p1 p2 p3 p4 es rest) hr.depth (KX _ _ lk) rfl lim (PySem.W.codeRec_of KX T.cd) rfl hb S.nocell (fun ⟨n, _⟩ hy => S.par n (List.of_mem_zip hy).1) (fun h₁ hns kp => ?_) S.co S.gen S.kind
  obtain ⟨ta, tr, hA, hR, a, vs', ev, ha0, hq⟩ := hbody A outer s H vs Q E (hr.deeper _) hsp
  generalize hF : (⟨name, qual, params, supBody p0 p1 p2 p3 p4 es rest, scope, [("__class__", cc)], cda⟩ : NF) = F at hA hR
  have I : Inv (ncx CX P w K mg base N F f A outer s H E) [] (startF N vs [some (.ref D)]) H { s with heap := h₁, toks := s.toks + (ps.zip us).length } := by
    subst hF
    exact inv_startN S hr.hd e0 hl r C hns kp
  have eenv : callEnv (PySem.W.fnX name qual params (supBody p0 p1 p2 p3 p4 es rest) scope [("__class__", cc)] dV kV doc pm an (.ref cda) ct) s.heap.objs.size f = envF F f s.heap.objs.size := by
    subst hF
    rfl
  rw [eenv]
  have fin : ∀ {σ' : L2.St} {H' : Hp} {v : V} {u : Value} {s' : Shared}, Inv (ncx CX P w K mg base N F f A outer s H E) [] σ' H' s' → L2.RelV v u → Q v H' → CE outer P w H s Q u s' :=
    fun {σ' H' v u s'} J rv q => ⟨v, H', J.os, J.bare, J.base, J.hok, rv, q⟩
  refine PySem.ks_wpAt_mono (Q := SP (ncx CX P w K mg base N F f A outer s H E) [] { nx := fun _ H' => Q .non H', rt := Q }) (E := (ncx CX P w K mg base N F f A outer s H E).xe) ?go (fun fl s' hs => ?en) (fun _ _ x => x)
  case en =>
    cases fl with
    | ret u =>
      obtain ⟨v, σ', H', J, rv, q⟩ := hs
      exact fin J rv q
    | next =>
      obtain ⟨σ', H', J, q⟩ := hs
      exact fin (v := V.non) (u := Value.none) J rfl q
    | brk =>
      obtain ⟨_, _, _, q⟩ := hs
      exact False.elim q
    | cont =>
      obtain ⟨_, _, _, q⟩ := hs
      exact False.elim q
  have ekind : ∀ x, (envF F f s.heap.objs.size).kindOf x = scope.names.lookup x := by
    subst hF
    intro x
    rfl
  refine PySem.ks_wpAt_execs_cons (PySem.ks_wpAt_Expr_any (PySem.ks_wpAt_MethodCall (pl := pl) ?_ (hev _)) I.quiet (hsw _))
  refine PySem.ks_wpAt_super_base (env := envF F f s.heap.objs.size) ((ekind _).trans hks) ((ekind _).trans (S.frk _ List.mem_cons_self)) rfl rfl (kp _ _ (KX _ _ lk)) rfl har (by subst hF; rfl) (kp _ _ (KX _ _ hcode)) rfl hvs hfile T.top ?_
  have escope : (envF F f s.heap.objs.size).scope = scope := by subst hF; rfl
  have ecells : (envF F f s.heap.objs.size).cells = [(("__class__" : Str), cc)] := by subst hF; rfl
  obtain ⟨mb, b1, b2⟩ := e0.mod.blt
  have kb : ∀ b o, base.get? b = some o → h₁.get? b = some o := fun b o q => kp b o (e0.bs b o q).1
  have X₁ : K.In h₁ := KX.keeps kp
  have hgl := e0.mod.glob.keeps kb
  have hbl := b1.keeps kb
  refine PySem.W.ks_loadName_global (by rw [escope]; exact S.kind) ((ekind _).trans hks) (Calls.loadGlobal_builtin hgl T.zsuper hbl ((b2 _ (by decide +kernel)).trans Boot.«super») ⟨rfl, ?_⟩)
  refine wpAny_loadName_free (by rw [escope]; exact S.kind) ((ekind _).trans (S.frk _ List.mem_cons_self)) (c := cc) (v := .ref D) (by rw [ecells]; simp [List.lookup]) ⟨_, X₁ _ _ hcell, rfl⟩ ?_
  have hself : (ps.zip us).reverse.lookup ar.arg = some (.ref a) := by
    subst ev
    cases ps with
    | nil => cases hps
    | cons p ps' =>
      injection hps with hps
      subst hps
      cases r with
      | @cons _ u0 _ ur ra rw' =>
        obtain rfl : u0 = Value.ref a := ra
        have nd : (ar.arg :: ps').Nodup := by
          have q := S.nd.sublist (List.take_sublist ((ar.arg :: ps').length + [("__class__" : Str)].length) N)
          rw [S.pre] at q
          exact (List.nodup_append.mp q).1
        exact zip_look (i := 0) nd rfl rfl
  have hpar : scope.names.lookup ar.arg = some .local := by
    refine S.par _ ?_
    cases ps with
    | nil => cases hps
    | cons p ps' =>
      injection hps with hps
      subst hps
      exact List.mem_cons_self
  refine wpAny_loadName_local (by rw [escope]; exact S.kind) ((ekind _).trans hpar) hns hself ?_
  obtain ⟨oD, hD1, hD2⟩ : ∃ oD, h₁.get? D = some oD ∧ oD.data = .cls cdD := by
    have z := hD
    unfold PySem.W.clsIn at z
    split at z
    · rename_i ho
      cases z
      exact ⟨_, X₁ _ _ ho, rfl⟩
    · cases z
  refine PySem.ks_wpAny_isType_cls hD1 hD2 ⟨rfl, ?_⟩
  obtain ⟨t1, hoa⟩ := exo_at I.hok ha0
  refine PySem.ks_wpAny_call_super hD1 hD2 hoa rfl (fun c e => by cases e) (PySem.W.looks_mroIn X₁ T.sub) (fun h₂ e2 k2 => ?_)
  have I2 := I.kept (t' := s.toks + (ps.zip us).length) k2
  have X₂ : K.In h₂ := X₁.keeps k2
  have IA : PySem.W.InstAt h₂ a { cls := .ref D, dict := none, data := .fields #[.ref t1, .none, .none, .none, .bool false, .none] } D none := ⟨k2 _ _ hoa, rfl, rfl, trivial⟩
  have hal := T.along
  unfold PySem.W.ks_superIn at hal
  rw [hD] at hal
  have hmro : PySem.W.Looks (model P w) h₂ (mroOf (.ref D)) cdD.mro := fun A Q E s k q => wpAny_bind ((PySem.W.looks_clsIn X₂ hD) A _ E s k (wpAny_pure q))
  refine PySem.W.kxs_getMethod PySem.W.kxs_ValueError e2 (PySem.W.looks_opaque X₂ T.ops) hmro rfl X₂ hal (IA.type.andThen (PySem.W.looks_subIn X₂ T.subV)) (PySem.W.ks_ne X₂ IA hD) rfl ?_
  have kmw : ∀ b o, h₂.get? b = some o → (h₂.push (PySem.W.kxs_mw "ValueError.__init__" a)).get? b = some o := fun b o q => Heap.get?_push_of_some _ q
  have I3 : Inv (ncx CX P w K mg base N F f A outer s H E) [(h₂.objs.size, PySem.W.kxs_mw "ValueError.__init__" a)] (startF N vs [some (.ref D)]) H { s with heap := h₂.push (PySem.W.kxs_mw "ValueError.__init__" a), toks := s.toks + (ps.zip us).length + 1 } := by
    refine (I2.kept (t' := s.toks + (ps.zip us).length + 1) kmw).pins_of fun p hp => ?_
    rw [List.mem_singleton.mp hp]
    exact ⟨Heap.get?_push_at rfl rfl, I2.hok.fresh (Nat.le_refl _), Nat.ne_of_gt I2.lt, I2.nofs (Nat.le_refl _), fun v e => by cases e⟩
  refine PySem.W.kxs_callWith (i := "ValueError.__init__") (x := a) (hst _) ?_
  obtain ⟨x0, r0, hx⟩ := hee (envF F f s.heap.objs.size)
  rw [hx]
  refine Calls.evalArgs_plain ?_
  rw [← hx]
  refine thn (hA.run p3 _ _ _ H _ I3 hq) (fun us1 s4 ⟨ws, H1, I4, r1, hz, ha1, hrest⟩ => ⟨(I4.pin (h₂.objs.size, PySem.W.kxs_mw "ValueError.__init__" a) (List.mem_append_right _ List.mem_cons_self)).1, ?_⟩)
  have hu := (I4.pin (h₂.objs.size, PySem.W.kxs_mw "ValueError.__init__" a) (List.mem_append_right _ List.mem_cons_self)).1
  have I5 : Inv (ncx CX P w K mg base N F f A outer s H E) [] (startF N vs [some (.ref D)]) H1 s4 := I4.pins_of fun p hp => by cases hp
  obtain ⟨nm, q, Nn, bs, bm, sn, sub, ab, col, dd, k0, k1, k2', k3, k5, hC, hbm⟩ := O.cls
  obtain ⟨t2, ho⟩ := exo_at I5.hok ha1
  have hus : us1.length ≤ sizeLine := by
    rw [← Paired.length r1]
    exact Nat.le_trans hz (by decide)
  have kin4 := I5.kIn
  obtain ⟨hp, g, d, tk, os⟩ := s4
  refine wpAny_call (codeAny_of_tree ?_)
  show wpAny _ (A.deeper (envF F f s.heap.objs.size)).in1 (callAny (.ref h₂.objs.size) ⟨us1, []⟩) _ _ _
  simp only [callAny]
  refine wpAny_bind (wpAny_load hu ?_)
  simp only [PySem.W.kxs_mw, show (Value.type "method-wrapper" == Value.type "method" || Value.type "method-wrapper" == Value.type "builtin_function_or_method" || Value.type "method-wrapper" == Value.type "method-wrapper") = true by decide, if_true]
  refine PySem.W.KFB.if_so (by decide) ?_
  refine wpAny_bind (PySem.W.check_bound_init PySem.F.excBase_ValueError.toExcCallFacts (kin4 _ _ hC) ho rfl ?_)
  refine wpAny_bind (wpAny_pure (wpAny_pure ?_))
  refine ⟨plainId_quiet PySem.F.excBase_ValueError.init.plain _, codeAny_builtin PySem.F.excBase_ValueError.initEntry ?_⟩
  refine PySem.W.exc_init_tree (cls := .ref D) (t0 := t2) (dv := none) (c2 := .none) (c3 := .none) (b4 := .bool false) ho hus fun h' kk e' _ => ?_
  have J := I5.write (t' := tk) (x := a) (e := a) (o := exo a D none) (by rw [ha1]; exact True.intro) (.inl rfl) kk ⟨_, e'⟩ (exo_ok e')
  have eu : upd H1 a (exo a D none) = H1 := by
    funext b
    by_cases hb : b = a
    · rw [hb, upd_same, ha1]
    · rw [upd_ne hb]
  rw [eu] at J
  exact wpAt_of_wpAny (hR.run [] _ _ H1 _ J hrest)
end
end VL

set_option Elab.async false
set_option linter.all false
set_option maxRecDepth 100000
set_option maxHeartbeats 4000000
namespace VL
open PySem PySem.Spec PyProof.Rows L2 NdefX

/-! ### isinstance of a caught error that has a dict -/
theorem call_isED {X : Cx} {a D : Addr} {oe : Obj} {cls : Value} {d : Option Addr} {pn : List (Addr × Obj)} (C : ExcC X.K D) (hz : Zc cls d oe) (hf : ∃ vs, oe.data = .fields vs) :
    CallR (X.suite a ((a, oe) :: pn)) (.builtin "isinstance") (fun xs H Q => cls = .ref D ∧ ∃ (dd : Addr) (fs : List (Str × V)) (c : V) (cv : Value) (b : Bool), d = some dd ∧ H dd = some (.xd fs) ∧ xs = [.ref a, c] ∧ (∀ u, RelV c u → u = cv) ∧ PySem.W.kitOne X.K (.ref D) cv = some b ∧ Q (.bl b) H) := by
  intro pins s σ H xs us Q I r h
  obtain ⟨ec, dd, fs, c, cv, b, ed, ea, ex, hcv, e, q⟩ := h
  subst ec ed ex
  cases r with
  | cons rx rr =>
    cases rr with
    | cons rt rr =>
      cases rr
      cases rx
      obtain rfl := hcv _ rt
      have hp := (I.pin (a, oe) (List.mem_append_left _ List.mem_cons_self)).1
      obtain ⟨vs, hv⟩ := hf
      have hx : ObjOk X.prog X.w H s.heap dd (.xd fs) := I.hok dd _ ea
      obtain ⟨mA, hns, _⟩ := hx
      obtain ⟨od, ho, _⟩ := lookIn_ns hns
      have J : PySem.W.InstAt s.heap a oe D (some od) := ⟨hp, hz.1, by unfold PySem.W.notCls; rw [hv] <;> rfl, by rw [hz.2]; exact ho⟩
      have hcl : (PySem.W.clsIn X.K D).isSome = true := by
        obtain ⟨cd, hc, _⟩ := PySem.W.any_some C.hd
        rw [hc]
        rfl
      exact PySem.W.kia_one (PySem.W.kitx_exc (ox := oe) (od := some od) hcl C.hg C.hk C.hs C.ha C.hn C.ht C.hm) I.kIn J e (fun z => nomatch z) fun tk => ⟨.bl b, H, I.kept (t' := tk) fun _ _ z => z, rfl, q⟩
end VL

set_option Elab.async false
set_option linter.all false
set_option maxRecDepth 100000
set_option maxHeartbeats 4000000
namespace VL
open PySem PySem.Spec PyProof.Rows L2 NdefX
/-! ### what a law's text says of an own exception class with its own __init__ -/
abbrev exFd (qual : Str) (st : Stmt) (cc cda : Addr) (kV doc pm : Value) (an : Option Addr) (ct : Value) : FuncData := PySem.W.fnX "__init__" qual (defArgs st) (defBody st) (defScope st) [("__class__", cc)] .none kV doc pm an (.ref cda) ct
structure ExI (P : Program) (K : PySem.W.Frag) (mg : Str → Option Value) (name qual : Str) (D : Addr) (st : Stmt) (ps attrs : List Str) : Prop where
  init : ∃ (fI cc cda : Addr) (kV doc pm ct : Value) (an : Option Addr), SupK P K mg fI D cc cda (exFd qual st cc cda kV doc pm an ct) qual ∧ PySem.W.findIn K (.ref D) "__init__" = some (some (.ref fI)) ∧ PySem.W.typeIn K (.ref fI) = some (.type "function") ∧
    Binds K (exFd qual st cc cda kV doc pm an ct) ps []
  o : OexC K D
  na : ∀ a ∈ attrs, PySem.W.findIn K (.ref D) a = some none
  g : mg name = some (.ref D)
  exm : PySem.W.exmOne K (.ref D) (.ref D) = some true
  xf : XfC K D
  ec : ExcC K D
end VL

set_option Elab.async false
set_option linter.all false
set_option maxRecDepth 100000
set_option maxHeartbeats 4000000
namespace VL
open PySem PySem.Spec PyProof.Rows L2

/-! ### defs and methods that may raise -/
structure CalX (P : Program) (w : World) (K : PySem.W.Frag) (mg : Str → Option Value) (base : Heap) (k : Nat) (x : Str) (sp : Sp) : Prop where
  ex : ∃ (f : Addr) (fd : FuncData) (ps : List Str), FnOk P w K mg base (L2.CX P w) k f fd ps sp ∧ mg x = some (.ref f) ∧ PySem.W.keepIn K (.ref f) = true ∧ Binds K fd ps []
structure MetX (P : Program) (w : World) (K : PySem.W.Frag) (mg : Str → Option Value) (base : Heap) (k : Nat) (C : Addr) (m : Str) (sp : Sp) : Prop where
  ex : ∃ (f : Addr) (fd : FuncData) (ps : List Str), Cls K C ∧ Meth K C m f ∧ FnOk P w K mg base (L2.CX P w) k f fd ps sp ∧ Binds K fd ps []
structure MakX (P : Program) (w : World) (K : PySem.W.Frag) (mg : Str → Option Value) (base : Heap) (k : Nat) (x : Str) (C : Addr) (sp : Sp) : Prop where
  ex : ∃ (f : Addr) (fd : FuncData) (ps : List Str), Mk K C f ∧ FnOk P w K mg base (L2.CX P w) k f fd ps sp ∧ mg x = some (.ref C) ∧ Binds K fd ps []
section
variable {X : Cx} {k j : Nat} {C : Addr} {x m : Str} {sp : Sp} {E : XK} {p pos apos : Pos} {e o : Expr} {es : List Expr} {ta : TE} {t : TA}
theorem pe_cX (hx : Passes (L2.CX X.prog X.w) X E) (c : CalX X.prog X.w X.K X.mg X.base k x sp) (hr : Room j X.A) (hk : k ≤ j) (hg : Gl X x) (ha : PA X (e :: es) t)
    (hdb : (x == ("__debug__" : Str)) = false := by decide) (he : starEach (e :: es) X.env = (false, eval e X.env) :: starEach es X.env := by rfl) (hpl : (backTo pos (starEach es X.env)).any (·.1) = false := by rfl) :
    PE X (.Call (.Name x p) (e :: es) [] pos) (tCall sp [] E t) := by
  obtain ⟨f, fd, ps, F, hm, kp, b⟩ := c.ex
  exact pe_call F (hr.mono hk) hg hm kp b .nil hx ha hdb he hpl
theorem pe_mkX (hx : Passes (L2.CX X.prog X.w) X E) (c : MakX X.prog X.w X.K X.mg X.base k x C sp) (hr : Room j X.A) (hk : k + 1 ≤ j) (hg : Gl X x) (ha : PA X (e :: es) t)
    (hdb : (x == ("__debug__" : Str)) = false := by decide) (he : starEach (e :: es) X.env = (false, eval e X.env) :: starEach es X.env := by rfl) (hpl : (backTo pos (starEach es X.env)).any (·.1) = false := by rfl) :
    PE X (.Call (.Name x p) (e :: es) [] pos) (tMake C sp [] E t) := by
  obtain ⟨f, fd, ps, M, F, hm, b⟩ := c.ex
  exact pe_make M F (hr.mono hk) hg hm b .nil hx ha hdb he hpl
theorem pe_mtX {pl : Sem Bool} (hx : Passes (L2.CX X.prog X.w) X E) (c : MetX X.prog X.w X.K X.mg X.base k C m sp) (hr : Room j X.A) (hk : k ≤ j) (he : PE X o ta) (ha : PA X (e :: es) t)
    (hst : starEach (e :: es) X.env = (false, eval e X.env) :: starEach es X.env := by rfl) (hpl : (backTo pos (starEach es X.env)).any (·.1) = false := by rfl)
    (ht : eval (.Call (.Attribute o m apos) (e :: es) [] pos) X.env = (do
      let ov ← eval o X.env
      standAt apos.atName
      let (f, first) ← holding [ov] (getMethod ov m pl)
      callWith pos f first (backTo pos (starEach (e :: es) X.env)) (backToKw pos (keywordEach [] X.env))) := by rfl) :
    PE X (.Call (.Attribute o m apos) (e :: es) [] pos) (tMeth C m sp [] E ta t) := by
  obtain ⟨f, fd, ps, hc, hm, F, b⟩ := c.ex
  exact pe_meth (pl := pl) he hc hm F (hr.mono hk) b .nil hx ha hst hpl ht
theorem pe_mtX0 {pl : Sem Bool} (hx : Passes (L2.CX X.prog X.w) X E) (c : MetX X.prog X.w X.K X.mg X.base k C m sp) (hr : Room j X.A) (hk : k ≤ j) (he : PE X o ta)
    (ht : eval (.Call (.Attribute o m apos) [] [] pos) X.env = (do
      let ov ← eval o X.env
      standAt apos.atName
      let (f, first) ← holding [ov] (getMethod ov m pl)
      callWith pos f first (backTo pos (starEach [] X.env)) (backToKw pos (keywordEach [] X.env))) := by rfl) :
    PE X (.Call (.Attribute o m apos) [] [] pos) (tMeth C m sp [] E ta tNil) := by
  obtain ⟨f, fd, ps, hc, hm, F, b⟩ := c.ex
  exact pe_meth0 (pl := pl) he hc hm F (hr.mono hk) b .nil hx ht
end
section
variable {P : Program} {w : World} {K : PySem.W.Frag} {mg : Str → Option Value} {base : Heap}
theorem okX_of {x qual : Str} {st : Stmt} {ps N : List Str} {f : Addr} {fd : FuncData} {k : Nat} {sp : Sp} (F : Fun K x qual st f fd) (S : FnScope N ps (defScope st)) (len : ∀ vs H Q E, sp vs H Q E → vs.length = ps.length)
    (hbody : ∀ (f : Addr) (cdv : Value) (A : Around) (outer : List Env) (s : Shared) (H : Hp) (vs : List V) (Q : VK) (E : XK), Room k (A.deeper (envOfC qual (defScope st) s.heap.objs.size f cdv)) → sp vs H Q E →
      ∃ t, PSs (cxOf (L2.CX P w) P w K mg base N qual (defScope st) f cdv A outer s H E) (defBody st) t ∧ t { nx := fun _ H' => Q .non H', rt := Q } (start N vs) H) : FnOk P w K mg base (L2.CX P w) (k + 1) f fd ps sp :=
  F.okX S len (hbody f)
theorem calX_of {x : Str} {st : Stmt} {ps N : List Str} {k : Nat} {sp : Sp} (D : DefE K mg x st ps) (S : FnScope N ps (defScope st)) (len : ∀ vs H Q E, sp vs H Q E → vs.length = ps.length)
    (hbody : ∀ (f : Addr) (cdv : Value) (A : Around) (outer : List Env) (s : Shared) (H : Hp) (vs : List V) (Q : VK) (E : XK), Room k (A.deeper (envOfC x (defScope st) s.heap.objs.size f cdv)) → sp vs H Q E →
      ∃ t, PSs (cxOf (L2.CX P w) P w K mg base N x (defScope st) f cdv A outer s H E) (defBody st) t ∧ t { nx := fun _ H' => Q .non H', rt := Q } (start N vs) H) : CalX P w K mg base (k + 1) x sp := by
  obtain ⟨f, fd, F, hm, b⟩ := D
  exact ⟨f, fd, ps, okX_of F S len hbody, hm, F.kp, b⟩
theorem metX_of {C : Addr} {x qual : Str} {st : Stmt} {ps N : List Str} {k : Nat} {sp : Sp} (D : MethE K C x qual st ps) (c : Cls K C) (S : FnScope N ps (defScope st)) (len : ∀ vs H Q E, sp vs H Q E → vs.length = ps.length)
    (hbody : ∀ (f : Addr) (cdv : Value) (A : Around) (outer : List Env) (s : Shared) (H : Hp) (vs : List V) (Q : VK) (E : XK), Room k (A.deeper (envOfC qual (defScope st) s.heap.objs.size f cdv)) → sp vs H Q E →
      ∃ t, PSs (cxOf (L2.CX P w) P w K mg base N qual (defScope st) f cdv A outer s H E) (defBody st) t ∧ t { nx := fun _ H' => Q .non H', rt := Q } (start N vs) H) : MetX P w K mg base (k + 1) C x sp := by
  obtain ⟨f, fd, F, hm, b⟩ := D
  exact ⟨f, fd, ps, c, hm, okX_of F S len hbody, b⟩
theorem makX_of {C : Addr} {cn qual : Str} {st : Stmt} {ps N : List Str} {k : Nat} {sp : Sp} (D : InitE K mg cn C qual st ps) (S : FnScope N ps (defScope st)) (len : ∀ vs H Q E, sp vs H Q E → vs.length = ps.length)
    (hbody : ∀ (f : Addr) (cdv : Value) (A : Around) (outer : List Env) (s : Shared) (H : Hp) (vs : List V) (Q : VK) (E : XK), Room k (A.deeper (envOfC qual (defScope st) s.heap.objs.size f cdv)) → sp vs H Q E →
      ∃ t, PSs (cxOf (L2.CX P w) P w K mg base N qual (defScope st) f cdv A outer s H E) (defBody st) t ∧ t { nx := fun _ H' => Q .non H', rt := Q } (start N vs) H) : MakX P w K mg base (k + 1) cn C sp := by
  obtain ⟨f, fd, F, M, hm, b⟩ := D
  exact ⟨f, fd, ps, M, okX_of F S len hbody, hm, b⟩
end
/-- what leaves a def that may raise -/
abbrev thruX {P : Program} {w : World} {K : PySem.W.Frag} {mg : Str → Option Value} {base : Heap} {N : List Str} {qual : Str} {scope : Scope} {f : Addr} {cdv : Value} {A : Around} {outer : List Env} {s : Shared} {H : Hp} {E : XK} :
    Passes (L2.CX P w) (cxOf (L2.CX P w) P w K mg base N qual scope f cdv A outer s H E) E := passes_call (W := fun cls d _ H => E cls d H) (takes_of rfl rfl rfl rfl) fun _ _ _ _ h => h
abbrev takeX {P : Program} {w : World} {K : PySem.W.Frag} {mg : Str → Option Value} {base : Heap} {N : List Str} {qual : Str} {scope : Scope} {f : Addr} {cdv : Value} {A : Around} {outer : List Env} {s : Shared} {H : Hp} {E : XK} :
    Takes (cxOf (L2.CX P w) P w K mg base N qual scope f cdv A outer s H E) (fun cls d _ H => E cls d H) := takes_of rfl rfl rfl rfl
end VL

set_option Elab.async false
set_option linter.all false
set_option maxRecDepth 100000
set_option maxHeartbeats 4000000
namespace VL
open PySem PySem.Spec PyProof.Rows L2
/-! ### isinstance of a caught own error without a dict, whatever was caught; a call in a try's body -/
theorem call_isEN {X : Cx} {a D : Addr} {oe : Obj} {cls : Value} {d : Option Addr} {pn : List (Addr × Obj)} (C : ExcC X.K D) (hz : Zc cls d oe) (hf : ∃ vs, oe.data = .fields vs) :
    CallR (X.suite a ((a, oe) :: pn)) (.builtin "isinstance") (fun xs H Q => cls = .ref D ∧ d = none ∧ ∃ (c : V) (cv : Value) (b : Bool), xs = [.ref a, c] ∧ (∀ u, RelV c u → u = cv) ∧ PySem.W.kitOne X.K (.ref D) cv = some b ∧ Q (.bl b) H) := by
  intro pins s σ H xs us Q I r h
  obtain ⟨ec, ed, h⟩ := h
  subst ec ed
  exact call_isE C hz hf pins s σ H xs us Q I r h
section
variable {X : Cx} {k j : Nat} {x : Str} {sp : Sp} {E : L2.St → XK} {p pos : Pos} {e : Expr} {es : List Expr} {t : TA}
theorem pe_cXS (c : CalX X.prog X.w X.K X.mg X.base k x sp) (hr : Room j X.A) (hk : k ≤ j) (hg : Gl X x) (hx : ∀ σ, PassesAt (L2.CX X.prog X.w) X σ (E σ)) (ha : PA X (e :: es) t)
    (hdb : (x == ("__debug__" : Str)) = false := by decide) (he : starEach (e :: es) X.env = (false, eval e X.env) :: starEach es X.env := by rfl) (hpl : (backTo pos (starEach es X.env)).any (·.1) = false := by rfl) :
    PE X (.Call (.Name x p) (e :: es) [] pos) (tCallS sp E t) := by
  obtain ⟨f, fd, ps, F, hm, kp, b⟩ := c.ex
  exact pe_callS F (hr.mono hk) hg hm kp b hx ha hdb he hpl
end
end VL

set_option Elab.async false
set_option linter.all false
set_option maxRecDepth 100000
set_option maxHeartbeats 4000000
namespace VL
open PySem PySem.Spec PyProof.Rows L2 L2H

/-- an unreachable rest -/
theorem pss_dead {X : Cx} {sts : List Stmt} : PSs X sts (fun _ _ _ => False) := ⟨fun _ _ _ _ _ _ z => z.elim⟩

/-! ### a def that raises nothing, called while an error is handled, whatever its context -/
abbrev cxQ (P : Program) (w : World) (K : PySem.W.Frag) (mg : Str → Option Value) (base : Heap) (N : List Str) (qual : Str) (sc : Scope) (f : Addr) (cd : Value) (A : Around) (outer : List Env) (s : Shared) (H : Hp) (p : Addr × Obj) : Cx := cxH CX0 P w K mg base N qual sc f cd A outer s H E0 p
structure CalQ (P : Program) (w : World) (K : PySem.W.Frag) (mg : Str → Option Value) (base : Heap) (k : Nat) (x : Str) (sp : Sp) : Prop where
  ex : ∃ (f : Addr) (fd : FuncData) (ps : List Str), (∀ vs H Q E, sp vs H Q E → vs.length = ps.length) ∧ mg x = some (.ref f) ∧ PySem.W.keepIn K (.ref f) = true ∧ Binds K fd ps [] ∧
    ∀ (A : Around) (outer : List Env) (s : Shared) (H : Hp) (args : Args) (us : List Value) (vs : List V) (Q : VK) (p : Addr × Obj), RoomH k A → PinOk outer H s p → Env0 P w K mg base A outer s H → BindsTo s fd args (ps.zip us) → Vals vs us → sp vs H Q E0 →
      codeAny (model P w) A (.call (.ref f) args) (CR CX0 outer P w H s Q E0) s
section
variable {P : Program} {w : World} {K : PySem.W.Frag} {mg : Str → Option Value} {base : Heap}
theorem calQ_of {x : Str} {st : Stmt} {ps N : List Str} {k : Nat} {sp : Sp} (D : DefE K mg x st ps) (S : FnScope N ps (defScope st)) (len : ∀ vs H Q E, sp vs H Q E → vs.length = ps.length)
    (hbody : ∀ (f : Addr) (cdv : Value) (A : Around) (outer : List Env) (s : Shared) (H : Hp) (vs : List V) (Q : VK) (p : Addr × Obj), RoomH k (A.deeper (envOfC x (defScope st) s.heap.objs.size f cdv)) → sp vs H Q E0 →
      ∃ t, PSs (cxQ P w K mg base N x (defScope st) f cdv A outer s H p) (defBody st) t ∧ t { nx := fun _ H' => Q .non H', rt := Q } (L2.start N vs) H) : CalQ P w K mg base (k + 1) x sp := by
  obtain ⟨f, fd, F, hm, hbs⟩ := D
  have F0 := F
  obtain ⟨oc, od, kV, doc, pm, an, cdv, ct, osl, efd, lk, hcd⟩ := F.ex
  subst efd
  refine ⟨f, _, ps, len, hm, F0.kp, hbs, fun A outer s H args us vs Q p hr hpin e0 hb rv hsp => ?_⟩
  have hlen := len _ _ _ _ hsp
  have hK : K.In s.heap := e0.mod.kin.keeps fun b o z => (e0.bs b o z).1
  have hNo : s.heap.NoLimit := e0.mod.nolimit.keeps fun b o z => (e0.bs b o z).1
  refine codeAny_call_function hr.depth (hK _ _ lk) rfl S.co S.gen rfl (PySem.W.codeRec_of hK hcd) (hb _ _ _ _ ?_)
  refine wpAny_newFunctionEnv_cells S.kind (fun ⟨n, u⟩ hy => ?_) fun env he s1 z => ?_
  · exact (S.par n (List.of_mem_zip hy).1).imp id fun q => ⟨q, PySem.W.cellsFrom_some _ _ _ (.inl q)⟩
  subst he
  refine ⟨hNo.keeps z.toInCall.keep, codeAny_func ?_⟩
  obtain ⟨t, ht, hq⟩ := hbody f cdv A outer s H vs Q p (hr.deeper _) hsp
  have J : Inv (cxQ P w K mg base N x (defScope st) f cdv A outer s H p) [] (L2.start N vs) H s1 := inv_startH S hpin e0 hlen rv z
  have out : ∀ {σ' : L2.St} {H' : Hp} {v : V} {u : Value} {s' : Shared}, Inv (cxQ P w K mg base N x (defScope st) f cdv A outer s H p) [] σ' H' s' → L2.RelV v u → Q v H' → CE outer P w H s Q u s' :=
    fun {σ' H' v u s'} J' r' q => ⟨v, H', J'.os, J'.bare, J'.base, J'.hok, r', q⟩
  refine wpAny_mono (ht.run [] s1 _ H _ J hq) (fun fl s' hs => ?_) fun e s' hs => hs
  cases fl with
  | ret u =>
    obtain ⟨v, σ', H', J', r', q⟩ := hs
    exact out J' r' q
  | next =>
    obtain ⟨σ', H', J', q⟩ := hs
    exact out (v := V.non) (u := Value.none) J' rfl q
  | brk => exact hs.elim fun _ hs => hs.elim fun _ hs => hs.2.elim
  | cont => exact hs.elim fun _ hs => hs.elim fun _ hs => hs.2.elim
end
section
variable {X : Cx} {k j : Nat} {x : Str} {sp : Sp} {p pos : Pos} {e : Expr} {es : List Expr} {t : TA}
theorem pe_cQ {q : Addr × Obj} (hq : q ∈ X.pn) (c : CalQ X.prog X.w X.K X.mg X.base k x sp) (hr : RoomH j X.A) (hk : k ≤ j) (hg : Gl X x) (ha : PA X (e :: es) t)
    (hdb : (x == ("__debug__" : Str)) = false := by decide) (he : starEach (e :: es) X.env = (false, eval e X.env) :: starEach es X.env := by rfl) (hpl : (backTo pos (starEach es X.env)).any (·.1) = false := by rfl) :
    PE X (.Call (.Name x p) (e :: es) [] pos) (fun σ H Q => t σ H fun vs H1 => sp vs H1 Q E0) := by
  obtain ⟨f, fd, ps, len, hm, kp, hbs, run⟩ := c.ex
  refine ⟨fun pins s σ H Q I h => ?_⟩
  refine wpAny_Call_Name_kw (ld_glob I hg hm ?_ hdb)
  refine PySem.W.callWith_K (h₀ := X.base) I.ok.mod.kin kp (thn (ha.run pos pins s σ H _ I h) fun us s1 hh => ?_) he hpl
  obtain ⟨vs, H1, I1, rv, hsp⟩ := hh
  refine ⟨I1.kIn, ?_⟩
  have hlen : us.length = ps.length := by rw [← rv.length]; exact len _ _ _ _ hsp
  have bb := hbs s1 us I1.kIn (by rw [List.append_nil]; exact hlen)
  rw [List.append_nil] at bb
  have P1 := I1.pin q (List.mem_append_left _ hq)
  have hpin : PinOk X.stack H1 s1 q := ⟨P1.1, P1.2.1, fun hm => (List.mem_cons.mp (I1.stkSub q.1 hm)).elim P1.2.2.1 P1.2.2.2.1, P1.2.2.2.2⟩
  refine wpAny_call (codeAny_mono (run X.A X.stack s1 H1 ⟨us, []⟩ us vs Q q (hr.mono hk) hpin I1.env0 bb rv hsp) fun r s' hz => ?_)
  cases r with
  | error e => exact (pass0 (X := X) pins σ H1 s1 e s' I1 hz)
  | ok fl =>
    cases fl with
    | ret u => exact I1.after hz
    | next => exact hz.elim
    | brk => exact hz.elim
    | cont => exact hz.elim
end
/-! ### a call of a local name that holds a def that may raise -/
theorem pe_callLS {X : Cx} {CX : CXT} {k i : Nat} {f : Addr} {fd : FuncData} {ps : List Str} {sp : Sp} {E : L2.St → XK} {x : Str} {p pos : Pos} {e : Expr} {es : List Expr} {t : TA}
    (F : FnOk X.prog X.w X.K X.mg X.base CX k f fd ps sp) (hr : Room k X.A) (hN : X.N[i]? = some x) (hv : Vis X.env.scope x) (hk : PySem.W.keepIn X.K (.ref f) = true) (hb : Binds X.K fd ps []) (hx : ∀ σ, PassesAt CX X σ (E σ)) (ha : PA X (e :: es) t)
    (hdb : (x == ("__debug__" : Str)) = false := by decide) (hcd : (x == ("__classdict__" : Str)) = false := by decide)
    (he : starEach (e :: es) X.env = (false, eval e X.env) :: starEach es X.env := by rfl) (hpl : (backTo pos (starEach es X.env)).any (·.1) = false := by rfl) :
    PE X (.Call (.Name x p) (e :: es) [] pos) (fun σ H Q => σ[i]? = some (some (.ref f)) ∧ t σ H fun vs H1 => sp vs H1 Q (E σ)) := by
  refine ⟨fun pins s σ H Q I h => ?_⟩
  obtain ⟨hs, ht⟩ := h
  have hv := (pe_var (pos := p) hN hv hdb hcd).run pins s σ H (fun v H1 => v = .ref f ∧ H1 = H) I ⟨.ref f, hs, rfl, rfl⟩
  refine wpAny_Call_Name_kw (thn hv fun u s1 hh => ?_)
  obtain ⟨v, H1, I1, r1, ev, eH⟩ := hh
  subst ev eH
  cases r1
  refine PySem.W.callWith_K (h₀ := X.base) I.ok.mod.kin hk (thn (ha.run pos pins s1 σ _ _ I1 ht) fun us s2 hh => ?_) he hpl
  obtain ⟨vs, H2, I2, r, q⟩ := hh
  exact ⟨I2.kIn, run_fnS F hr hb (hx σ) I2 r q⟩
end VL

set_option Elab.async false
set_option linter.all false
set_option maxRecDepth 100000
set_option maxHeartbeats 4000000
namespace VL
open PySem PySem.Spec PyProof.Rows L2

section
variable {X : Cx} {CX : CXT} {k : Nat} {f : Addr} {fd : FuncData} {ps : List Str} {sp : Sp} {E : XK} {A1 : Around}
/-- a callee runs somewhere below the body -/
theorem run_at {pins : List (Addr × Obj)} {σ : L2.St} {H : Hp} {s : Shared} {Q : VK} {us : List Value} {vs : List V} (F : FnOk X.prog X.w X.K X.mg X.base CX k f fd ps sp) (sb : Sub X k A1) (hb : Binds X.K fd ps []) (hx : Passes CX X E)
    (I : Inv X pins σ H s) (r : Vals vs us) (h : sp vs H Q E) : wpAny (model X.prog X.w) A1 (call (.ref f) us) (EP X pins σ Q) X.xe s := by
  have e0 : Env0 X.prog X.w X.K X.mg X.base A1 X.stack s H := by
    have e := I.env0
    exact ⟨by rw [sb.fr]; exact e.frames, e.mod, e.bs, e.bsz, e.funs, e.frf, e.hok, e.bare⟩
  have hl := F.len _ _ _ _ h
  have hl2 : (us ++ ([] : List Value)).length = ps.length := by rw [List.append_nil, ← r.length]; exact hl
  refine wpAny_call (codeAny_mono (F.run A1 X.stack s H ⟨us, []⟩ us vs Q E sb.room e0 (by
    have q := hb s us I.kIn hl2
    rw [List.append_nil] at q
    exact q) r h) fun r s' hq => ?_)
  cases r with
  | error e => exact hx pins σ H s e s' I hq
  | ok fl =>
    cases fl with
    | ret w => exact I.after hq
    | next => exact False.elim hq
    | brk => exact False.elim hq
    | cont => exact False.elim hq

/-- x in o, o an instance with a __contains__ of the text -/
def rInOwn (C : Addr) (sp : Sp) (E : XK) : R2 := fun x y H Q => ∃ a dx fs, y = .ref a ∧ H a = some (.ins C dx fs) ∧ sp [.ref a, x] H (fun v H' => ∃ c, v = .bl c ∧ Q (.bl c) H') E
theorem op_in_own {C : Addr} (hs : PySem.W.findIn X.K (.ref C) "__contains__" = some (some (.ref f))) (hf : PySem.W.isFn X.K (.ref f) = true) (F : FnOk X.prog X.w X.K X.mg X.base CX k f fd ps sp) (hr : Room k X.A) (hb : Binds X.K fd ps []) (hx : Passes CX X E) :
    OpR X (compareOp .In) (rInOwn C sp E) := by
  intro pins s σ H x y v u Q I rx ry h
  obtain ⟨a, dx, fs, rfl, ha, q⟩ := h
  cases ry
  obtain ⟨mA, J, _⟩ := ins_get I.hok ha
  obtain ⟨od, J, _⟩ := J.look
  obtain ⟨m, hF⟩ := I.fr
  refine PySem.W.in_K hF I.ok.mod.kin J hs hf ?_
  refine wpAny_mono (run_at F ⟨hr, rfl⟩ hb hx I (.cons (show RelV (.ref a) (.ref a) from rfl) (.cons rx .nil)) q) (fun r s' hq => ?_) fun _ _ z => z
  obtain ⟨w', H', I', rw', c, rfl, q'⟩ := hq
  cases rw'
  exact wpAny_truthy_bool ⟨.bl c, H', I', rfl, q'⟩

def rNotInOwn (C : Addr) (sp : Sp) (E : XK) : R2 := fun x y H Q => ∃ a dx fs, y = .ref a ∧ H a = some (.ins C dx fs) ∧ sp [.ref a, x] H (fun v H' => ∃ c, v = .bl c ∧ Q (.bl (!c)) H') E
theorem op_notIn_own {C : Addr} (hs : PySem.W.findIn X.K (.ref C) "__contains__" = some (some (.ref f))) (hf : PySem.W.isFn X.K (.ref f) = true) (F : FnOk X.prog X.w X.K X.mg X.base CX k f fd ps sp) (hr : Room k X.A) (hb : Binds X.K fd ps []) (hx : Passes CX X E) :
    OpR X (compareOp .NotIn) (rNotInOwn C sp E) := by
  intro pins s σ H x y v u Q I rx ry h
  obtain ⟨a, dx, fs, rfl, ha, q⟩ := h
  cases ry
  obtain ⟨mA, J, _⟩ := ins_get I.hok ha
  obtain ⟨od, J, _⟩ := J.look
  obtain ⟨m, hF⟩ := I.fr
  refine PySem.W.notIn_K hF I.ok.mod.kin J hs hf ?_
  refine wpAny_mono (run_at F ⟨hr, rfl⟩ hb hx I (.cons (show RelV (.ref a) (.ref a) from rfl) (.cons rx .nil)) q) (fun r s' hq => ?_) fun _ _ z => z
  obtain ⟨w', H', I', rw', c, rfl, q'⟩ := hq
  cases rw'
  exact wpAny_truthy_bool ⟨.bl (!c), H', I', rfl, q'⟩

/-- len(o), o an instance with a __len__ of the text -/
def rLenOwn (C : Addr) (sp : Sp) (E : XK) : List V → Hp → VK → Prop := fun xs H Q => ∃ a dx fs, xs = [.ref a] ∧ H a = some (.ins C dx fs) ∧ sp [.ref a] H (fun v H' => ∃ n : Int, v = .int n ∧ 0 ≤ n ∧ n < 2 ^ 63 ∧ Q (.int n) H') E
theorem call_len_own {C : Addr} (hs : PySem.W.findIn X.K (.ref C) "__len__" = some (some (.ref f))) (hf : PySem.W.isFn X.K (.ref f) = true) (F : FnOk X.prog X.w X.K X.mg X.base CX k f fd ps sp) (hr : Room (k + 1) X.A) (hb : Binds X.K fd ps []) (hx : Passes CX X E) :
    CallR X (.builtin "len") (rLenOwn C sp E) := by
  intro pins s σ H xs us Q I rv h
  obtain ⟨a, dx, fs, rfl, ha, q⟩ := h
  obtain ⟨u, rfl, ru⟩ := rv.one
  cases ru
  obtain ⟨mA, J, _⟩ := ins_get I.hok ha
  obtain ⟨od, J, _⟩ := J.look
  have sb : Sub X k X.A.in1 := Sub.in1 (⟨hr, rfl⟩ : Sub X (k + 1) X.A)
  refine Calls.call_function_entry kind_len plain_len entry_len (args_len1 _) ?_
  unfold Builtin.«len»
  refine wpAny_bind (m := oneArg "len" _) (wpAny_pure ?_)
  refine wpAny_bind (m := callSpecial? (.ref a) (Str.ofString "__len__")) (PySem.W.special_fn I.kIn J hs (beq_iff_eq.mp hf) (wpAny_mono (run_at F sb hb hx I (.cons (show RelV (.ref a) (.ref a) from rfl) .nil) q) (fun r s' hr' => ?_) fun _ _ y => y))
  obtain ⟨v, H', I', r, n, rfl, h0, h1, hq⟩ := hr'
  obtain ⟨t, rfl⟩ := r
  refine wpAny_bind (wpAny_holding (wpAny_pure ?_))
  refine wpAny_bind (wpAny_letGo ?_)
  show wpAny _ _ (if n < 0 then _ else _) _ _ _
  rw [if_neg (by omega)]
  show wpAny _ _ (if n ≥ 2 ^ 63 then _ else _) _ _ _
  rw [if_neg (by omega)]
  exact wpAny_bind (wpAny_mkInt (wpAny_pure ⟨_, rfl, ⟨.int n, H', I'.tok _, ⟨_, rfl⟩, hq⟩⟩))
end
end VL

set_option Elab.async false
set_option linter.all false
set_option maxRecDepth 100000
set_option maxHeartbeats 4000000
namespace VL
open PySem PySem.Spec PyProof.Rows L2
section
variable {X : Cx} {k j : Nat} {C : Addr} {sp : Sp}
/-- len(o), o of an own class -/
theorem call_lenM (c : Met X.prog X.w X.K X.mg X.base k C "__len__" sp) (hr : Room j X.A) (hk : k + 1 ≤ j) : CallR X (.builtin "len") (rLenOwn C sp E0) := by
  obtain ⟨f, fd, ps, hc, hm, F, b⟩ := c.ex
  exact call_len_own hm.1 hm.2 F (hr.mono hk) b pass0
end
end VL

set_option Elab.async false
set_option linter.all false
set_option maxRecDepth 100000
set_option maxHeartbeats 4000000
/-! x != y of data that are the same, up to depth 180 -/
namespace VL
open PySem PySem.Spec PyProof.Rows L2
def rNeW (K : PySem.W.Frag) : R2 := fun x y H Q => ∃ d, Dp K H x d ∧ Dp K H y d ∧ d.plain = true ∧ PyData.depth d ≤ 180 ∧ Q (.bl false) H
theorem op_neW {X : Cx} {K : PySem.W.Frag} (hK : X.K = K) (hu : X.A.units + 190 < cLine) : OpR X (compareOp .NotEq) (rNeW K) := by
  subst hK
  intro pins s σ H x y v u Q I rx ry h
  obtain ⟨d, hd, he, sd, dp, q⟩ := h
  obtain ⟨as, r1⟩ := Dp.reads I d x v hd rx
  obtain ⟨bs, r2⟩ := Dp.reads I d y u he ry
  refine SeqAt.ne_plain r1 r2 sd sd (by have := Nat.min_le_left d.depth d.depth; omega) ⟨.bl _, H, I, rfl, ?_⟩
  rw [SeqAt.eqv_refl_plain d sd]
  exact q
theorem u190 {k : Nat} {A : Around} (r : Room k A) : A.units + 190 < cLine := by
  have := r.un
  omega
end VL

set_option Elab.async false
set_option linter.all false
set_option maxRecDepth 100000
set_option maxHeartbeats 4000000
namespace VL
open PySem PySem.Spec PyProof.Rows L2

/-! ### for i, x in enumerate(t), t a tuple -/
theorem meets_enum1 {v : Value} {o : Obj} {H : Heap → Prop} (B : Begins v o H) :
    Meets (Builtin.«enumerate.__new__» ⟨[.type "enumerate", v], []⟩) (fun _ R s => H s.heap ∧
      R (.ok (.ret (.ref (s.heap.push o).objs.size))) { s with heap := (s.heap.push o).push { cls := .type "enumerate", data := .fields #[.none, .bool false, .ref s.heap.objs.size, rawInt 0, .none, .none] } }) :=
  .of_wp fun prog w A R s h => by
    obtain ⟨hp, g, d, tk, os⟩ := s; obtain ⟨h1, h⟩ := h
    have hsub := sub_enumerate
    have q1 : ∀ {A' : Around} {E : Value → Shared → Prop} {Q : Value → Shared → Prop}, Q (.ref hp.objs.size) ⟨hp.push o, g, d, tk, os⟩ → wpAny (model prog w) A' (pyIter v) Q E ⟨hp, g, d, tk, os⟩ :=
      fun q => B.iter prog w _ _ ⟨hp, g, d, tk, os⟩ _ h1 q
    wp_walk using q1
    refine wpAny_stack_any fun st => wpAny_pure ?_
    split
    · rename_i c _ _ _ _ _
      cases (c == Value.type "enumerate")
      · wp_walk using q1
        exact ⟨_, rfl, h⟩
      · wp_walk using q1
        exact ⟨_, rfl, h⟩
    · wp_walk using q1
      exact ⟨_, rfl, h⟩
section
variable {prog : Program} {w : World} {A : Around} {E : Value → Shared → Prop} {s : Shared}
theorem enum_begins1 {v : Value} {o : Obj} {H : Heap → Prop} {Q : Value → Shared → Prop} (B : Begins v o H) (h1 : H s.heap)
    (h : ∀ h', IsEnum h' (s.heap.objs.size + 1) s.heap.objs.size 0 .none → h'.get? s.heap.objs.size = some o → h'.objs.size = s.heap.objs.size + 2 →
      (∀ b o, s.heap.get? b = some o → h'.get? b = some o) → Q (.ref (s.heap.objs.size + 1)) { s with heap := h' }) :
    wpAny (model prog w) A (call (.type "enumerate") [v]) Q E s := by
  refine callType_new F.called_enumerate (by decide) (F.typeCall_enumerate_1 _) (F.newCall_enumerate_1 _) (fun obj => F.args_object_init_2 obj _) F.entry_enumerate_new
    (meets_enum1 B) ⟨h1, ?_⟩
  have hz : (s.heap.push o).objs.size = s.heap.objs.size + 1 := Heap.size_push ..
  show _ ∧ _
  rw [hz]
  have he : IsEnum ((s.heap.push o).push { cls := .type "enumerate", data := .fields #[.none, .bool false, .ref s.heap.objs.size, rawInt 0, .none, .none] }) (s.heap.objs.size + 1) s.heap.objs.size 0 .none := by
    have := Heap.get?_push_size (s.heap.push o) (o := { cls := .type "enumerate", data := .fields #[.none, .bool false, .ref s.heap.objs.size, rawInt 0, .none, .none] }) rfl
    rw [hz] at this; exact this
  refine ⟨⟨_, he, rfl⟩, h _ he (Heap.get?_push_of_some _ (Heap.get?_push_size _ B.free)) (by rw [Heap.size_push, hz]) fun b o x => Heap.get?_push_of_some _ (Heap.get?_push_of_some _ x)⟩
theorem pyNext_enumT_end {e it t : Addr} {i : Nat} {c : Int} {items : Array Value} {old : Value} {Q : Option Value → Shared → Prop} (hh : A.handled = none)
    (he : IsEnum s.heap e it c old) (hit : s.heap.IsTupleIter it t i) (hl : s.heap.IsTuple t items) (hx : items[i]? = none)
    (hQ : ∀ h', Heap.ExtBut it s.heap h' → Q none { s with heap := h' }) : wpAny (model prog w) A (pyNext (.ref e)) Q E s := by
  have hT : s.TypeIs (.ref e) "enumerate" := ⟨_, he, rfl⟩
  unfold pyNext
  refine wpAny_bind (wpAny_attempt (wpAny_callSpecial?_slot (name := Str.ofString "__next__") hT F.slot_enumerate_next
    (wpAny_call_entry F.slot_enumerate_next hT F.entry_enumerate_next ?_ (F.args_enumerate_next_1 _))))
  show wpAny _ _ (field (.ref e) 2 >>= _) _ _ _
  refine wpAny_bind (wpAny_field he rfl (x := .ref it) rfl ?_)
  refine wpAny_bind (wpAny_nextOf_tuple_end hh hit hl hx fun h' x he' hx' => ?_)
  obtain ⟨o, ho, hc⟩ := hx'
  refine wpAny_bind (wpAny_isInstance (T := "StopIteration") (b := true) ⟨o, ho, hc⟩ isSubtype_stop ?_)
  exact wpAny_pure (hQ _ he')
end
/-- the tuple at a, each item in a new pair -/
def Iet (K : PySem.W.Frag) (a : Addr) : It :=
  ⟨fun i H => ∃ (xs : List V) (x : V), SqT K H a xs ∧ xs[i]? = some x, fun i H v H' => ∃ T x, v = .ref T ∧ H T = none ∧ H' = upd H T (.tup [.int (i : Nat), x]) ∧ ∀ xs, SqT K H a xs → xs[i]? = some x, fun i H => ∃ xs : List V, SqT K H a xs ∧ xs.length ≤ i⟩
theorem turn_enumT {P : Program} {w : World} {K : PySem.W.Frag} {elts : List Expr} {kk : Nat} {tpos : Pos} (a e it : Addr) :
    Turn P w K (.Tuple elts kk tpos) (Iet K a) [e, it] e (fun i h => (∃ old, IsEnum h e it ((i : Nat) : Int) old) ∧ h.IsTupleIter it a i ∧ e ≠ it ∧ e ≠ a ∧ a ≠ it) where
  mem := by simp
  obj := fun i h st b hb => by
    obtain ⟨⟨old, he⟩, ⟨o, ho, hc, hd⟩, _⟩ := st
    have e' : b = e ∨ b = it := by simpa using hb
    rcases e' with z | z
    · rw [z]; exact ⟨_, he, fun v q => nomatch q⟩
    · rw [z]; exact ⟨o, ho, fun v q => by rw [hd] at q; cases q⟩
  keep := fun i h h' st k => let ⟨⟨old, he⟩, hi, hne⟩ := st; ⟨⟨old, k e (by simp) _ he⟩, hi.at fun o q => k it (by simp) o q, hne⟩
  item := by
    intro X hP hw hK hc i pins s σ H E I hf st hg
    subst hP hw hK
    obtain ⟨⟨old, he⟩, hit, hne, hea, hai⟩ := st
    obtain ⟨xs, x, hq, hx⟩ := hg
    obtain ⟨its, rv, p, hz⟩ := I.tuple hq
    obtain ⟨u, hu, ru⟩ := rv.get hx
    have hel : e < s.heap.objs.size := Heap.lt_size he
    have hil : it < s.heap.objs.size := by obtain ⟨_, q, _⟩ := hit; exact Heap.lt_size q
    have p' : s.heap.IsTuple a its.toArray := p
    have hlt : i < its.toArray.size := by
      rcases Nat.lt_or_ge i its.toArray.size with h | h
      · exact h
      · have hn : its[i]? = none := by simpa using h
        rw [hn] at hu
        cases hu
    refine wpAny_pyNext_enum_itemC (Draws.tuple (prog := X.prog) (w := X.w) (A := X.A.in1) (I.ok.hd hc) it a hai its.toArray) he ⟨hit, p'⟩ hlt hne (by simp [hne, hea]) fun y h' tk hy ho hst hT hsz hk => ?_
    have ey : y = u := by
      have h1 : its.toArray[i]? = some u := by simpa using hu
      rw [h1] at hy
      exact (Option.some.inj hy).symm
    subst ey
    obtain ⟨hit', _⟩ := hst
    refine ⟨_, rfl, wpAny_letOwnedTupleGo_enum (s := { s with heap := h', toks := tk + 1 }) ho fun h'' he' sb => ?_⟩
    have hT2 : h''.get? s.heap.objs.size = some { cls := .type "tuple", data := .seq #[.int i tk, y] } := (sb.2 _ (Nat.ne_of_gt hel)).trans hT
    have new : ObjOk X.prog X.w (upd H s.heap.objs.size (.tup [.int (i : Nat), x])) h'' s.heap.objs.size (.tup [.int (i : Nat), x]) :=
      ⟨by show 2 ≤ sizeLine; decide, [.int i tk, y], .cons ⟨_, rfl⟩ (.cons ru .nil), ⟨_, hT2, rfl, _, rfl⟩⟩
    have I1 : Inv X pins σ (upd H s.heap.objs.size (.tup [.int (i : Nat), x])) { s with heap := h'', toks := tk + 1 } :=
      I.turnedNew (ch := [e, it]) (fun b ob hb q => (sb.2 b (fun z => hb (by simp [z]))).trans (hk b ob (fun z => hb (by simp [z])) (fun z => hb (by simp [z])) q)) hf (Nat.le_refl _) new
    refine ⟨.ref s.heap.objs.size, _, I1, rfl, ⟨_, x, rfl, I.hok.fresh (Nat.le_refl _), rfl, fun ys hy => by rw [I.tuple_inj hy hq]; exact hx⟩, ⟨⟨y, ?_⟩, hit'.at fun o q => (sb.2 it (Ne.symm hne)).trans q, hne, hea, hai⟩, fun b hb => ?_⟩
    · have e1 : ((i + 1 : Nat) : Int) = (i : Int) + 1 := by omega
      rw [e1]; exact he'
    · have hb' : b < s.heap.objs.size := by
        have e' : b = e ∨ b = it := by simpa using hb
        rcases e' with z | z
        · rw [z]; exact hel
        · rw [z]; exact hil
      rw [upd_ne (Nat.ne_of_lt hb')]
      exact (hf b hb).1
  done := by
    intro X hP hw hK hc i pins s σ H E I hf st hg
    subst hP hw hK
    obtain ⟨⟨old, he⟩, hit, hne, _⟩ := st
    obtain ⟨xs, hq, hx⟩ := hg
    obtain ⟨its, rv, p, hz⟩ := I.tuple hq
    obtain ⟨f0, f1, f2, f3, f4, f5⟩ := hf it (by simp)
    have hl := rv.length
    exact pyNext_enumT_end (I.ok.hd hc) he hit (show s.heap.IsTuple a its.toArray from p) (by simp; omega) fun h' eb => ⟨rfl, I.turned (t' := s.toks) (fun b o hb q => eb b o hb q) f0 f1 f3 f4 f5⟩
  self := fun A i s Q E st h => let ⟨⟨_, he⟩, _⟩ := st; wpAny_pyIter_enum he h
def iEnumT (K : PySem.W.Frag) (ta : TA) : TI := fun σ H R => ta σ H fun vs H1 => ∃ a xs, vs = [.ref a] ∧ SqT K H1 a xs ∧ R (Iet K a) H1
theorem pi_enumT {X : Cx} {e : Expr} {ta : TA} {p pos tpos : Pos} {elts : List Expr} {kk : Nat} (hg : Gl X "enumerate") (hm : X.mg "enumerate" = none) (ha : PA X [e] ta) (hs : starEach [e] X.env = [(false, eval e X.env)] := by rfl) :
    PI X (.Tuple elts kk tpos) (.Call (.Name "enumerate" p) [e] [] pos) (iEnumT X.K ta) := by
  refine ⟨fun pins s σ H R I h => ?_⟩
  refine Call_ (ld_blt I hg hm boot_enumerate (PyProof.Rows.callWith_type1 (thn (ha.run pos pins s σ H _ I h) fun us s1 ⟨vs, H1, I1, r1, q1⟩ => ?_) hs rfl))
  obtain ⟨a, xs, ex, hq, q⟩ := q1
  subst ex
  cases r1 with
  | cons r rr =>
    cases rr
    cases r
    obtain ⟨its, rv, p', hz⟩ := I1.tuple hq
    have hT : s1.heap.IsTuple a its.toArray := p'
    have hal : a < s1.heap.objs.size := by obtain ⟨_, q, _⟩ := hT; exact Heap.lt_size q
    refine enum_begins1 (begins_tuple a its.toArray) hT fun h' he ho hsz hk => wpAny_pyIter_enum he ?_
    have I2 : Inv X pins σ H1 { s1 with heap := h' } := I1.kept (t' := s1.toks) hk
    have hit : h'.IsTupleIter s1.heap.objs.size a 0 := ⟨_, ho, rfl, rfl⟩
    refine ⟨s1.heap.objs.size + 1, [s1.heap.objs.size + 1, s1.heap.objs.size], _, _, H1, rfl, I2, turn_enumT a (s1.heap.objs.size + 1) s1.heap.objs.size, ⟨⟨.none, he⟩, hit, Nat.succ_ne_self _, Nat.ne_of_gt (Nat.lt_succ_of_lt hal), Nat.ne_of_lt hal⟩, fun b hb => ?_, q⟩
    have e' : b = s1.heap.objs.size + 1 ∨ b = s1.heap.objs.size := by simpa using hb
    have hle : s1.heap.objs.size ≤ b := by
      rcases e' with z | z
      · rw [z]; exact Nat.le_add_right _ _
      · rw [z]; exact Nat.le_refl _
    exact I1.fpOk hle (I1.hok.fresh hle)
theorem walk_enumT {K : PySem.W.Frag} {a : Addr} {xs : List V} : Walk (Iet K a) xs.length (fun H => SqT K H a xs) (YPair (fun i => some (.int (i : Nat))) (fun i => xs[i]?)) := by
  refine ⟨fun i _ hi q => ⟨xs, xs[i], q, by simp [hi]⟩, fun _ q => ⟨xs, q, Nat.le_refl _⟩, fun i H v H' _ q y => ?_⟩
  obtain ⟨T, x, h1, h2, h3, h4⟩ := y
  exact ⟨T, .int (i : Nat), x, h1, h2, h3, rfl, h4 xs q⟩
end VL

set_option Elab.async false
set_option linter.all false
set_option maxRecDepth 100000
set_option maxHeartbeats 4000000
/-! sorted of tuples (text, text); sorted(d.items()) of a dict of texts -/
namespace S2S
open PySem PyProof.Rows Srt SrtO
abbrev Pss := Str × Str
def ltL (x y : Str) : Bool := decide (x.cps.toList < y.cps.toList)
theorem ltL_asym {x y : Str} (h : ltL x y = true) : ltL y x = false := decide_eq_false fun z => List.lt_asymm (of_decide_eq_true h) z
theorem ltL_irr {x : Str} : ltL x x = false := decide_eq_false fun z => List.lt_irrefl _ z
theorem ltL_le {x y : Str} (h : ltL y x = false) : x.cps.toList ≤ y.cps.toList := List.not_lt.mp (of_decide_eq_false h)
theorem ltL_tr {x y z : Str} (h1 : ltL y x = false) (h2 : ltL z y = false) : ltL z x = false := decide_eq_false fun h => absurd h (List.not_lt.mpr (List.le_trans (ltL_le h1) (ltL_le h2)))
theorem ltL_anti {x y : Str} (h1 : ltL x y = false) (h2 : ltL y x = false) : x = y := by
  have e : x.cps.toList = y.cps.toList := List.le_antisymm (ltL_le h2) (ltL_le h1)
  obtain ⟨a⟩ := x
  obtain ⟨b⟩ := y
  obtain ⟨a⟩ := a
  obtain ⟨b⟩ := b
  have e : a = b := e
  rw [e]
def ltSS (p q : Pss) : Bool := if p.1 = q.1 then ltL p.2 q.2 else ltL p.1 q.1
theorem ltSS_anti {p q : Pss} (h1 : ltSS p q = false) (h2 : ltSS q p = false) : p = q := by
  unfold ltSS at h1 h2
  by_cases e : p.1 = q.1
  · rw [if_pos e] at h1
    rw [if_pos e.symm] at h2
    exact Prod.ext e (ltL_anti h1 h2)
  · rw [if_neg e] at h1
    rw [if_neg (fun z => e z.symm)] at h2
    exact absurd (ltL_anti h1 h2) e
theorem swo_SS {α : Type} (k : α → Pss) : Swo fun v u => ltSS (k v) (k u) := by
  refine ⟨fun x y h => ?_, fun x y z h1 h2 => ?_⟩
  · unfold ltSS at h ⊢
    by_cases e : (k x).1 = (k y).1
    · rw [if_pos e] at h
      rw [if_pos e.symm]
      exact ltL_asym h
    · rw [if_neg e] at h
      rw [if_neg (fun z => e z.symm)]
      exact ltL_asym h
  · unfold ltSS at h1 h2 ⊢
    by_cases e1 : (k y).1 = (k x).1
    · rw [if_pos e1] at h1
      by_cases e2 : (k z).1 = (k y).1
      · rw [if_pos e2] at h2
        rw [if_pos (e2.trans e1)]
        exact ltL_tr h1 h2
      · rw [if_neg e2] at h2
        rw [if_neg (fun q => e2 (q.trans e1.symm)), ← e1]
        exact h2
    · rw [if_neg e1] at h1
      by_cases e2 : (k z).1 = (k y).1
      · rw [if_neg (fun q => e1 (e2.symm.trans q)), e2]
        exact h1
      · rw [if_neg e2] at h2
        by_cases e3 : (k z).1 = (k x).1
        · rw [e3] at h2
          exact absurd (ltL_anti h1 h2) e1
        · rw [if_neg e3]
          exact ltL_tr h1 h2
/-- there is one sorted list of the same things -/
theorem one {α : Type} {lt : α → α → Bool} (anti : ∀ x y, lt x y = false → lt y x = false → x = y) : ∀ {l m : List α}, Srtd lt l → Srtd lt m → l.Perm m → l = m
  | [], m, _, _, h => h.nil_eq
  | x :: l, [], _, _, h => absurd h.length_eq (by simp)
  | x :: l, y :: m, hl, hm, h => by
    have hl' := List.pairwise_cons.mp hl
    have hm' := List.pairwise_cons.mp hm
    have e : x = y := by
      rcases List.mem_cons.mp (h.mem_iff.mp (List.mem_cons_self (a := x) (l := l))) with e | hx
      · exact e
      · rcases List.mem_cons.mp (h.mem_iff.mpr (List.mem_cons_self (a := y) (l := m))) with e | hy
        · exact e.symm
        · exact anti _ _ (hm'.1 _ hx) (hl'.1 _ hy)
    subst e
    rw [one anti hl'.2 hm'.2 h.cons_inv]
def IsPS (h : Heap) (v : Value) (k : Pss) : Prop := ∃ a o t u n, v = .ref a ∧ h.get? a = some o ∧ o.cls = .type "tuple" ∧ o.data = .seq #[.str k.1 t, .str k.2 u] n
theorem IsPS.keeps {h h' : Heap} {v : Value} {k : Pss} (p : IsPS h v k) (kp : ∀ b o, h.get? b = some o → o.cls = .type "tuple" → h'.get? b = some o) : IsPS h' v k := by
  obtain ⟨a, o, t, u, n, e, ho, hc, hd⟩ := p
  exact ⟨a, o, t, u, n, e, kp _ _ ho hc, hc, hd⟩
section
variable {prog : Program} {w : World} {A : Around} {E : Value → Shared → Prop} {s : Shared}
theorem ps_cmp {vs : List Value} {k : Value → Pss} (hp : ∀ v ∈ vs, IsPS s.heap v (k v)) : Cmp prog w A s (tuples' true) (fun p => p.1 ∈ vs) (lt2 fun v u => ltSS (k v) (k u)) := by
  intro p q hm hm'
  have h1 := hp _ hm
  have h2 := hp _ hm'
  show wpAny (model prog w) A (keyLt' (tuples' true) p.1 q.1) (fun r s' => s' = s ∧ r = ltSS (k p.1) (k q.1)) (fun _ _ => False) s
  unfold ltSS
  generalize k p.1 = K1 at h1 ⊢
  generalize k q.1 = K2 at h2 ⊢
  obtain ⟨x, y⟩ := K1
  obtain ⟨x', y'⟩ := K2
  obtain ⟨a, o, t, u, n, e, ho, hc, hd⟩ := h1
  obtain ⟨a', o', t', u', n', e', ho', hc', hd'⟩ := h2
  rw [e, e']
  refine PySem.W.kat_lt ho hd ho' hd' ?_
  show PySem.W.KatLex prog w A true (decide (2 < 2)) _ [(.str x t, .str x' t'), (.str y u, .str y' u')] 0 s
  dsimp only
  refine PySem.W.kat_cons (SeqAt.EqAt.str_str x t x' t' prog w _ _ ?_)
  refine PySem.W.kat_go (fun e1 => ?_) (fun e1 => ?_)
  · have ex : x = x' := by simpa using e1
    rw [if_pos ex]
    refine PySem.W.kat_yes (PySem.W.kat_cons (SeqAt.EqAt.str_str y u y' u' prog w _ _ ?_))
    refine PySem.W.kat_go (fun e2 => ?_) (fun e2 => ?_)
    · have ey : y = y' := by simpa using e2
      refine PySem.W.kat_yes (PySem.W.kat_nil ?_)
      exact ⟨rfl, by rw [ey]; exact ltL_irr.symm⟩
    · refine PySem.W.kat_no (PySem.W.kat_one _ _ (PyProof.Rows.lt_str ?_))
      exact (show s = s ∧ decide (y.cps.toList < y'.cps.toList) = ltL y y' from ⟨rfl, rfl⟩)
  · have ex : ¬ x = x' := by simpa using e1
    rw [if_neg ex]
    exact PySem.W.kat_no (PyProof.Rows.oneLt_any_str ⟨rfl, rfl⟩)
theorem firstsS {h : Heap} : ∀ {vs : List Value}, (∀ v ∈ vs, ∃ k, IsPS h v k) → ∃ fs : List Value, PySem.W.KatTups h vs fs ∧ fs.length = vs.length ∧ ∀ f ∈ fs, ∃ x t, f = Value.str x t
  | [], _ => ⟨[], PySem.W.KatTups.nil, rfl, fun _ hm => by simp at hm⟩
  | v :: vs, hp => by
    obtain ⟨fs, h1, h2, h3⟩ := firstsS (vs := vs) fun v' hm => hp v' (List.mem_cons_of_mem _ hm)
    obtain ⟨k, a, o, t, u, n, e, ho, hc, hd⟩ := hp v (List.mem_cons_self ..)
    subst e
    refine ⟨.str k.1 t :: fs, PySem.W.KatTups.cons ho hc hd rfl h1, by rw [List.length_cons, List.length_cons, h2], fun f hm => ?_⟩
    rcases List.mem_cons.mp hm with rfl | hm
    · exact ⟨k.1, t, rfl⟩
    · exact h3 f hm
theorem ps_sortable {a : Addr} {vs : List Value} {k : Value → Pss} (h0 : 0 < vs.length) (hp : ∀ v ∈ vs, IsPS s.heap v (k v)) (ha : ∀ o, s.heap.get? a = some o → o.cls ≠ .type "tuple") : SortableO prog w A s a vs fun v u => ltSS (k v) (k u) := by
  intro h' keep
  have hp' : ∀ v ∈ vs, IsPS h' v (k v) := fun v hm => (hp v hm).keeps fun b o e c => keep b o (fun z => by subst z; exact ha o e c) e
  obtain ⟨fs, h1, h2, h3⟩ := firstsS fun v hm => ⟨_, hp' v hm⟩
  refine ⟨tuples' true, fun Q E hq => ?_, ps_cmp hp'⟩
  refine PySem.W.kat_kind (T := .type "str") h1 (by omega) (fun f hm => ?_) (by rfl) ?_
  · obtain ⟨x, t, rfl⟩ := h3 f hm
    exact PySem.W.Looks.now
  · have e : (Value.type "str" != Value.type "tuple") = true := by first | decide +kernel | rfl | decide
    rw [e]
    exact hq
theorem not_tup {a : Addr} {vs : Array Value} {h : Heap} {n : Nat} (ha : h.get? a = some (seqObj "list" vs n)) : ∀ o, h.get? a = some o → o.cls ≠ .type "tuple" := fun o e => by
  have e' : some o = some (seqObj "list" vs n) := e.symm.trans ha
  cases e'
  intro c
  exact absurd (Value.type.inj c) (by decide)
theorem sorted_ps {l : Addr} {vs : List Value} {k : Value → Pss} {Q : Value → Shared → Prop} (hl : s.heap.IsList l vs.toArray) (hz : vs.length ≤ sizeLine) (hp : ∀ v ∈ vs, IsPS s.heap v (k v))
    (h : ∀ (h' : Heap) (d : Addr) (out : List Value), Srtd (fun v u => ltSS (k v) (k u)) out → Stb (fun v u => ltSS (k v) (k u)) out vs → (∀ b o, s.heap.get? b = some o → h'.get? b = some o) → s.heap.objs.size ≤ d → (∃ n, h'.get? d = some (seqObj "list" out.toArray n)) → Q (.ref d) { s with heap := h' }) :
    wpAny (model prog w) A (call (.builtin "sorted") [.ref l]) Q E s := by
  refine sorted_ord (swo_SS k) hl hz (fun h2 h₁ a ha kk => ?_) fun out hs hb => ?_
  · exact ps_sortable (s := { s with heap := h₁ }) (by omega) (fun v hm => (hp v hm).keeps fun b o e _ => (kk b o e).2) (not_tup ha)
  · exact h _ _ out hs hb (fun b o e => sortedAll_old e) (Nat.le_succ _) (sortedAll_at s.heap vs out.toArray)
end
end S2S
namespace VL
open PySem PySem.Spec PyProof.Rows L2 S2S
abbrev ltVS (k : V → Pss) (x y : V) : Bool := ltSS (k x) (k y)
/-- sorted(xs), xs a list of tuples (text, text) -/
def rSortedSS (K : PySem.W.Frag) : List V → Hp → VK → Prop := fun vs H Q => ∃ (a : Addr) (xs : List V) (k : V → Pss), vs = [V.ref a] ∧ SqL K H a xs ∧ (∀ x ∈ xs, ∃ t, x = V.ref t ∧ H t = some (.tup [.str (k x).1, .str (k x).2])) ∧
  ∀ ys p, SrtO.Srtd (ltVS k) ys → ys.Perm xs → H p = none → Q (.ref p) (upd H p (.lst ys))
section
variable {X : Cx}
theorem ps_of {P : Program} {w : World} {H : Hp} {h : Heap} (ok : HOk P w H h) {t : Addr} {k : Pss} (ht : H t = some (.tup [.str k.1, .str k.2])) : IsPS h (.ref t) k := by
  obtain ⟨_, its2, r2, o, ho, hc, n, hd⟩ := ok _ _ ht
  obtain ⟨u1, u2, rfl, ri, rj⟩ := vals2 r2
  obtain ⟨t1, rfl⟩ := ri
  obtain ⟨t2, rfl⟩ := rj
  exact ⟨t, o, t1, t2, n, rfl, ho, hc, hd⟩
theorem cr_sortedSS : CallR X (.builtin "sorted") (rSortedSS X.K) := by
  intro pins s σ H vs us Q I r h
  obtain ⟨a, xs, k, rfl, hs, hx, q⟩ := h
  obtain ⟨its, rv, hl, hz⟩ := I.list hs
  obtain ⟨u, rfl, ru⟩ := vals1 r
  obtain rfl : u = Value.ref a := ru
  obtain ⟨e1, e2⟩ := refs_back rv fun x m => by
    obtain ⟨t, e, _⟩ := hx x m
    exact ⟨t, e⟩
  refine sorted_ps (k := fun u => k (backV u)) hl.isList (by rw [← rv.length]; exact hz) (fun v hv => ?_) fun h' d out h1 h2 kp hd hn => ?_
  · obtain ⟨t, rfl⟩ := e2 v hv
    have hm : V.ref t ∈ xs := by rw [e1]; exact List.mem_map.mpr ⟨_, hv, rfl⟩
    obtain ⟨t', e, ht⟩ := hx _ hm
    cases e
    exact ps_of I.hok ht
  · have h3 : ∀ u ∈ out, ∃ a, u = Value.ref a := fun u hu => e2 u (h2.perm.mem_iff.mp hu)
    obtain ⟨n, hn⟩ := hn
    have hb : (out.map backV).Perm xs := by
      rw [e1]
      exact h2.perm.map backV
    refine ⟨.ref d, upd H d (.lst (out.map backV)), I.laid (t' := s.toks) kp hd ⟨?_, out, n, vals_back h3, hn⟩, rfl, q _ d (SrtO.srtd_map h1) hb (I.hok.fresh hd)⟩
    rw [hb.length_eq]
    exact hz
def entS (e : Pss) : L2.Key × V := (Sum.inr e.1, V.str e.2)
def rItemsK : V → List V → Hp → VK → Prop := fun x xs H Q => ∃ (a : Addr) (kvs : List (L2.Key × V)), x = .ref a ∧ xs = [] ∧ H a = some (.dK kvs) ∧ ∀ p, H p = none → Q (.ref p) (upd H p (DX.itemsO p a))
theorem mt_itemsK : MtR X "dict.items" rItemsK := by
  intro pins s σ H x xs v us Q I rx rxs h
  obtain ⟨a, kvs, rfl, rfl, ha, q⟩ := h
  cases rx
  cases rxs
  obtain ⟨z, hd, xs', rel, o, es, ep, ho, hx, hdat, _⟩ := dk_of I.hok ha
  refine DT.callItems (es := es) (ep := ep) hd ⟨o, ho, hx, hdat⟩ ?_
  have hf : H s.heap.objs.size = none := I.hok.fresh (Nat.le_refl _)
  exact ⟨.ref s.heap.objs.size, upd H s.heap.objs.size (DX.itemsO s.heap.objs.size a), I.laid (t' := s.toks) (fun b u e => Heap.get?_push_of_some _ e) (Nat.le_refl _) (DX.itemsO_ok (Heap.get?_push_size _ rfl)), rfl, q _ hf⟩
theorem pairs_at {K : Type} [DecidableEq K] {prog : Program} {w : World} {knd : KeyKind prog w K} : ∀ {es : List DictEntry} {kvs : List (K × Value)}, Pairs knd es kvs → ∀ {j : Nat} {e : DictEntry}, es[j]? = some e → ∃ kv, kvs[j]? = some kv ∧ knd.is kv.1 e.key = true ∧ e.val = kv.2
  | _, _, .nil, j, e, h => by cases h
  | _, _, .cons h1 h2 t, 0, e, h => by
    have e' := Option.some.inj h
    subst e'
    exact ⟨_, rfl, h1, h2⟩
  | _, _, .cons _ _ t, j + 1, e, h => pairs_at t h
/-- sorted(d.items()), d a dict of texts -/
def rSortIS : List V → Hp → VK → Prop := fun vs H Q => ∃ (p a : Addr) (as : List Pss), vs = [.ref p] ∧ H p = some (DX.itemsO p a) ∧ H a = some (.dK (as.map entS)) ∧
  ∀ (H' : Hp) (l : Addr) (ps : List (Addr × Pss)), (∀ b o, H b = some o → H' b = some o) → H l = none → (∀ z ∈ ps, H z.1 = none) → (ps.map (·.2)).Perm as → SrtO.Srtd ltSS (ps.map (·.2)) → H' l = some (.lst (ps.map fun z => V.ref z.1)) →
    (∀ z ∈ ps, H' z.1 = some (.tup [.str z.2.1, .str z.2.2])) → Q (.ref l) H'
def keyPS (h : Heap) : Value → Pss
  | .ref a => (match h.get? a with
    | some o => (match o.data with
      | .seq xs _ => (match xs.toList with
        | [.str x _, .str y _] => (x, y)
        | _ => (⟨#[]⟩, ⟨#[]⟩))
      | _ => (⟨#[]⟩, ⟨#[]⟩))
    | none => (⟨#[]⟩, ⟨#[]⟩))
  | _ => (⟨#[]⟩, ⟨#[]⟩)
theorem keyPS_of {h : Heap} {v : Value} {k : Pss} (x : IsPS h v k) : keyPS h v = k := by
  obtain ⟨a, o, t, u, n, rfl, ho, hc, hd⟩ := x
  simp only [keyPS, ho, hd]
def adOf : Value → Addr
  | .ref a => a
  | _ => 0
theorem cr_sortedIS (hc : X.calm = true) : CallR X (.builtin "sorted") rSortIS := by
  intro pins s σ H vs us Q I r h
  obtain ⟨p, a, as0, rfl, hp, ha, q⟩ := h
  obtain ⟨u, rfl, ru⟩ := vals1 r
  obtain rfl : u = Value.ref p := ru
  have view : s.heap.IsItemsView p a := (show ObjOk X.prog X.w H s.heap p (DX.itemsO p a) from I.hok p _ hp).1
  obtain ⟨z, hd, xs', rel, o, es, ep, ho, hx, hdat, hks, hps, hn⟩ := dk_of I.hok ha
  have l1 : (as0.map entS).length = xs'.length := Paired.length rel
  rw [List.length_map] at l1 z
  have l2 : es.size = xs'.length := by rw [← Array.length_toList]; exact hps.length
  have hh : X.A.handled = none := I.ok.hd hc
  refine DT.sortedI (es := es) (ep := ep) hh view ⟨o, ho, hx, hdat⟩ (by omega) fun h' tk as hk hlt hl hG => ?_
  have lak : as.length = as0.length := by omega
  have nd : as.Nodup := List.Pairwise.imp (fun h => Nat.ne_of_lt h) hG.rise
  have pr : ∀ (j : Nat) (b : Addr), as[j]? = some b → ∃ e : Pss, as0[j]? = some e ∧ ∃ t u, h'.get? b = some { cls := .type "tuple", data := .seq #[Value.str e.1 t, Value.str e.2 u] } := by
    intro j b hj
    obtain ⟨en, he, hg⟩ := hG.pairs j b hj
    have he' : es.toList[j]? = some en := by rw [Array.getElem?_toList]; exact he
    obtain ⟨kv, hkv, hk1, hk2⟩ := pairs_at hps he'
    obtain ⟨y, hy, f1, f2⟩ := DX.pget rel hkv
    rw [List.getElem?_map] at hy
    cases he0 : as0[j]? with
    | none =>
      rw [he0] at hy
      cases hy
    | some e =>
      rw [he0] at hy
      have ey : entS e = y := Option.some.inj hy
      subst ey
      obtain ⟨u, hu⟩ : ∃ u, kv.2 = Value.str e.2 u := f2
      have hk1' : keyIs (Sum.inr e.1) en.key = true := by
        have f1' : Sum.inr e.1 = kv.1 := f1
        rw [f1']
        exact hk1
      obtain ⟨t, ht⟩ : ∃ t, en.key = Value.str e.1 t := relV_key hk1'
      refine ⟨e, rfl, t, u, ?_⟩
      rw [hg, hk2, hu, ht]
  have hob : (h'.push { cls := .type "list", data := .seq (as.map Value.ref).toArray }).get? h'.objs.size = some (seqObj "list" (as.map Value.ref).toArray 0) := Heap.get?_push_size _ rfl
  have kb : ∀ b o, s.heap.get? b = some o → (h'.push { cls := .type "list", data := .seq (as.map Value.ref).toArray }).get? b = some o := fun b o e => Heap.get?_push_of_some _ (hk b o e)
  have ne0 : ∀ b o, h'.get? b = some o → b ≠ h'.objs.size := fun b o e => Nat.ne_of_lt (Heap.lt_size e)
  generalize hh2 : h'.push { cls := .type "list", data := .seq (as.map Value.ref).toArray } = h2 at hob kb ⊢
  have ka : ∀ b o, h'.get? b = some o → h2.get? b = some o := fun b o e => by rw [← hh2]; exact Heap.get?_push_of_some _ e
  have isp : ∀ (j : Nat) (b : Addr) (e : Pss), as[j]? = some b → as0[j]? = some e → IsPS h2 (.ref b) e := fun j b e hj he => by
    obtain ⟨e', he', t, u, hg⟩ := pr j b hj
    rw [he] at he'
    cases he'
    exact ⟨b, _, t, u, _, rfl, ka _ _ hg, rfl, rfl⟩
  have all : ∀ v ∈ as.map Value.ref, IsPS h2 v (keyPS h2 v) := fun v hv => by
    obtain ⟨b, hb, rfl⟩ := List.mem_map.mp hv
    obtain ⟨j, hj⟩ := List.mem_iff_getElem?.mp hb
    obtain ⟨e, he, _⟩ := pr j b hj
    have i := isp j b e hj he
    rw [keyPS_of i]
    exact i
  have keys : (as.map Value.ref).map (keyPS h2) = as0 := by
    refine List.ext_getElem? fun j => ?_
    rw [List.getElem?_map, List.getElem?_map]
    cases hj : as[j]? with
    | none =>
      have := List.getElem?_eq_none_iff.mp hj
      rw [List.getElem?_eq_none_iff.mpr (by omega)]
      rfl
    | some b =>
      obtain ⟨e, he, _⟩ := pr j b hj
      rw [he]
      show some (keyPS h2 (.ref b)) = some e
      rw [keyPS_of (isp j b e hj he)]
  refine wpAny_call_entry PyProof.Rows.slot_list_sort ⟨_, hob, rfl⟩ PyProof.Rows.entry_list_sort
    (SrtO.list_sort_ord (s := { s with heap := h2, toks := tk }) (swo_SS (keyPS h2)) hob (by rw [List.length_map]; omega) (fun h2' => ps_sortable (by omega) all (not_tup hob)) fun out hs hb => ⟨.none, rfl, ?_⟩) (PyProof.Rows.args_list_sort _)
  show EP X pins σ Q (.ref h'.objs.size) { s with heap := sortedHeap h2 h'.objs.size (as.map Value.ref) out.toArray, toks := tk }
  have isr : ∀ v ∈ out, ∃ b, b ∈ as ∧ v = Value.ref b := fun v hv => by
    obtain ⟨b, hb', rfl⟩ := List.mem_map.mp (hb.perm.mem_iff.mp hv)
    exact ⟨b, hb', rfl⟩
  have kF : ∀ b o, b ≠ h'.objs.size → h2.get? b = some o → (sortedHeap h2 h'.objs.size (as.map Value.ref) out.toArray).get? b = some o := fun b o hb e => (PyProof.Rows.sortedHeap_old hb (Heap.lt_size e)).trans e
  have kS : ∀ b o, s.heap.get? b = some o → (sortedHeap h2 h'.objs.size (as.map Value.ref) out.toArray).get? b = some o := fun b o e => kF b o (ne0 _ _ (hk b o e)) (kb b o e)
  obtain ⟨eF, heF⟩ := PyProof.Rows.sortedHeap_at (vs := as.map Value.ref) (out := out.toArray) hob
  have I1 : Inv X pins σ H { s with heap := sortedHeap h2 h'.objs.size (as.map Value.ref) out.toArray, toks := tk } := I.kept (t' := tk) kS
  have hn0 : H h'.objs.size = none := I.hok.fresh (Nat.le_of_lt hlt)
  have epm : (out.map fun v => (adOf v, keyPS h2 v)).map (fun z => V.ref z.1) = out.map backV := by
    rw [List.map_map]
    refine List.map_congr_left fun v hv => ?_
    obtain ⟨b, _, rfl⟩ := isr v hv
    rfl
  have hlen : (out.map backV).length ≤ sizeLine := by
    rw [List.length_map, hb.perm.length_eq, List.length_map]
    omega
  have I2 : Inv X pins σ (upd H h'.objs.size (.lst (out.map backV))) { s with heap := sortedHeap h2 h'.objs.size (as.map Value.ref) out.toArray, toks := tk } :=
    I1.take (h' := sortedHeap h2 h'.objs.size (as.map Value.ref) out.toArray) (t' := tk) (fun b ob _ e => e) (I.fpOk (Nat.le_of_lt hlt) hn0) ⟨hlen, out, eF, vals_back (fun u hu => by obtain ⟨b, _, e⟩ := isr u hu; exact ⟨b, e⟩), heF⟩
  obtain ⟨H2, I3, g, qt⟩ := DX.takeT (P := fun b vs => ∃ (j : Nat) (e : Pss), as[j]? = some b ∧ as0[j]? = some e ∧ vs = [.str e.1, .str e.2]) I as _ I2 nd fun b hb => by
    obtain ⟨j, hj⟩ := List.mem_iff_getElem?.mp hb
    obtain ⟨e, he, t, u, hg⟩ := pr j b hj
    have hbl : s.heap.objs.size ≤ b := Nat.le_of_lt (hG.above b hb)
    refine ⟨hbl, ?_, [.str e.1, .str e.2], ⟨j, e, hj, he, rfl⟩, fun H3 => ⟨(by show 2 ≤ sizeLine; decide), [Value.str e.1 t, Value.str e.2 u], .cons ⟨_, rfl⟩ (.cons ⟨_, rfl⟩ .nil), ⟨_, kF _ _ (ne0 _ _ hg) (ka _ _ hg), rfl, 0, rfl⟩⟩⟩
    rw [upd_ne (ne0 _ _ hg)]
    exact I.hok.fresh hbl
  have gr : ∀ b o, H b = some o → H2 b = some o := fun b o e => g b o (by rw [upd_ne (ne_of_none e hn0)]; exact e)
  refine ⟨.ref h'.objs.size, H2, I3, rfl, q H2 h'.objs.size (out.map fun v => (adOf v, keyPS h2 v)) gr hn0 (fun z hz => ?_) ?_ ?_ (by rw [epm]; exact g _ _ upd_same) fun z hz => ?_⟩
  · obtain ⟨v, hv, rfl⟩ := List.mem_map.mp hz
    obtain ⟨b, hb', rfl⟩ := isr v hv
    exact I.hok.fresh (Nat.le_of_lt (hG.above b hb'))
  · rw [List.map_map]
    have := hb.perm.map (keyPS h2)
    rw [keys] at this
    exact this
  · rw [List.map_map]
    exact List.pairwise_map.mpr hs
  · obtain ⟨v, hv, rfl⟩ := List.mem_map.mp hz
    obtain ⟨b, hb', rfl⟩ := isr v hv
    obtain ⟨vs, ⟨j, e, hj, he, ev⟩, hH⟩ := qt b hb'
    show H2 b = some (.tup [.str (keyPS h2 (.ref b)).1, .str (keyPS h2 (.ref b)).2])
    rw [keyPS_of (isp j b e hj he), hH, ev]
end
end VL

set_option Elab.async false
set_option linter.all false
set_option maxRecDepth 100000
set_option maxHeartbeats 4000000
/-! repr of plain data (lists, tuples), up to depth 180, where nothing is being shown -/
namespace VL
open PySem PySem.Spec PyProof.Rows L2
def rRepW (K : PySem.W.Frag) : List V → Hp → VK → Prop := fun xs H Q => ∃ (a : Addr) (d : PyData), xs = [.ref a] ∧ Dp K H (.ref a) d ∧ PyData.showable d = true ∧ PyData.hasDict d = false ∧ PyData.depth d ≤ 180 ∧ (PyData.shown d).length ≤ sizeLine ∧ Q (.str (PyData.shown d)) H
theorem call_repW {X : Cx} {K : PySem.W.Frag} (hK : X.K = K) (gd : X.A.guards = some []) (hu : X.A.units + 190 < cLine) : CallR X (.builtin "repr") (rRepW K) := by
  subst hK
  intro pins s σ H xs us Q I r h
  obtain ⟨a, d, rfl, hd, hs, hn, dep, hz, q⟩ := h
  obtain ⟨u, rfl, ru⟩ := vals1 r
  cases (show u = Value.ref a from ru)
  obtain ⟨as, r1⟩ := Dp.reads I d (.ref a) (.ref a) hd rfl
  refine repr_of_reads' (h₀ := s.heap) r1 hs (fun z => by rw [hn] at z; cases z) gd (by omega) (fun _ _ e => e) (fun h' v tk hk => ⟨.str _, H, I.kept hk, ⟨v, rfl⟩, q⟩) hz
end VL

set_option Elab.async false
set_option linter.all false
set_option maxRecDepth 100000
set_option maxHeartbeats 4000000
namespace VL
open PySem PySem.Spec PyProof.Rows L2
/-! ### max(xs, default=d), xs < ys, of numbers -/
theorem maxOf_int : ∀ (y : Int) (ys : List Int), PySem.W.maxOf y ys ∈ y :: ys ∧ ∀ z ∈ y :: ys, z ≤ PySem.W.maxOf y ys
  | y, [] => ⟨List.mem_cons_self, fun z hz => by rw [List.mem_singleton.mp hz]; exact Int.le_refl _⟩
  | y, x :: ys => by
    obtain ⟨h1, h2⟩ := maxOf_int (if decide (y < x) = true then x else y) ys
    have e : PySem.W.maxOf y (x :: ys) = PySem.W.maxOf (if decide (y < x) = true then x else y) ys := rfl
    rw [e]
    by_cases q : y < x
    · rw [if_pos (decide_eq_true q)] at h1 h2 ⊢
      refine ⟨List.mem_cons_of_mem _ h1, fun z hz => ?_⟩
      rcases List.mem_cons.mp hz with rfl | hz
      · have := h2 x List.mem_cons_self
        omega
      · exact h2 z hz
    · rw [if_neg (by simpa using q)] at h1 h2 ⊢
      refine ⟨?_, fun z hz => ?_⟩
      · rcases List.mem_cons.mp h1 with h | h
        · rw [h]; exact List.mem_cons_self
        · exact List.mem_cons_of_mem _ (List.mem_cons_of_mem _ h)
      · rcases List.mem_cons.mp hz with rfl | hz
        · exact h2 _ List.mem_cons_self
        · rcases List.mem_cons.mp hz with rfl | hz
          · have := h2 y List.mem_cons_self
            omega
          · exact h2 z (List.mem_cons_of_mem _ hz)
theorem holdAll_ints {h : Heap} : ∀ {us : List Value} {ns : List Int}, IntsAre us ns → PySem.W.HoldAll h us ns
  | _, _, .nil => ⟨[], .nil⟩
  | _, _, .cons n t r => by
    obtain ⟨as, q⟩ := holdAll_ints (h := h) r
    exact ⟨[] ++ as, .cons (.int n t) q⟩
def rMaxD (K : PySem.W.Frag) : List V → List V → Hp → VK → Prop := fun vs zs H Q => ∃ (a : Addr) (ns : List Int) (d : Int), vs = [V.ref a] ∧ zs = [.int d] ∧ SqL K H a (ns.map V.int) ∧ (ns = [] → Q (.int d) H) ∧ ∀ m, m ∈ ns → (∀ y, y ∈ ns → y ≤ m) → Q (.int m) H
def rLtL (K : PySem.W.Frag) : R2 := fun x y H Q => ∃ (a b : Addr) (ns ms : List Int), x = .ref a ∧ y = .ref b ∧ SqL K H a (ns.map V.int) ∧ SqL K H b (ms.map V.int) ∧ Q (.bl (PySem.W.listLt ns ms)) H
section
variable {X : Cx}
theorem cr_maxDef (hc : X.calm = true) (hu : X.A.units + 1 < cLine) : CallRK X (.builtin "max") [Str.ofString "default"] (rMaxD X.K) := by
  intro pins s σ H vs zs us ws Q I r rz h
  obtain ⟨a, ns, d, rfl, rfl, hs, q0, q⟩ := h
  obtain ⟨its, rv, hl, _⟩ := I.list hs
  obtain rfl := Vals.ref1 r
  obtain ⟨w1, rfl, t, rfl⟩ := vals1 rz
  refine PySem.W.max_list_datum_default (vs := its.toArray) (xs := ns) (I.ok.hd hc) hl.isList (holdAll_ints rv.ints) (by show X.A.units + 1 + 0 < cLine; omega) (fun e h' tk hk => ?_) (fun y ys i v h' tk e hi hv hk => ?_)
  · exact ⟨.int d, H, I.kept hk, ⟨_, rfl⟩, q0 e⟩
  · obtain ⟨as, rd⟩ := hv
    obtain ⟨h1, h2⟩ := maxOf_int y ys
    generalize PySem.W.maxOf y ys = m at rd h1 h2
    have rd' : Reads h' v (.int m) as := rd
    cases rd' with
    | int i t => exact ⟨.int m, H, I.kept hk, ⟨_, rfl⟩, q m (by rw [e]; exact h1) (by rw [e]; exact h2)⟩
theorem op_ltL (hu : X.A.units + 1 < cLine) : OpR X (compareOp .Lt) (rLtL X.K) := by
  intro pins s σ H x y v u Q I rx ry h
  obtain ⟨a, b, ns, ms, rfl, rfl, ha, hb, q⟩ := h
  cases rx
  cases ry
  obtain ⟨ia, ra, hla, _⟩ := I.list ha
  obtain ⟨ib, rb, hlb, _⟩ := I.list hb
  obtain ⟨as, pa⟩ := holdAll_ints (h := s.heap) ra.ints
  obtain ⟨bs, pb⟩ := holdAll_ints (h := s.heap) rb.ints
  obtain ⟨oa, na, ga, ca, _, da⟩ := hla
  obtain ⟨ob, nb, gb, cb, _, db⟩ := hlb
  refine PySem.W.lt_datum (x := ns) (y := ms) ⟨a :: as, .list ga ca da pa⟩ ⟨b :: bs, .list gb cb db pb⟩ (by show X.A.units + (0 + 1) < cLine; omega) ?_
  exact ⟨.bl _, H, I, rfl, q⟩
end
end VL

set_option Elab.async false
set_option linter.all false
set_option maxRecDepth 100000
set_option maxHeartbeats 4000000
/-! xs[a:c] = ys of a list, where c may lie behind its end -/
namespace L2
open PySem PySem.Spec PyProof.Rows
section
variable {prog : Program} {w : World} {A : Around} {E : Value → Shared → Prop} {s : Shared}
theorem cut_bounds {a c n : Nat} (ha : a ≤ n) (hac : a ≤ c) : sliceBounds (some (a : Int)) (some (c : Int)) none n = ((a : Int), ((min c n : Nat) : Int), 1) := by
  have k1 : ¬ ((a : Int) < 0) := by omega
  have k2 : ¬ ((c : Int) < 0) := by omega
  simp only [sliceBounds, Option.getD_none, k1, k2, if_false, show (1 : Int) > 0 by decide, if_true]
  refine Prod.ext ?_ (Prod.ext ?_ rfl)
  · show max 0 (min (a : Int) n) = a
    omega
  · show max 0 (min (c : Int) n) = ((min c n : Nat) : Int)
    omega
theorem put_slice {p q sl : Addr} {old new : Array Value} {n m : Nat} {vl vu : Value} {a c : Nat} {R : Unit → Shared → Prop} (hp : s.heap.get? p = some { cls := .type "list", data := .seq old n }) (hq : s.heap.get? q = some { cls := .type "list", data := .seq new m }) (pq : p ≠ q)
    (hsl : s.heap.IsSliceOf sl vl vu .none) (pl : IsPart vl (some (a : Int))) (pu : IsPart vu (some (c : Int))) (ha : a ≤ old.size) (hac : a ≤ c) (hz : old.size + new.size ≤ sizeLine)
    (k : R () { s with heap := s.heap.update p (Obj.mapSeq fun xs => xs.extract 0 a ++ new ++ xs.extract (min c old.size) xs.size) }) : wpAny (model prog w) A (setItem (.ref p) (.ref sl) (.ref q)) R E s := by
  rcases Nat.lt_or_ge old.size c with z | z
  · have lp : s.heap.IsList p old := PySem.IsL.isList hp
    have lq : s.heap.IsList q new := PySem.IsL.isList hq
    obtain ⟨o, g, gc, gd⟩ := id hsl
    have ty : s.TypeIs (.ref sl) "slice" := ⟨o, g, gc⟩
    have other : Builtin.List.listSameRef (.ref p) (.ref q) = false := beq_eq_false_iff_ne.mpr pq
    unfold setItem
    refine wpAny_holding (wpAny_bind (wpAny_sequenceKey lp.typeIs (by decide) ?_))
    refine wpAny_bind (wpAny_callSpecial?_slot (name := Str.ofString "__setitem__") lp.typeIs slot_list_setitem (wpAny_call_entry slot_list_setitem lp.typeIs entry_list_setitem ?_ (args_list_setitem _ _ _)))
    have sub : ∀ {Q' : _ → Shared → Prop} {E' : Value → Shared → Prop}, Q' none s → wpAny (model prog w) A.in1 (Builtin.List.listSubscript? (.ref sl)) Q' E' s := fun {Q' E'} hq' => by
      unfold Builtin.List.listSubscript?
      refine wpAny_bind (wpAny_specialOf ty slice_no_index ?_)
      simp only [Option.isNone_none, if_true]
      exact wpAny_pure hq'
    have parts : ∀ {Q' : _ → Shared → Prop} {E' : Value → Shared → Prop}, Q' (rawPart (some (a : Int)), rawPart (some (c : Int)), rawPart none) s → wpAny (model prog w) A.in1 (Builtin.List.listSliceParts (.ref sl)) Q' E' s := fun {Q' E'} hq' => by
      rw [listSliceParts_eq]
      refine wpAny_bind (wpAny_field g gd (x := .none) rfl (wpAny_bind (wpAny_listPart .none ?_)))
      rw [if_neg (by simp [rawPart, rawInt])]
      refine wpAny_bind (wpAny_field g gd (x := vl) rfl (wpAny_bind (wpAny_listPart pl ?_)))
      exact wpAny_bind (wpAny_field g gd (x := vu) rfl (wpAny_bind (wpAny_listPart pu (wpAny_pure hq'))))
    have all : ∀ {Q' : _ → Shared → Prop} {E' : Value → Shared → Prop}, Q' new s → wpAny (model prog w) A.in1 (Builtin.List.listAllItems (.ref q) "must assign iterable to extended slice") Q' E' s := fun {Q' E'} hq' => by
      unfold Builtin.List.listAllItems
      refine wpAny_bind (wpAny_typeOf lq.typeIs ?_)
      rw [if_pos (by decide)]
      unfold Builtin.List.listItems
      exact wpAny_bind (wpAny_seqItems hq rfl (wpAny_pure hq'))
    have own : ∀ {Q' : _ → Shared → Prop} {E' : Value → Shared → Prop}, Q' old s → wpAny (model prog w) A.in1 (Builtin.List.listItems (.ref p)) Q' E' s := fun {Q' E'} hq' => by
      unfold Builtin.List.listItems
      exact wpAny_bind (wpAny_seqItems hp rfl (wpAny_pure hq'))
    have long : Builtin.List.listTooLong (old.size + new.size) = false := notLongL hz
    have mm : (max (a : Int) ((min c old.size : Nat) : Int)).toNat = min c old.size := by omega
    show wpAny _ _ (Builtin.List.listSubscript? (.ref sl) >>= _) _ _ s
    refine wpAny_bind (sub ?_)
    show wpAny _ _ (typeOf (.ref sl) >>= _) _ _ s
    refine wpAny_bind (wpAny_typeOf ty ?_)
    rw [if_neg (by decide)]
    refine wpAny_bind (parts ?_)
    dsimp only
    rw [if_neg (by rw [other]; exact Bool.false_ne_true)]
    refine wpAny_bind (all ?_)
    refine wpAny_bind (own ?_)
    rw [sliceIndices_raw (some (a : Int)) (some (c : Int)) none old.size (by simp), cut_bounds ha hac]
    refine wpAny_bind (wpAny_pure ?_)
    dsimp only
    rw [if_pos (by decide)]
    refine wpAny_bind (wpAny_rule ?_)
    rw [if_neg (by rw [long]; exact Bool.false_ne_true)]
    have fit : ((fun xs : Array Value => xs.extract 0 a ++ new ++ xs.extract (min c old.size) xs.size) old).size ≤ sizeLine + 1 := by
      simp only [Array.size_append, Array.size_extract]
      omega
    rw [mm, Int.toNat_natCast]
    show wpAny _ _ (updateSeq p (fun xs => xs.extract 0 a ++ new ++ xs.extract (min c old.size) xs.size) >>= _) _ _ s
    refine wpAny_bind (wpAny_updateSeq (hz := by omega) (_hz' := fit) hp rfl ?_)
    refine wpAny_bind (wpAny_letGo ?_)
    exact wpAny_pure ⟨.none, rfl, wpAny_pure k⟩
  · have e : min c old.size = c := Nat.min_eq_left z
    rw [e] at k
    exact setItem_slice hp hq pq hsl pl pu hac z hz k
end
section
variable {X : Cx} {o : Expr} {lo hi : Option Expr} {to : TE} {tl th : TO} {p2 pos : Pos}
/-- o[lo:hi] = v -/
def gSlc (to : TE) (tl th : TO) : TG := fun v σ H Q => to σ H fun x H1 => tl σ H1 fun l H2 => th σ H2 fun u H3 => ∃ (p q : Addr) (xs ys : List V) (a c : Nat), x = .ref p ∧ v = .ref q ∧ l = some (a : Int) ∧ u = some (c : Int) ∧ H3 p = some (.lst xs) ∧ H3 q = some (.lst ys) ∧ p ≠ q ∧ a ≤ xs.length ∧ a ≤ c ∧ xs.length + ys.length ≤ sizeLine ∧ Q σ (upd H3 p (.lst (xs.take a ++ ys ++ xs.drop c)))
theorem pg_slc (ho : PE X o to) (hl : PO X lo tl) (hu : PO X hi th)
    (ha : ∀ v, assign (.Subscript o (.Slice lo hi none p2) pos) X.env v = (do
      let ov ← holding [v] (eval o X.env)
      let iv ← holding [v, ov] (eval (.Slice lo hi none p2) X.env)
      standAt pos
      holding [v, ov, iv] (setItem ov iv v)
      release [iv, v, ov] []) := by intro _; rfl) : PG X (.Subscript o (.Slice lo hi none p2) pos) (gSlc to tl th) := by
  refine ⟨fun pins s σ H v u Q I r h => ?_⟩
  rw [ha]
  refine wpAny_bind (wpAny_holding (thn (ho.run pins s σ H _ I h) fun ov s1 ⟨x, H1, I1, r1, q1⟩ => ?_))
  refine wpAny_bind (wpAny_holding (wpAny_Slice (thn (hl.run pins s1 σ H1 _ I1 q1) fun vl s2 ⟨l, H2, I2, pl, q2⟩ => thn (hu.run pins s2 σ H2 _ I2 q2) fun vu s3 ⟨w, H3, I3, pu, q3⟩ => ?_)))
  rw [evalPart_none]
  refine wpAny_pure ?_
  have I4 : Inv X pins σ H3 { s3 with heap := s3.heap.push { cls := .type "slice", data := .fields #[vl, vu, .none] } } := I3.kept (t' := s3.toks) fun b ob g => Heap.get?_push_of_some _ g
  obtain ⟨p, q, xs, ys, a, c, rfl, rfl, rfl, rfl, hp, hq, pq, hac, hcc, hz, k⟩ := q3
  cases r1
  cases r
  obtain ⟨z1, its, n, rr, e1, g1⟩ := I4.lstM hp
  obtain ⟨z2, jts, m, rq, e2, g2⟩ := I4.lstM hq
  refine wpAny_bind (wpAny_standAt (wpAny_bind (wpAny_holding (put_slice g1 g2 pq (Heap.IsSliceOf.new ..) pl pu (by rw [List.size_toArray]; omega) hcc (by rw [List.size_toArray, List.size_toArray]; omega) ?_))))
  refine wpAny_release ⟨σ, _, I4.lset (its' := its.take a ++ jts ++ its.drop c) (t' := _) hp g1 ?_ (Vals.append (Vals.append (rr.take _) rq) (rr.drop _)) ?_, k⟩
  · show its.toArray.extract 0 a ++ jts.toArray ++ its.toArray.extract (min c its.toArray.size) its.toArray.size = _
    rw [splice_eq]
    have dd : its.drop (min c its.toArray.size) = its.drop c := by
      rw [List.size_toArray]
      rcases Nat.le_total c its.length with z | z
      · rw [Nat.min_eq_left z]
      · rw [Nat.min_eq_right z, List.drop_of_length_le z, List.drop_of_length_le (Nat.le_refl _)]
    rw [dd]
  · rw [List.length_append, List.length_append, List.length_take, List.length_drop]
    omega
end
end L2

set_option Elab.async false
set_option linter.all false
set_option maxRecDepth 100000
set_option maxHeartbeats 4000000
namespace VL
/-! ### longest rising rows: the mathematics -/
abbrev Ln := List (Int × Nat)
def mxg (lt : Int → Int → Bool) (x : Int) : Ln → Nat
  | [] => 0
  | e :: r => if lt x e.1 = true then max e.2 (mxg lt x r) else mxg lt x r
def lisg (lt : Int → Int → Bool) : List Int → Ln
  | [] => []
  | x :: xs => (x, mxg lt x (lisg lt xs) + 1) :: lisg lt xs
def bestL : Ln → Nat
  | [] => 0
  | e :: r => max e.2 (bestL r)
abbrev Ris (lt : Int → Int → Bool) (r : List Int) : Prop := r.Pairwise fun x y => lt x y = true
section
variable {lt : Int → Int → Bool}
theorem lisg_fst : ∀ xs : List Int, (lisg lt xs).map (·.1) = xs
  | [] => rfl
  | x :: xs => by show x :: (lisg lt xs).map (·.1) = x :: xs; rw [lisg_fst xs]
theorem lisg_len (xs : List Int) : (lisg lt xs).length = xs.length := by rw [← List.length_map (f := (·.1)), lisg_fst]
theorem lisg_pos : ∀ {xs : List Int} {e : Int × Nat}, e ∈ lisg lt xs → 1 ≤ e.2
  | [], e, h => by cases h
  | x :: xs, e, h => by
    rcases List.mem_cons.mp h with rfl | h
    · exact Nat.le_add_left 1 _
    · exact lisg_pos h
theorem mxg_le {x : Int} : ∀ {L : Ln} {e : Int × Nat}, e ∈ L → lt x e.1 = true → e.2 ≤ mxg lt x L
  | [], e, h, _ => by cases h
  | a :: L, e, h, hl => by
    unfold mxg
    rcases List.mem_cons.mp h with rfl | h
    · rw [if_pos hl]
      exact Nat.le_max_left _ _
    · have := mxg_le h hl
      split
      · exact Nat.le_trans this (Nat.le_max_right _ _)
      · exact this
theorem mxg_ex {x : Int} : ∀ {L : Ln}, mxg lt x L = 0 ∨ ∃ e ∈ L, lt x e.1 = true ∧ e.2 = mxg lt x L
  | [] => .inl rfl
  | a :: L => by
    unfold mxg
    split
    · rename_i h
      rcases Nat.le_total a.2 (mxg lt x L) with q | q
      · rw [Nat.max_eq_right q]
        rcases mxg_ex (x := x) (L := L) with z | ⟨e, he, z1, z2⟩
        · exact .inl z
        · exact .inr ⟨e, List.mem_cons_of_mem _ he, z1, z2⟩
      · rw [Nat.max_eq_left q]
        exact .inr ⟨a, List.mem_cons_self, h, rfl⟩
    · rcases mxg_ex (x := x) (L := L) with z | ⟨e, he, z1, z2⟩
      · exact .inl z
      · exact .inr ⟨e, List.mem_cons_of_mem _ he, z1, z2⟩
theorem bestL_le : ∀ {L : Ln} {e : Int × Nat}, e ∈ L → e.2 ≤ bestL L
  | [], e, h => by cases h
  | a :: L, e, h => by
    unfold bestL
    rcases List.mem_cons.mp h with rfl | h
    · exact Nat.le_max_left _ _
    · exact Nat.le_trans (bestL_le h) (Nat.le_max_right _ _)
theorem bestL_ex : ∀ {L : Ln}, bestL L = 0 ∨ ∃ e ∈ L, e.2 = bestL L
  | [] => .inl rfl
  | a :: L => by
    unfold bestL
    rcases Nat.le_total a.2 (bestL L) with q | q
    · rw [Nat.max_eq_right q]
      rcases bestL_ex (L := L) with z | ⟨e, he, z⟩
      · exact .inl z
      · exact .inr ⟨e, List.mem_cons_of_mem _ he, z⟩
    · rw [Nat.max_eq_left q]
      exact .inr ⟨a, List.mem_cons_self, rfl⟩
/-- a rising row that begins with x is no longer than is told of x -/
theorem row_le : ∀ {xs r : List Int} {x : Int}, (x :: r).Sublist xs → Ris lt (x :: r) → ∃ e ∈ lisg lt xs, e.1 = x ∧ r.length + 1 ≤ e.2
  | [], r, x, h, _ => by cases h
  | y :: xs, r, x, h, hr => by
    rcases List.sublist_cons_iff.mp h with h | ⟨r', e, h⟩
    · obtain ⟨e, he, h1, h2⟩ := row_le h hr
      exact ⟨e, List.mem_cons_of_mem _ he, h1, h2⟩
    · injection e with e1 e2
      subst e1
      subst e2
      refine ⟨_, List.mem_cons_self, rfl, ?_⟩
      show r.length + 1 ≤ mxg lt x (lisg lt xs) + 1
      cases r with
      | nil => exact Nat.succ_le_succ (Nat.zero_le _)
      | cons z r =>
        have hr' := List.pairwise_cons.mp hr
        obtain ⟨e, he, h1, h2⟩ := row_le h hr'.2
        have := mxg_le (lt := lt) (x := x) he (by rw [h1]; exact hr'.1 z List.mem_cons_self)
        rw [List.length_cons]
        omega
/-- the row that is told of x -/
theorem row_ex : ∀ {xs : List Int} {e : Int × Nat}, e ∈ lisg lt xs → (∀ a b c, lt a b = true → lt b c = true → lt a c = true) → ∃ r, (e.1 :: r).Sublist xs ∧ Ris lt (e.1 :: r) ∧ r.length + 1 = e.2
  | [], e, h, _ => by cases h
  | y :: xs, e, h, tr => by
    rcases List.mem_cons.mp h with rfl | h
    · rcases mxg_ex (lt := lt) (x := y) (L := lisg lt xs) with z | ⟨f, hf, z1, z2⟩
      · exact ⟨[], List.Sublist.cons₂ _ (List.nil_sublist _), List.pairwise_singleton _ _, by show 0 + 1 = mxg lt y (lisg lt xs) + 1; rw [z]⟩
      · obtain ⟨r, h1, h2, h3⟩ := row_ex hf tr
        refine ⟨f.1 :: r, List.Sublist.cons₂ _ h1, List.pairwise_cons.mpr ⟨fun a ha => ?_, h2⟩, by show (f.1 :: r).length + 1 = mxg lt y (lisg lt xs) + 1; rw [← z2, ← h3]; rfl⟩
        rcases List.mem_cons.mp ha with rfl | ha
        · exact z1
        · exact tr _ _ _ z1 ((List.pairwise_cons.mp h2).1 a ha)
    · obtain ⟨r, h1, h2⟩ := row_ex h tr
      exact ⟨r, List.Sublist.cons _ h1, h2⟩
theorem best_le {xs r : List Int} (h : r.Sublist xs) (hr : Ris lt r) : r.length ≤ bestL (lisg lt xs) := by
  cases r with
  | nil => exact Nat.zero_le _
  | cons x r =>
    obtain ⟨e, he, _, h2⟩ := row_le h hr
    exact Nat.le_trans h2 (bestL_le he)
theorem best_ex (tr : ∀ a b c, lt a b = true → lt b c = true → lt a c = true) (xs : List Int) : ∃ r, r.Sublist xs ∧ Ris lt r ∧ r.length = bestL (lisg lt xs) := by
  rcases bestL_ex (L := lisg lt xs) with z | ⟨e, he, z⟩
  · exact ⟨[], List.nil_sublist _, .nil, z.symm⟩
  · obtain ⟨r, h1, h2, h3⟩ := row_ex he tr
    exact ⟨e.1 :: r, h1, h2, by rw [← z, ← h3]; rfl⟩
end
abbrev ltI (x y : Int) : Bool := decide (x < y)
abbrev gtI (x y : Int) : Bool := decide (y < x)
theorem ltI_tr : ∀ a b c, ltI a b = true → ltI b c = true → ltI a c = true := fun a b c h1 h2 => decide_eq_true (Int.lt_trans (of_decide_eq_true h1) (of_decide_eq_true h2))
theorem gtI_tr : ∀ a b c, gtI a b = true → gtI b c = true → gtI a c = true := fun a b c h1 h2 => decide_eq_true (Int.lt_trans (of_decide_eq_true h2) (of_decide_eq_true h1))
/-- told from the front or from the end, the longest is as long -/
theorem best_rev (xs : List Int) : bestL (lisg gtI xs.reverse) = bestL (lisg ltI xs) := by
  apply Nat.le_antisymm
  · obtain ⟨r, h1, h2, h3⟩ := best_ex gtI_tr xs.reverse
    rw [← h3, ← List.length_reverse]
    refine best_le ?_ ?_
    · have := h1.reverse
      rw [List.reverse_reverse] at this
      exact this
    · exact List.pairwise_reverse.mpr h2
  · obtain ⟨r, h1, h2, h3⟩ := best_ex ltI_tr xs
    rw [← h3, ← List.length_reverse]
    refine best_le h1.reverse ?_
    exact List.pairwise_reverse.mpr h2
/-- of the numbers from y on that are y or greater -/
theorem best_rest {y : Int} {t : List Int} (hy : y ∉ t) : bestL (lisg ltI (y :: t.filter fun z => decide (y ≤ z))) = mxg ltI y (lisg ltI t) + 1 := by
  apply Nat.le_antisymm
  · obtain ⟨r, h1, h2, h3⟩ := best_ex ltI_tr (y :: t.filter fun z => decide (y ≤ z))
    rw [← h3]
    have key : ∀ r' : List Int, r'.Sublist (t.filter fun z => decide (y ≤ z)) → Ris ltI r' → r'.length ≤ mxg ltI y (lisg ltI t) := fun r' s q => by
      have s2 : r'.Sublist t := s.trans List.filter_sublist
      cases r' with
      | nil => exact Nat.zero_le _
      | cons a r' =>
        obtain ⟨e, he, e1, e2⟩ := row_le s2 q
        refine Nat.le_trans e2 (mxg_le he ?_)
        have ha : a ∈ t.filter fun z => decide (y ≤ z) := s.subset List.mem_cons_self
        have h4 := of_decide_eq_true (List.mem_filter.mp ha).2
        have h5 : a ≠ y := fun z => hy (by rw [← z]; exact (List.mem_filter.mp ha).1)
        rw [e1]
        exact decide_eq_true (by omega)
    rcases List.sublist_cons_iff.mp h1 with h | ⟨r', e, h⟩
    · exact Nat.le_trans (key r h h2) (Nat.le_succ _)
    · subst e
      rw [List.length_cons]
      exact Nat.succ_le_succ (key r' h (List.pairwise_cons.mp h2).2)
  · rcases mxg_ex (lt := ltI) (x := y) (L := lisg ltI t) with z | ⟨f, hf, z1, z2⟩
    · rw [z]
      exact best_le (r := [y]) (List.Sublist.cons₂ _ (List.nil_sublist _)) (List.pairwise_singleton _ _)
    · obtain ⟨r, h1, h2, h3⟩ := row_ex hf ltI_tr
      rw [← z2, ← h3]
      have all : ∀ a ∈ f.1 :: r, y < a := fun a ha => by
        have q := of_decide_eq_true z1
        rcases List.mem_cons.mp ha with rfl | ha
        · exact q
        · have := of_decide_eq_true ((List.pairwise_cons.mp h2).1 a ha)
          omega
      refine best_le (r := y :: f.1 :: r) (List.Sublist.cons₂ _ ?_) (List.pairwise_cons.mpr ⟨fun a ha => decide_eq_true (all a ha), h2⟩)
      have := h1.filter fun z => decide (y ≤ z)
      rwa [List.filter_eq_self.mpr fun a ha => decide_eq_true (by have := all a ha; omega)] at this
/-! ### the greatest first numbers of rows of each length -/
structure Fst (L : Ln) (F : List Int) : Prop where
  ds : ∀ (j k : Nat) (a b : Int), j < k → F[j]? = some a → F[k]? = some b → b < a
  ex : ∀ (k : Nat) (a : Int), F[k]? = some a → ∃ e ∈ L, e.1 = a ∧ k + 1 ≤ e.2
  le : ∀ e ∈ L, e.2 ≤ F.length ∧ ∀ (k : Nat) (a : Int), k < e.2 → F[k]? = some a → e.1 ≤ a
theorem Fst.nil : Fst [] [] := ⟨fun j k a b _ h => by simp at h, fun k a h => by simp at h, fun e h => by cases h⟩
/-- how many are greater -/
structure Cnt (F : List Int) (x : Int) (c : Nat) : Prop where
  le : c ≤ F.length
  up : ∀ (k : Nat) (a : Int), k < c → F[k]? = some a → x < a
  dn : ∀ (k : Nat) (a : Int), c ≤ k → F[k]? = some a → a ≤ x
theorem Fst.cnt {L : Ln} {F : List Int} (P : Fst L F) {x : Int} {c : Nat} (C : Cnt F x c) : c = mxg ltI x L := by
  apply Nat.le_antisymm
  · rcases Nat.eq_zero_or_pos c with z | z
    · rw [z]; exact Nat.zero_le _
    · have hc : c - 1 < F.length := by have := C.le; omega
      have h1 := List.getElem?_eq_getElem hc
      obtain ⟨e, he, e1, e2⟩ := P.ex _ _ h1
      have h2 := C.up _ _ (by omega) h1
      have := mxg_le (lt := ltI) (x := x) he (by rw [e1]; exact decide_eq_true h2)
      omega
  · rcases mxg_ex (lt := ltI) (x := x) (L := L) with z | ⟨e, he, z1, z2⟩
    · rw [z]; exact Nat.zero_le _
    · rw [← z2]
      have z1 := of_decide_eq_true z1
      rcases Nat.lt_or_ge c e.2 with q | q
      · exfalso
        have hc : c < F.length := by have := (P.le e he).1; omega
        have h1 := List.getElem?_eq_getElem hc
        have h2 := C.dn _ _ (Nat.le_refl _) h1
        have h3 := (P.le e he).2 _ _ q h1
        omega
      · exact q
def putN (F : List Int) (c : Nat) (x : Int) : List Int := F.take c ++ [x] ++ F.drop (c + 1)
theorem putN_get {F : List Int} {c : Nat} {x : Int} (hc : c ≤ F.length) (k : Nat) : (putN F c x)[k]? = if k = c then some x else F[k]? := by
  unfold putN
  have hl : (F.take c).length = c := by rw [List.length_take]; omega
  by_cases h1 : k < c
  · rw [if_neg (by omega), List.append_assoc, List.getElem?_append_left (by omega), List.getElem?_take, if_pos h1]
  · by_cases h2 : k = c
    · rw [if_pos h2, List.append_assoc, List.getElem?_append_right (by omega), hl, h2, Nat.sub_self]
      rfl
    · rw [if_neg h2, List.getElem?_append_right (by rw [List.length_append, hl]; simp; omega), List.length_append, hl, List.getElem?_drop]
      congr 1
      simp
      omega
theorem putN_len {F : List Int} {c : Nat} {x : Int} (hc : c ≤ F.length) : (putN F c x).length = max F.length (c + 1) := by
  unfold putN
  rw [List.length_append, List.length_append, List.length_take, List.length_drop]
  simp
  omega
theorem Fst.put {L : Ln} {F : List Int} (P : Fst L F) {x : Int} {c : Nat} (C : Cnt F x c) : Fst ((x, c + 1) :: L) (putN F c x) := by
  have g := putN_get (x := x) C.le
  refine ⟨fun j k a b hjk h1 h2 => ?_, fun k a h => ?_, fun e he => ⟨?_, fun k a hk h => ?_⟩⟩
  · rw [g] at h1 h2
    by_cases e1 : j = c
    · rw [if_pos e1] at h1
      rw [if_neg (by omega)] at h2
      have := Option.some.inj h1
      have hc : c < F.length := by
        rcases Nat.lt_or_ge k F.length with q | q
        · omega
        · rw [List.getElem?_eq_none q] at h2; cases h2
      have h3 := List.getElem?_eq_getElem hc
      have h4 := C.dn _ _ (Nat.le_refl _) h3
      have h5 := P.ds c k _ _ (by omega) h3 h2
      omega
    · rw [if_neg e1] at h1
      by_cases e2 : k = c
      · rw [if_pos e2] at h2
        have h3 := C.up _ _ (by omega) h1
        have := Option.some.inj h2
        omega
      · rw [if_neg e2] at h2
        exact P.ds j k a b hjk h1 h2
  · rw [g] at h
    by_cases e : k = c
    · rw [if_pos e] at h
      exact ⟨_, List.mem_cons_self, Option.some.inj h, by rw [e]; exact Nat.le_refl _⟩
    · rw [if_neg e] at h
      obtain ⟨e, he, h2⟩ := P.ex _ _ h
      exact ⟨e, List.mem_cons_of_mem _ he, h2⟩
  · rw [putN_len C.le]
    rcases List.mem_cons.mp he with rfl | he
    · exact Nat.le_max_right _ _
    · exact Nat.le_trans (P.le e he).1 (Nat.le_max_left _ _)
  · rw [g] at h
    by_cases ek : k = c
    · rw [if_pos ek] at h
      have ea := Option.some.inj h
      rcases List.mem_cons.mp he with rfl | he
      · show x ≤ a
        omega
      · have hc : c < F.length := by have := (P.le e he).1; omega
        have h3 := List.getElem?_eq_getElem hc
        have h4 := C.dn _ _ (Nat.le_refl _) h3
        have h5 := (P.le e he).2 c _ (by omega) h3
        omega
    · rw [if_neg ek] at h
      rcases List.mem_cons.mp he with rfl | he
      · have hk' : k < c + 1 := hk
        have := C.up _ _ (by omega) h
        show x ≤ a
        omega
      · exact (P.le e he).2 k a hk h
/-! ### the row that is chosen -/
def okL (last : Option Int) (x : Int) : Bool := match last with | none => true | some y => decide (y < x)
def grd (last : Option Int) (m : Nat) : Ln → List Int
  | [] => []
  | e :: r => if e.2 = m ∧ okL last e.1 = true then e.1 :: grd (some e.1) (m - 1) r else grd last m r
theorem grd_sub : ∀ (L : Ln) (last : Option Int) (m : Nat), (grd last m L).Sublist (L.map (·.1))
  | [], _, _ => List.Sublist.slnil
  | e :: r, last, m => by
    unfold grd
    split
    · exact List.Sublist.cons₂ _ (grd_sub r _ _)
    · exact List.Sublist.cons _ (grd_sub r _ _)
theorem grd_ris : ∀ (L : Ln) (last : Option Int) (m : Nat), Ris ltI (grd last m L) ∧ ∀ a ∈ grd last m L, okL last a = true
  | [], _, _ => ⟨.nil, fun a h => by cases h⟩
  | e :: r, last, m => by
    unfold grd
    split
    · rename_i h
      obtain ⟨h1, h2⟩ := grd_ris r (some e.1) (m - 1)
      refine ⟨List.pairwise_cons.mpr ⟨fun a ha => h2 a ha, h1⟩, fun a ha => ?_⟩
      rcases List.mem_cons.mp ha with rfl | ha
      · exact h.2
      · have h3 : e.1 < a := of_decide_eq_true (h2 a ha)
        have h4 := h.2
        unfold okL at h4 ⊢
        cases last with
        | none => rfl
        | some y =>
          dsimp only at h4 ⊢
          have := of_decide_eq_true h4
          exact decide_eq_true (by omega)
    · exact grd_ris r last m
/-- it has the length that was missing -/
theorem grd_len : ∀ (xs : List Int) (last : Option Int) (m : Nat), (m = 0 ∨ ∃ e ∈ lisg ltI xs, e.2 = m ∧ okL last e.1 = true) → (grd last m (lisg ltI xs)).length = m
  | [], last, m, h => by
    rcases h with h | ⟨e, he, _⟩
    · rw [h]; rfl
    · cases he
  | x :: xs, last, m, h => by
    show (if mxg ltI x (lisg ltI xs) + 1 = m ∧ okL last x = true then x :: grd (some x) (m - 1) (lisg ltI xs) else grd last m (lisg ltI xs)).length = m
    split
    · rename_i q
      rw [List.length_cons, grd_len xs (some x) (m - 1)]
      · omega
      · rcases mxg_ex (lt := ltI) (x := x) (L := lisg ltI xs) with z | ⟨f, hf, z1, z2⟩
        · exact .inl (by omega)
        · exact .inr ⟨f, hf, by omega, z1⟩
    · rename_i q
      refine grd_len xs last m ?_
      rcases h with h | ⟨e, he, h1, h2⟩
      · exact .inl h
      · rcases List.mem_cons.mp he with rfl | he
        · exact absurd ⟨h1, h2⟩ q
        · exact .inr ⟨e, he, h1, h2⟩
theorem grd_best (xs : List Int) : (grd none (bestL (lisg ltI xs)) (lisg ltI xs)).length = bestL (lisg ltI xs) := by
  refine grd_len xs none _ ?_
  rcases bestL_ex (L := lisg ltI xs) with z | ⟨e, he, z⟩
  · exact .inl z
  · exact .inr ⟨e, he, z, rfl⟩
end VL

set_option Elab.async false
set_option linter.all false
set_option maxRecDepth 100000
set_option maxHeartbeats 4000000
namespace VL
/-! ### where the chosen members stand -/
def grdP (i : Nat) (last : Option Int) (m : Nat) : Ln → List Nat
  | [] => []
  | e :: r => if e.2 = m ∧ okL last e.1 = true then i :: grdP (i + 1) (some e.1) (m - 1) r else grdP (i + 1) last m r
theorem grdP_ge : ∀ (L : Ln) (i : Nat) (last : Option Int) (m : Nat), ∀ p ∈ grdP i last m L, i ≤ p ∧ p < i + L.length
  | [], _, _, _, p, h => by cases h
  | e :: r, i, last, m, p, h => by
    unfold grdP at h
    rw [List.length_cons]
    split at h
    · rcases List.mem_cons.mp h with rfl | h
      · omega
      · have := grdP_ge r _ _ _ p h
        omega
    · have := grdP_ge r _ _ _ p h
      omega
theorem grdP_inc : ∀ (L : Ln) (i : Nat) (last : Option Int) (m : Nat), (grdP i last m L).Pairwise (· < ·)
  | [], _, _, _ => .nil
  | e :: r, i, last, m => by
    unfold grdP
    split
    · exact List.pairwise_cons.mpr ⟨fun p hp => by have := (grdP_ge r _ _ _ p hp).1; omega, grdP_inc r _ _ _⟩
    · exact grdP_inc r _ _ _
/-- the members are those at the places -/
theorem grdP_at : ∀ (L X : Ln) (i : Nat) (last : Option Int) (m : Nat), X.length = i → (grdP i last m L).map (fun p => (X ++ L)[p]?.map (·.1)) = (grd last m L).map some
  | [], _, _, _, _, _ => rfl
  | e :: r, X, i, last, m, hX => by
    unfold grdP grd
    have hX2 : (X ++ [e]).length = i + 1 := by rw [List.length_append, hX]; rfl
    have app : X ++ e :: r = (X ++ [e]) ++ r := by simp
    split
    · rw [List.map_cons, List.map_cons]
      congr 1
      · rw [List.getElem?_append_right (by omega), hX, Nat.sub_self]
        rfl
      · rw [app]
        exact grdP_at r (X ++ [e]) (i + 1) _ _ hX2
    · rw [app]
      exact grdP_at r (X ++ [e]) (i + 1) _ _ hX2
/-- between two chosen places nothing could be taken: `last` is the member ahead, the k-th still lacks m - k -/
theorem grdP_gap : ∀ (L X : Ln) (i : Nat) (last : Option Int) (m : Nat), X.length = i → ∀ (k p j : Nat) (e : Int × Nat), (grdP i last m L)[k]? = some p → j < p → (if k = 0 then i ≤ j else ∀ q, (grdP i last m L)[k - 1]? = some q → q < j) → (X ++ L)[j]? = some e →
    ¬ (e.2 + k = m ∧ okL (if k = 0 then last else ((grd last m L)[k - 1]?)) e.1 = true)
  | [], _, _, _, _, _, k, p, j, e, h, _, _, _ => by simp [grdP] at h
  | a :: r, X, i, last, m, hX, k, p, j, e, h, hjp, hlo, he => by
    have hX2 : (X ++ [a]).length = i + 1 := by rw [List.length_append, hX]; rfl
    have app : X ++ a :: r = (X ++ [a]) ++ r := by simp
    rw [app] at he
    unfold grdP at h hlo
    unfold grd
    split at h
    · rename_i q
      rw [if_pos q]
      rw [if_pos q] at hlo
      cases k with
      | zero =>
        simp at h
        simp at hlo
        omega
      | succ k =>
        rw [List.getElem?_cons_succ] at h
        rw [if_neg (by omega)] at hlo ⊢
        have ih := grdP_gap r (X ++ [a]) (i + 1) (some a.1) (m - 1) hX2 k p j e h hjp
        cases k with
        | zero =>
          have h2 := hlo i rfl
          have := ih (by rw [if_pos rfl]; omega) he
          rw [if_pos rfl] at this
          intro z
          refine this ⟨by omega, ?_⟩
          exact z.2
        | succ k =>
          have := ih (by
            rw [if_neg (by omega)]
            intro q hq
            refine hlo q ?_
            show (i :: grdP (i + 1) (some a.1) (m - 1) r)[k + 1]? = some q
            rw [List.getElem?_cons_succ]
            exact hq) he
          rw [if_neg (by omega)] at this
          intro z
          refine this ⟨by omega, ?_⟩
          have z2 := z.2
          rw [show k + 1 + 1 - 1 = k + 1 from rfl, List.getElem?_cons_succ] at z2
          exact z2
    · rename_i q
      rw [if_neg q]
      rw [if_neg q] at hlo
      by_cases ej : k = 0 ∧ j = i
      · obtain ⟨rfl, rfl⟩ := ej
        rw [← app, List.getElem?_append_right (by omega), hX, Nat.sub_self] at he
        have : a = e := Option.some.inj he
        subst this
        rw [if_pos rfl]
        intro z
        exact q ⟨by omega, z.2⟩
      · refine grdP_gap r (X ++ [a]) (i + 1) last m hX2 k p j e h hjp ?_ he
        by_cases e0 : k = 0
        · rw [if_pos e0] at hlo ⊢
          have : j ≠ i := fun z => ej ⟨e0, z⟩
          omega
        · rw [if_neg e0] at hlo ⊢
          exact hlo
end VL

set_option Elab.async false
set_option linter.all false
set_option maxRecDepth 100000
set_option maxHeartbeats 4000000
namespace VL
/-! ### of all rows as long, the one whose members stand first; all choices as numbers -/
def lexN : List Nat → List Nat → Bool
  | [], [] => false
  | [], _ :: _ => true
  | _ :: _, [] => false
  | x :: xs, y :: ys => if x = y then lexN xs ys else decide (x < y)
theorem lexN_tri : ∀ {a b : List Nat}, a.length = b.length → lexN a b = false → lexN b a = false → a = b
  | [], [], _, _, _ => rfl
  | [], _ :: _, h, _, _ => by cases h
  | _ :: _, [], h, _, _ => by cases h
  | x :: xs, y :: ys, h, h1, h2 => by
    unfold lexN at h1 h2
    by_cases e : x = y
    · subst e
      rw [if_pos rfl] at h1 h2
      rw [lexN_tri (Nat.succ.inj h) h1 h2]
    · rw [if_neg e] at h1
      rw [if_neg (fun z => e z.symm)] at h2
      have := of_decide_eq_false h1
      have := of_decide_eq_false h2
      omega
/-- places i .. of L: rising places whose members rise, all above last -/
def Fits (L : Ln) (i : Nat) (last : Option Int) : List Nat → Prop
  | [] => True
  | p :: P => i ≤ p ∧ ∃ e, L[p - i]? = some e ∧ okL last e.1 = true ∧ Fits (L.drop (p - i + 1)) (p + 1) (some e.1) P
theorem fits_row : ∀ {P : List Nat} {xs : List Int} {i : Nat} {last : Option Int}, Fits (lisg ltI xs) i last P → ∃ r : List Int, r.length = P.length ∧ r.Sublist xs ∧ Ris ltI r ∧ (∀ a ∈ r, okL last a = true) ∧ ∀ p P', P = p :: P' → ∀ e, (lisg ltI xs)[p - i]? = some e → r.head? = some e.1
  | [], xs, i, last, _ => by
    refine ⟨[], rfl, List.nil_sublist _, List.Pairwise.nil, ?_, ?_⟩
    · intro a h
      cases h
    · intro p P' h
      cases h
  | p :: P, xs, i, last, h => by
    obtain ⟨h1, e, h2, h3, h4⟩ := h
    have hd : ∀ (X : List Int) (j : Nat), (lisg ltI X).drop j = lisg ltI (X.drop j) := fun X => by
      induction X with
      | nil => intro j; cases j <;> rfl
      | cons x X ih =>
        intro j
        cases j with
        | zero => rfl
        | succ j => exact ih j
    rw [hd] at h4
    obtain ⟨r, r1, r2, r3, r4, _⟩ := fits_row h4
    have hx : xs[p - i]? = some e.1 := by
      have : ((lisg ltI xs).map (·.1))[p - i]? = xs[p - i]? := by rw [lisg_fst]
      rw [← this, List.getElem?_map, h2]
      rfl
    obtain ⟨hl, ex⟩ := List.getElem?_eq_some_iff.mp hx
    refine ⟨e.1 :: r, by rw [List.length_cons, List.length_cons, r1], ?_, List.pairwise_cons.mpr ⟨fun a ha => r4 a ha, r3⟩, fun a ha => ?_, fun q Q' hq e' he' => ?_⟩
    · have : (e.1 :: xs.drop (p - i + 1)).Sublist xs := by
        have := List.drop_sublist (p - i) xs
        rw [List.drop_eq_getElem_cons hl, ex] at this
        exact this
      exact (List.Sublist.cons₂ _ r2).trans this
    · rcases List.mem_cons.mp ha with rfl | ha
      · exact h3
      · have q1 : e.1 < a := of_decide_eq_true (r4 a ha)
        unfold okL at h3 ⊢
        cases last with
        | none => rfl
        | some y =>
          have := of_decide_eq_true h3
          exact decide_eq_true (by omega)
    · injection hq with hq1 hq2
      subst hq1
      rw [h2] at he'
      cases he'
      rfl
theorem grdP_len : ∀ (L : Ln) (i : Nat) (last : Option Int) (m : Nat), (grdP i last m L).length = (grd last m L).length
  | [], _, _, _ => rfl
  | e :: r, i, last, m => by
    unfold grdP grd
    split
    · rw [List.length_cons, List.length_cons, grdP_len]
    · exact grdP_len _ _ _ _
/-- none stands ahead of it -/
theorem grdP_first : ∀ (xs : List Int) (i : Nat) (last : Option Int) (m : Nat), (∀ e ∈ lisg ltI xs, okL last e.1 = true → e.2 ≤ m) → ∀ P : List Nat, Fits (lisg ltI xs) i last P → P.length = m → lexN P (grdP i last m (lisg ltI xs)) = false
  | [], i, last, m, _, P, hP, hl => by
    cases P with
    | nil => rfl
    | cons p P =>
      obtain ⟨_, e, h, _⟩ := hP
      cases h
  | x :: xs, i, last, m, hm, P, hP, hl => by
    have tailm : ∀ e ∈ lisg ltI xs, okL last e.1 = true → e.2 ≤ m := fun e he => hm e (List.mem_cons_of_mem _ he)
    show lexN P (if mxg ltI x (lisg ltI xs) + 1 = m ∧ okL last x = true then i :: grdP (i + 1) (some x) (m - 1) (lisg ltI xs) else grdP (i + 1) last m (lisg ltI xs)) = false
    cases P with
    | nil =>
      have m0 : m = 0 := hl.symm
      subst m0
      rw [if_neg (by omega)]
      exact grdP_first xs (i + 1) last 0 tailm [] trivial rfl
    | cons p P =>
      have hP0 := hP
      obtain ⟨h1, e, h2, h3, h4⟩ := hP
      by_cases hp : p = i
      · subst hp
        rw [Nat.sub_self] at h2 h4
        have ee : e = (x, mxg ltI x (lisg ltI xs) + 1) := (Option.some.inj h2).symm
        subst ee
        obtain ⟨r, r1, r2, r3, _, r5⟩ := fits_row hP0
        cases r with
        | nil => cases r1
        | cons a r =>
          have ha : a = x := by
            have := r5 p P rfl (x, mxg ltI x (lisg ltI xs) + 1) (by rw [Nat.sub_self]; rfl)
            exact Option.some.inj this
          subst ha
          have le1 := hm _ List.mem_cons_self h3
          have le2 : (a :: r).length ≤ mxg ltI a (lisg ltI xs) + 1 := by
            have t4 := h4
            obtain ⟨r', s1, s2, s3, s4, _⟩ := fits_row (xs := xs) (i := p + 1) (last := some a) t4
            have : r'.length ≤ mxg ltI a (lisg ltI xs) := by
              cases r' with
              | nil => exact Nat.zero_le _
              | cons b r' =>
                obtain ⟨f, hf, f1, f2⟩ := row_le s2 s3
                have := mxg_le (lt := ltI) (x := a) hf (by rw [f1]; exact s4 b List.mem_cons_self)
                rw [List.length_cons]
                omega
            rw [r1, List.length_cons]
            omega
          have lm : (a :: r).length = m := r1.trans hl
          have eq : mxg ltI a (lisg ltI xs) + 1 = m := by
            have le1' : mxg ltI a (lisg ltI xs) + 1 ≤ m := le1
            omega
          rw [if_pos ⟨eq, h3⟩]
          unfold lexN
          rw [if_pos rfl]
          refine grdP_first xs (p + 1) (some a) (m - 1) (fun e he ok => ?_) P h4 ?_
          · have := mxg_le (lt := ltI) (x := a) he ok
            omega
          · rw [List.length_cons] at hl
            omega
      · split
        · unfold lexN
          rw [if_neg hp]
          exact decide_eq_false (by omega)
        · refine grdP_first xs (i + 1) last m tailm (p :: P) ?_ hl
          have e1 : p - i = (p - (i + 1)) + 1 := by omega
          refine ⟨by omega, e, ?_, h3, ?_⟩
          · have h2' : ((x, mxg ltI x (lisg ltI xs) + 1) :: lisg ltI xs)[p - i]? = some e := h2
            rw [e1, List.getElem?_cons_succ] at h2'
            exact h2'
          · have h4' : Fits (((x, mxg ltI x (lisg ltI xs) + 1) :: lisg ltI xs).drop (p - i + 1)) (p + 1) (some e.1) P := h4
            rw [e1, List.drop_succ_cons] at h4'
            exact h4'
/-- every choice of n members is a number below 2 ^ n -/
theorem bits_ex : ∀ (n : Nat) (f : Nat → Bool), ∃ c, c < 2 ^ n ∧ ∀ k, k < n → (c / 2 ^ k % 2 = 1 ↔ f k = true)
  | 0, f => ⟨0, by decide, fun k h => absurd h (Nat.not_lt_zero _)⟩
  | n + 1, f => by
    obtain ⟨c, h1, h2⟩ := bits_ex n fun k => f (k + 1)
    refine ⟨2 * c + if f 0 = true then 1 else 0, ?_, fun k hk => ?_⟩
    · rw [Nat.pow_succ]
      split <;> omega
    · cases k with
      | zero =>
        rw [Nat.pow_zero, Nat.div_one]
        split
        · rename_i q
          rw [q]
          constructor
          · intro _; rfl
          · intro _; omega
        · rename_i q
          constructor
          · intro z; omega
          · intro z; exact absurd z q
      | succ k =>
        have e : (2 * c + if f 0 = true then 1 else 0) / 2 ^ (k + 1) = c / 2 ^ k := by
          rw [Nat.pow_succ, Nat.mul_comm (2 ^ k) 2, ← Nat.div_div_eq_div_mul]
          congr 1
          split <;> omega
        rw [e]
        exact h2 k (by omega)
end VL

set_option Elab.async false
set_option linter.all false
set_option maxRecDepth 100000
set_option maxHeartbeats 4000000
/-! name = {k: v for ..}, the name a local -/
namespace VL
open PySem PySem.Spec PyProof.Rows L2
section
variable {X : Cx}
theorem ps_setDc {i : Nat} {y : Str} {py : Pos} {kx vx tg iter : Expr} {ifs : List Expr} {scope : Scope} {own : List (Str × Nat)} {pos spos : Pos} {wi : TI} {g : TG} {tt : TT} {tk tv : TE} (hc : X.calm = true) (hN : X.N.Nodup) (hy : X.N[i]? = some y) (hyl : X.env.scope.names.lookup y = some .local)
    (hsw : swapsWith (.DictComp kx vx [⟨tg, iter, ifs, 0⟩] scope pos) (some (.Name y py)) spos.line X.env = pure true) (hi : PI X tg iter wi) (ok : BlkOk X.N X.env.scope scope own)
    (hg : ∀ (s : Shared) (H : Hp) (C : Addr) (cl : List (Str × Addr)) (fp : List Addr), PG (X.blk s H scope (compEnvC scope cl C X.env) fp) tg g) (ht : ∀ (s : Shared) (H : Hp) (C : Addr) (cl : List (Str × Addr)) (fp : List Addr), PTs (X.blk s H scope (compEnvC scope cl C X.env) fp) ifs tt)
    (hk : ∀ (s : Shared) (H : Hp) (C : Addr) (cl : List (Str × Addr)) (fp : List Addr), PE (X.blk s H scope (compEnvC scope cl C X.env) fp) kx tk)
    (he : ∀ (s : Shared) (H : Hp) (C : Addr) (cl : List (Str × Addr)) (fp : List Addr), PE (X.blk s H scope (compEnvC scope cl C X.env) fp) vx tv) (hs : ∀ x, foldedSetIterable iter X.env x = pure x := by intro _; rfl) :
    PS X (.Assign [.Name y py] (.DictComp kx vx [⟨tg, iter, ifs, 0⟩] scope pos) spos) (tAsg (tDc wi g tt tk tv (own.map (·.2))) (gName i)) := by
  refine ⟨fun pins s σ H D I h => ?_⟩
  rw [exec_Assign_Name_used _ _ _ _ hsw]
  refine wpAny_bind (wpAny_standAt (wpAny_bind ?_))
  show wpAny _ X.A (do let _ ← comprehension (.DictComp kx vx [⟨tg, iter, ifs, 0⟩] scope pos) scope X.env (firstIterPos [⟨tg, iter, ifs, 0⟩] pos) newDict false (eval iter X.env) (some (assign (.Name y py) X.env))) _ _ s
  have h : tDc wi g tt tk tv (own.map (·.2)) σ H (fun x H1 => gName i x σ H1 D.nx) := h
  refine wpAny_bind (thn (dc_core (Qf := fun _ s' => SP X pins D .next s') hc hN I hi ok hg ht hk he hs h fun L C s' m H' I' q hn f => ?_) fun _ s' hq => wpAny_pure (wpAny_pure hq))
  show wpAny _ _ (assign (.Name y py) X.env (.ref L)) _ _ _
  refine wpAny_assign_Name (store_ok2 (v := V.ref L) I' hN hy (.inl hyl) rfl (fun s2 I2 ⟨a, sb, ha⟩ => ?_) (.inr hyl))
  obtain ⟨f0, f1, f2, f3, f4, f5⟩ := f
  have haC : C ≠ a := by
    rcases ha with z | z
    · rw [z]; exact f1
    · exact fun e => f4 y a z e.symm
  refine ⟨m, hn.sameBut sb haC, fun h3 sb3 => ?_⟩
  exact ⟨_, H', I2.turned (t' := s2.toks) (fun b o hb e => (sb3.2 b hb).trans e) f0 f1 f3 f4 f5, q⟩
theorem sw_trueD {kx vx : Expr} {gs : List Comprehension} {scope : Scope} {pos py : Pos} {y : Str} {l : Nat} {env : Env} (hk : env.scope.kind = .function) (hy : env.scope.names.lookup y = some .local) (hl : (py.line == pos.line) = true)
    (ha : (scope.names.any fun (n, k) => n == y && (k == .local || k == .cell)) = false) : swapsWith (.DictComp kx vx gs scope pos) (some (.Name y py)) l env = pure true := by
  have ky : env.kindOf y = some .local := hy
  have hb : env.blockKind = .function := by unfold Env.blockKind; rw [hk]; rfl
  unfold swapsWith
  simp only [hb, ky, ha, Expr.pos, hl]
  rfl
end
end VL

set_option Elab.async false
set_option linter.all false
set_option maxRecDepth 100000
set_option maxHeartbeats 4000000
/-! documents whose attributes are not looked at: a walk over them needs no more -/
namespace VLW
open VL PySem PySem.Spec PyProof.Rows L2
def AtA (_ : Hp) (_ : V) (_ : List (Str × Str)) : Prop := True
theorem AtA.same {H H' : Hp} {v : V} {as : List (Str × Str)} (_ : Same H H') (_ : AtA H v as) : AtA H' v as := trivial
mutual
inductive NdA (H : Hp) : V → Dn → Prop
  | tx {a : Addr} {n : Int} {x : Str} : H a = some (.tup [.str "text", .int n, .str x]) → NdA H (.ref a) (.tx n x)
  | el {a pk : Addr} {n : Int} {t : Str} {va : V} {as : List (Str × Str)} {vs : List V} {ks : List Dn} : H a = some (.tup [.str "element", .int n, .str t, va, .ref pk]) → AtA H va as → H pk = some (.tup vs) → NdAs H vs ks → NdA H (.ref a) (.el n t as ks)
inductive NdAs (H : Hp) : List V → List Dn → Prop
  | nil : NdAs H [] []
  | cons {v : V} {vs : List V} {d : Dn} {ds : List Dn} : NdA H v d → NdAs H vs ds → NdAs H (v :: vs) (d :: ds)
end
mutual
theorem NdA.same {H H' : Hp} (s : Same H H') : ∀ {v : V} {d : Dn}, NdA H v d → NdA H' v d
  | _, _, .tx h => .tx (s _ _ h)
  | _, _, .el h ha hk hs => .el (s _ _ h) (ha.same s) (s _ _ hk) (NdAs.same s hs)
theorem NdAs.same {H H' : Hp} (s : Same H H') : ∀ {vs : List V} {ds : List Dn}, NdAs H vs ds → NdAs H' vs ds
  | _, _, .nil => .nil
  | _, _, .cons a b => .cons (NdA.same s a) (NdAs.same s b)
end
theorem NdAs.paired {H : Hp} : ∀ {vs : List V} {ds : List Dn}, NdAs H vs ds → Paired (NdA H) vs ds
  | _, _, .nil => .nil
  | _, _, .cons a b => .cons a (NdAs.paired b)
theorem NdAs.of {H : Hp} : ∀ {vs : List V} {ds : List Dn}, Paired (NdA H) vs ds → NdAs H vs ds
  | _, _, .nil => .nil
  | _, _, .cons a b => .cons a (NdAs.of b)
theorem NdAs.len {H : Hp} : ∀ {vs : List V} {ds : List Dn}, NdAs H vs ds → vs.length = ds.length
  | _, _, .nil => rfl
  | _, _, .cons _ h => by simp [NdAs.len h]
theorem NdAs.app {H : Hp} : ∀ {vs : List V} {ds : List Dn} {ws : List V} {es : List Dn}, NdAs H vs ds → NdAs H ws es → NdAs H (vs ++ ws) (ds ++ es)
  | _, _, _, _, .nil, h => h
  | _, _, _, _, .cons a b, h => .cons a (NdAs.app b h)
theorem paired_rev {α β : Type} {R : α → β → Prop} : ∀ {xs : List α} {ys : List β}, Paired R xs ys → Paired R xs.reverse ys.reverse := by
  have ap : ∀ {xs : List α} {ys : List β} {x : α} {y : β}, Paired R xs ys → R x y → Paired R (xs ++ [x]) (ys ++ [y]) := by
    intro xs ys x y h r
    induction h with
    | nil => exact .cons r .nil
    | cons h t ih => exact .cons h ih
  intro xs ys h
  induction h with
  | nil => exact .nil
  | cons h t ih =>
    rw [List.reverse_cons, List.reverse_cons]
    exact ap ih h
theorem NdAs.rev {H : Hp} {vs : List V} {ds : List Dn} (h : NdAs H vs ds) : NdAs H vs.reverse ds.reverse := .of (paired_rev h.paired)
theorem NdAs.get {H : Hp} : ∀ {vs : List V} {ds : List Dn}, NdAs H vs ds → ∀ {i : Nat} {v : V}, vs[i]? = some v → ∃ d, ds[i]? = some d ∧ NdA H v d
  | _, _, .cons a b, 0, v, e => by
    have : _ = v := Option.some.inj e
    subst this
    exact ⟨_, rfl, a⟩
  | _, _, .cons a b, i + 1, v, e => by
    obtain ⟨d, h1, h2⟩ := NdAs.get b (by simpa using e)
    exact ⟨d, by simpa using h1, h2⟩
  | _, _, .nil, i, v, e => by simp at e
/-- what waits: pairs (level, node) -/
def StA (H0 H : Hp) (ws : List V) (st : List (Int × Dn)) : Prop := Paired (fun (v : V) (p : Int × Dn) => ∃ t u, v = .ref t ∧ H t = some (.tup [.int p.1, u]) ∧ NdA H0 u p.2) ws st
theorem StA.len {H0 H : Hp} {ws : List V} {st : List (Int × Dn)} (h : StA H0 H ws st) : ws.length = st.length := Paired.length h
theorem StA.snoc {H0 H : Hp} {ws : List V} {st : List (Int × Dn)} {t : Addr} {u : V} {l : Int} {d : Dn} (h : StA H0 H ws st) (ht : H t = some (.tup [.int l, u])) (hu : NdA H0 u d) : StA H0 H (ws ++ [.ref t]) (st ++ [(l, d)]) := by
  unfold StA at h
  induction h with
  | nil => exact .cons ⟨t, u, rfl, ht, hu⟩ .nil
  | cons a b ih => exact .cons a ih
/-- kept by what keeps tuples -/
theorem StA.keep {H0 H H' : Hp} {ws : List V} {st : List (Int × Dn)} (h : StA H0 H ws st) (k : ∀ b xs, H b = some (.tup xs) → H' b = some (.tup xs)) : StA H0 H' ws st := by
  unfold StA at h ⊢
  induction h with
  | nil => exact .nil
  | cons a b ih =>
    obtain ⟨t, u, e, ht, hu⟩ := a
    exact .cons ⟨t, u, e, k _ _ ht, hu⟩ ih
theorem StA.last {H0 H : Hp} {ws : List V} {st : List (Int × Dn)} (h : StA H0 H ws st) (hn : 0 < ws.length) : ∃ ws' st' t u l d, ws = ws' ++ [.ref t] ∧ st = st' ++ [(l, d)] ∧ StA H0 H ws' st' ∧ H t = some (.tup [.int l, u]) ∧ NdA H0 u d := by
  unfold StA at h
  induction h with
  | nil => exact absurd hn (by decide)
  | @cons v p vs ps a b ih =>
    obtain ⟨t, u, e, ht, hu⟩ := a
    cases b with
    | nil => exact ⟨[], [], t, u, p.1, p.2, by rw [e]; rfl, rfl, .nil, ht, hu⟩
    | cons a' b' =>
      obtain ⟨ws', st', t', u', l', d', e1, e2, h1, h2, h3⟩ := ih (by simp)
      exact ⟨v :: ws', p :: st', t', u', l', d', by rw [e1]; rfl, by rw [e2]; rfl, .cons ⟨t, u, e, ht, hu⟩ h1, h2, h3⟩
end VLW

set_option Elab.async false
set_option linter.all false
set_option maxRecDepth 100000
set_option maxHeartbeats 4000000
/-! walk(document): what it hands out, what it keeps -/
namespace VLW
open VL PySem PySem.Spec PyProof.Rows L2
theorem walk_revT {K : PySem.W.Frag} {a : Addr} {xs : List V} : Walk (RT.ItvT K a xs.length) xs.length (fun H => SqT K H a xs) (fun i H x H' => H' = H ∧ xs[xs.length - 1 - i]? = some x) :=
  ⟨fun i _ hi q => ⟨hi, xs, xs[xs.length - 1 - i]'(by omega), q, by simp [show xs.length - 1 - i < xs.length by omega]⟩, fun _ _ => Nat.le_refl _, fun _ _ _ _ _ q y => ⟨y.1, y.2 xs q⟩⟩
theorem Sm.new {t : Addr} {o : HO} {H : Hp} (h : H t = none) : Same H (upd H t o) := fun b u e => by rw [upd_ne (ne_of_none e h)]; exact e
theorem ps_const {X : Cx} {st : Stmt} {t : Shared → Hp → TS} (h : ∀ s0 H0, PS (VG.re X s0 H0) st (t s0 H0)) (s1 : Shared) (H1 : Hp) (e : ∀ s0 H0, t s0 H0 = t s1 H1) : ∀ s0 H0, PS (VG.re X s0 H0) st (t s1 H1) := fun s0 H0 => by rw [← e s0 H0]; exact h s0 H0
theorem pt_const {X : Cx} {st : Expr} {t : Shared → Hp → TT} (h : ∀ s0 H0, PT (VG.re X s0 H0) st (t s0 H0)) (s1 : Shared) (H1 : Hp) (e : ∀ s0 H0, t s0 H0 = t s1 H1) : ∀ s0 H0, PT (VG.re X s0 H0) st (t s1 H1) := fun s0 H0 => by rw [← e s0 H0]; exact h s0 H0
theorem fz_same {L : List Addr} {Ho Hf : Hp} (z : VG.Fz L Ho Hf) (n : ∀ b ∈ L, Ho b = none) : Same Ho Hf := fun b o e => by
  rw [z.out b fun m => by rw [n b m] at e; cases e]
  exact e
theorem drop_same {L : List Addr} {Ho Hf H' : Hp} (z : VG.Fz L Ho Hf) (n : ∀ b ∈ L, Ho b = none) (s : Same Hf H') : Same Ho (VG.drop L H') := fun b o e => by
  rw [VG.drop_out fun m => by rw [n b m] at e; cases e]
  exact s _ _ (fz_same z n _ _ e)
theorem keep_L {L : List Addr} {Ho Hf H' : Hp} (z : VG.Fz L Ho Hf) (s : Same Hf H') : ∀ b ∈ L, H' b = Hf b := fun b hb => by
  obtain ⟨o, e⟩ := z.in_ b hb
  rw [e]
  exact s _ _ e
theorem fz_in {L : List Addr} {Ho Hf : Hp} (z : VG.Fz L Ho Hf) {b : Addr} (h : b ∈ L) : ∃ o, Hf b = some (VG.fz o) := z.in_ b h
/-- all but the list of what waits is kept -/
def KeptBut (wl : Addr) (H H' : Hp) : Prop := ∀ b o, H b = some o → b ≠ wl → H' b = some o
def zW (H0 : Hp) (a : Addr) (ks : List Dn) : Nat → L2.St → Hp → Prop
  | 0, σ, H => σ = [some (.ref a), none, none, none, none] ∧ Same H0 H
  | i + 1, σ, H => ∃ (wl : Addr) (ws : List V) (st : List (Int × Dn)) (lv : Int) (d : Dn) (v : V) (y4 : Option V), σ = [some (.ref a), some v, some (.ref wl), some (.int lv), y4] ∧ Same H0 H ∧ H0 wl = none ∧ H wl = some (.lst ws) ∧ StA H0 H ws st ∧ NdA H0 v d ∧
      (itS 1 ks)[i]? = some (lv, d) ∧ (itS 1 ks).drop (i + 1) = itS (lv + 1) d.kids ++ rest st
theorem zW_same {H0 : Hp} {a : Addr} {ks : List Dn} {i : Nat} {σ : L2.St} {H H' : Hp} (h : zW H0 a ks i σ H) (s : Same H H') : zW H0 a ks i σ H' := by
  cases i with
  | zero => exact ⟨h.1, Same.trans h.2 s⟩
  | succ i =>
    obtain ⟨wl, ws, st, lv, d, v, y4, e, h1, h2, h3, h4, h5, h6⟩ := h
    exact ⟨wl, ws, st, lv, d, v, y4, e, Same.trans h1 s, h2, s _ _ h3, h4.keep fun b xs e => s _ _ e, h5, h6⟩
def yW (H0 : Hp) (its : List (Int × Dn)) (i : Nat) (σp : L2.St) (H : Hp) (x : V) (σg : L2.St) (Ho : Hp) : Prop := i < its.length ∧ ∃ (wl t : Addr) (v : V) (lv : Int) (d : Dn), x = .ref t ∧ Ho t = some (.tup [.int lv, v]) ∧ NdA H0 v d ∧ its[i]? = some (lv, d) ∧
  KeptBut wl H Ho ∧ H0 wl = none ∧ σg[2]? = some (some (.ref wl)) ∧ (0 < i → σp[2]? = some (some (.ref wl))) ∧ (i = 0 → H wl = none) ∧ Same H0 Ho
def eW (H0 : Hp) (its : List (Int × Dn)) (i : Nat) (σp : L2.St) (H : Hp) (Ho : Hp) : Prop := its.length ≤ i ∧ ∃ wl, KeptBut wl H Ho ∧ H0 wl = none ∧ (0 < i → σp[2]? = some (some (.ref wl))) ∧ (i = 0 → H wl = none) ∧ Same H0 Ho
def hW (H0 : Hp) (a : Addr) (ks : List Dn) (i : Nat) (σp : L2.St) (H : Hp) (σ : L2.St) (Hg : Hp) : Prop := ∃ (wl : Addr) (ws : List V) (st : List (Int × Dn)) (y1 y3 y4 : Option V), σ = [some (.ref a), y1, some (.ref wl), y3, y4] ∧ Same H0 H ∧ H0 wl = none ∧ Hg wl = some (.lst ws) ∧ StA H0 Hg ws st ∧
  (itS 1 ks).drop i = rest st ∧ KeptBut wl H Hg ∧ (0 < i → σp[2]? = some (some (.ref wl))) ∧ (i = 0 → H wl = none)
def spWalk : VG.SpW := fun vs H0 N Z Yl En => ∃ (a : Addr) (xs : List V) (ks : List Dn), vs = [.ref a] ∧ H0 a = some (.tup xs) ∧ NdAs H0 xs ks ∧ (itS 1 ks).length ≤ 1000 ∧ N = (itS 1 ks).length ∧ Z = zW H0 a ks ∧ Yl = yW H0 (itS 1 ks) ∧ En = eW H0 (itS 1 ks)
end VLW

set_option Elab.async false
set_option linter.all false
set_option maxRecDepth 100000
set_option maxHeartbeats 4000000
namespace VL
open PySem PySem.Spec PyProof.Rows L2

def top (i : Nat) : Stmt := PySem.Challenge.pw_viewloom_k32_careful_lists.main.body.getD i (.Pass ⟨0, 0, 0, 0⟩)
theorem Rn.u1 {A : Around} {k : Nat} (r : Room k A) : A.units + 1 < cLine := by have := r.un; omega
abbrev s_walk : Stmt := top 1
abbrev s_kids_in : Stmt := top 2
abbrev s_ids_of : Stmt := top 3
abbrev s_best_row : Stmt := top 5
abbrev s_lengths_from : Stmt := top 6
abbrev s_count_above : Stmt := top 7
abbrev s_are_alike : Stmt := top 9
abbrev s_partners_of : Stmt := top 10
abbrev s_kept_ids : Stmt := top 11
abbrev s_patch : Stmt := top 12
abbrev s_removals : Stmt := top 13
abbrev s_changes : Stmt := top 14
abbrev s_own_changes : Stmt := top 15
abbrev s_placings : Stmt := top 16
abbrev s_is_careful : Stmt := top 17
abbrev s__law_cell : Stmt := top 19
abbrev s__law_start : Stmt := top 20
abbrev s__law_digit : Stmt := top 21
abbrev s__law_word : Stmt := top 22
abbrev s__law_attributes : Stmt := top 23
abbrev s__law_node : Stmt := top 24
abbrev s__law_pool : Stmt := top 25
abbrev s__law_document : Stmt := top 26
abbrev s__law_below : Stmt := top 27
abbrev s__law_flat : Stmt := top 28
abbrev s__law_ids : Stmt := top 29
abbrev s__law_partner : Stmt := top 30
abbrev s__law_kept : Stmt := top 31
abbrev s__law_turned : Stmt := top 32
abbrev s__law_fresh : Stmt := top 33
abbrev s__law_pair : Stmt := top 34
abbrev s__law_careful : Stmt := top 35
abbrev s__law_operation : Stmt := top 36
abbrev s_law : Stmt := top 37
structure Ad where
  u0 : Unit
structure Txt (K : PySem.W.Frag) (w : World) (mg : Str → Option Value) (C : Ad) : Prop where
  z_abs : mg "abs" = none
  z_any : mg "any" = none
  z_bool : mg "bool" = none
  z_dict : mg "dict" = none
  z_enumerate : mg "enumerate" = none
  z_int : mg "int" = none
  z_isinstance : mg "isinstance" = none
  z_len : mg "len" = none
  z_max : mg "max" = none
  z_min : mg "min" = none
  z_range : mg "range" = none
  z_reversed : mg "reversed" = none
  z_tuple : mg "tuple" = none
  z_zip : mg "zip" = none
  d_walk : DefE K mg "walk" s_walk ["document"]
  d_kids_in : DefE K mg "kids_in" s_kids_in ["node"]
  d_ids_of : DefE K mg "ids_of" s_ids_of ["document"]
  d_best_row : DefE K mg "best_row" s_best_row ["numbers"]
  d_lengths_from : DefE K mg "lengths_from" s_lengths_from ["numbers"]
  d_count_above : DefE K mg "count_above" s_count_above ["firsts", "number"]
  d_are_alike : DefE K mg "are_alike" s_are_alike ["old", "new"]
  d_partners_of : DefE K mg "partners_of" s_partners_of ["old", "new"]
  d_kept_ids : DefE K mg "kept_ids" s_kept_ids ["old", "new"]
  d_patch : DefE K mg "patch" s_patch ["old", "new"]
  d_removals : DefE K mg "removals" s_removals ["parent", "old", "new"]
  d_changes : DefE K mg "changes" s_changes ["parent", "old", "new"]
  d_own_changes : DefE K mg "own_changes" s_own_changes ["old", "new"]
  d_placings : DefE K mg "placings" s_placings ["parent", "kept", "new"]
  d_is_careful : DefE K mg "is_careful" s_is_careful ["old", "new", "operations"]
  d__law_cell : DefE K mg "_law_cell" s__law_cell ["script", "k"]
  d__law_start : DefE K mg "_law_start" s__law_start ["cell", "k"]
  d__law_digit : DefE K mg "_law_digit" s__law_digit ["state", "many"]
  d__law_word : DefE K mg "_law_word" s__law_word ["state"]
  d__law_attributes : DefE K mg "_law_attributes" s__law_attributes ["state"]
  d__law_node : DefE K mg "_law_node" s__law_node ["state", "levels", "pool"]
  d__law_pool : DefE K mg "_law_pool" s__law_pool ["state", "many"]
  d__law_document : DefE K mg "_law_document" s__law_document ["state", "many", "levels"]
  d__law_below : DefE K mg "_law_below" s__law_below ["node"]
  d__law_flat : DefE K mg "_law_flat" s__law_flat ["document", "parent", "level"]
  d__law_ids : DefE K mg "_law_ids" s__law_ids ["document"]
  d__law_partner : DefE K mg "_law_partner" s__law_partner ["kids", "node"]
  d__law_kept : DefE K mg "_law_kept" s__law_kept ["old", "new"]
  d__law_turned : DefE K mg "_law_turned" s__law_turned ["state", "document", "levels"]
  d__law_fresh : DefE K mg "_law_fresh" s__law_fresh ["state", "document", "first"]
  d__law_pair : DefE K mg "_law_pair" s__law_pair ["script", "k"]
  d__law_careful : DefE K mg "_law_careful" s__law_careful ["old", "new", "operations"]
  d__law_operation : DefE K mg "_law_operation" s__law_operation ["state", "old", "new"]
end VL

set_option Elab.async false
set_option linter.all false
set_option pp.maxSteps 700
set_option maxRecDepth 100000
set_option maxHeartbeats 4000000
namespace VL
open PySem PySem.Spec PyProof.Rows L2
def spKids : Sp := fun vs H Q _ => ∃ (v : V) (d : Dn) (G : Hp), vs = [v] ∧ Same G H ∧ NdA G v d ∧ ∀ p xs H', Same H H' → H' p = some (.tup xs) → NdAs G xs d.kids → Q (.ref p) H'
def wBody : Stmt → List Stmt
  | .While _ b _ _ => b
  | _ => []
def wTest : Stmt → Expr
  | .While t _ _ _ => t
  | _ => .Name "x" ⟨0, 0, 0, 0⟩
theorem paired_app {α β : Type} {G : α → β → Prop} : ∀ {l₁ m₁ : List α} {l₂ m₂ : List β}, Paired G l₁ l₂ → Paired G m₁ m₂ → Paired G (l₁ ++ m₁) (l₂ ++ m₂)
  | _, _, _, _, .nil, h => h
  | _, _, _, _, .cons a b, h => .cons a (paired_app b h)
/-- walk(document), the document told in a part of the heap -/
def spWalkG : VG.SpW := fun vs H N Z Yl En => ∃ (a : Addr) (xs : List V) (ks : List Dn) (G : Hp), vs = [.ref a] ∧ Same G H ∧ G a = some (.tup xs) ∧ NdAs G xs ks ∧ (itS 1 ks).length ≤ 1000 ∧ N = (itS 1 ks).length ∧ Z = zW G a ks ∧ Yl = yW G (itS 1 ks) ∧ En = eW G (itS 1 ks)
section
variable {P : Program} {w : World} {K : PySem.W.Frag} {mg : Str → Option Value} {base : Heap} {C : Ad}
theorem sc_kids_in : FnScope ["node"] ["node"] (defScope s_kids_in) := ⟨rfl, rfl, rfl, by decide +kernel, rfl, by decide +kernel, by decide +kernel⟩
theorem ok_kids (T : Txt K w mg C) : Cal P w K mg base 1 "kids_in" spKids := by
  refine cal_of T.d_kids_in sc_kids_in (fun vs H Q E h => ?_) (fun f cdv A outer s H vs Q E hr h => ?_)
  · obtain ⟨v, d, G, rfl, _⟩ := h
    rfl
  · obtain ⟨v, d, G, rfl, sG, hd, q⟩ := h
    refine ⟨_, (pss_cons (ps_if (pt_cmpR op_eq (pe_ix ix_tup (pv 0) pe_int (fun _ _ => rfl)) pe_str (nomark _)) (pss_one (ps_ret (pe_ix ix_tup (pv 0) pe_int (fun _ _ => rfl)))) pss_nil) (pss_one (ps_ret (pe_tup pa_nil)))), ?_⟩
    cases hd with
    | tx h1 =>
      refine ⟨_, rfl, _, _, _, _, rfl, rfl, SqT.of (sG _ _ h1), rfl, rfl, _, rfl, ite2 (fun q => absurd (of_decide_eq_true q) (by decide)) (fun _ => ?_)⟩
      exact ⟨by show 0 ≤ sizeLine; decide, fun p hp => q p [] _ (Sm.new hp) upd_same .nil⟩
    | el h1 ha hk hs =>
      refine ⟨_, rfl, _, _, _, _, rfl, rfl, SqT.of (sG _ _ h1), rfl, rfl, _, rfl, ite2 (fun _ => ?_) (fun q => absurd (decide_eq_true rfl) q)⟩
      exact ⟨_, rfl, _, _, _, _, rfl, rfl, SqT.of (sG _ _ h1), rfl, q _ _ _ (Same.refl _) (sG _ _ hk) hs⟩
theorem sc_walk : GScope ["document", "node", "waiting", "level", "kid"] ["document"] (defScope s_walk) := ⟨rfl, rfl, rfl, by decide +kernel, rfl, by decide +kernel, by decide +kernel⟩
theorem ok_walk (T : Txt K w mg C) : VG.Wlk P w K mg base 3 "walk" spWalkG := by
  have Gkids_in := ok_kids (P := P) (base := base) T
  refine VG.wlk_of (Nm := ["document", "node", "waiting", "level", "kid"]) T.d_walk sc_walk rfl (fun n f cdv => rfl) ?_
  rintro vs Hc N Z Yl En ⟨a, xs, ks, H, rfl, sG, ha, hn, hN, rfl, rfl, rfl, rfl⟩
  refine ⟨rfl, fun H' s => ⟨rfl, Same.trans sG s⟩, fun i σp H x σg Ho h => h.1, fun f cdv Aw outer s hr => ?_⟩
  have B1' : ∀ s0 H0, PS (VG.re (VG.gX P w K mg base ["document", "node", "waiting", "level", "kid"] "walk" (defScope s_walk) f cdv Aw outer s Hc) s0 H0) ((defBody s_walk).getD 0 (.Pass ⟨0, 0, 0, 0⟩)) _ := fun s0 H0 => (ps_setLc (i := 2) (own := [("node", 1)]) (g := gName 1) (tt := tYes) rfl sc_walk.nd rfl rfl (sw_true rfl rfl rfl (by decide +kernel)) (RT.pi_revA (by rfl) T.z_reversed (pv 0)) (blkOk_by (N := ["document", "node", "waiting", "level", "kid"]) (sc := (defScope s_walk)) (by decide +kernel)) (fun _ _ _ _ _ => pg_name (i := 1) sc_walk.nd rfl (Or.inl rfl)) (fun _ _ _ _ _ => pts_nil) (fun _ _ _ _ _ => (pe_tup (pa_cons pe_int (pa_cons (pv 1) pa_nil)))))
  have B1 := ps_const B1' s Hc (fun _ _ => rfl)
  clear B1'
  have B0' : ∀ s0 H0, PT (VG.re (VG.gX P w K mg base ["document", "node", "waiting", "level", "kid"] "walk" (defScope s_walk) f cdv Aw outer s Hc) s0 H0) (wTest ((defBody s_walk).getD 1 (.Pass ⟨0, 0, 0, 0⟩))) _ := fun s0 H0 => (pt_truth (pv 2) (fun _ => rfl))
  have B0 := pt_const B0' s Hc (fun _ _ => rfl)
  clear B0'
  have B2' : ∀ s0 H0, PS (VG.re (VG.gX P w K mg base ["document", "node", "waiting", "level", "kid"] "walk" (defScope s_walk) f cdv Aw outer s Hc) s0 H0) ((wBody ((defBody s_walk).getD 1 (.Pass ⟨0, 0, 0, 0⟩))).getD 0 (.Pass ⟨0, 0, 0, 0⟩)) _ := fun s0 H0 => (ps_asg (pe_bm0 PySem.F.plainAttrs_list PySem.F.slot_list_pop PySem.F.type_list_pop mt_pop (pv 2)) (pg_tup rfl (pgs_cons (pg_name (i := 3) sc_walk.nd rfl (Or.inr rfl)) (pgs_cons (pg_name (i := 1) sc_walk.nd rfl (Or.inl rfl)) pgs_nil))))
  have B2 := ps_const B2' s Hc (fun _ _ => rfl)
  clear B2'
  have B3' : ∀ s0 H0, PS (VG.re (VG.gX P w K mg base ["document", "node", "waiting", "level", "kid"] "walk" (defScope s_walk) f cdv Aw outer s Hc) s0 H0) ((wBody ((defBody s_walk).getD 1 (.Pass ⟨0, 0, 0, 0⟩))).getD 2 (.Pass ⟨0, 0, 0, 0⟩)) _ := fun s0 H0 => (ps_aug (i := 2) sc_walk.nd rfl (Or.inl rfl) (pe_lc (own := [("kid", 4)]) (g := gName 4) (tt := tYes) rfl sc_walk.nd (RT.pi_revA (by rfl) T.z_reversed (pe_c Gkids_in hr (by decide) (by rfl) (pa_cons (pv 1) pa_nil))) (blkOk_by (N := ["document", "node", "waiting", "level", "kid"]) (sc := (defScope s_walk)) (by decide +kernel)) (fun _ _ _ _ _ => pg_name (i := 4) sc_walk.nd rfl (Or.inl rfl)) (fun _ _ _ _ _ => pts_nil) (fun _ _ _ _ _ => (pe_tup (pa_cons (pe_op op_add (pv 3) pe_int) (pa_cons (pv 4) pa_nil))))) iop_ext)
  have B3 := ps_const B3' s Hc (fun _ _ => rfl)
  clear B3'
  refine ⟨_, _, _, _, _, fun i σp H' σ Hg => hW H a ks i σp H' σ Hg, B1, B0, B2, fun s0 H0 => (pe_tup (pa_cons (pv 3) (pa_cons (pv 1) pa_nil))), B3, ?_, ?_, ?_⟩
  · rintro σ H1 Hg ⟨rfl, s1⟩ sg
    have s2 := Same.trans s1 sg
    have kl := itS_len 1 ks
    have nl := hn.len
    refine ⟨_, rfl, a, xs, rfl, .inr ⟨SqT.of (s2 _ _ ha), fun D hD => ?_⟩⟩
    refine lc_it walk_revT (fun i H' => Same Hg H' ∧ ∃ ws, H' D = some (.lst ws) ∧ StA H H' ws ((ks.reverse.take i).map fun d => (1, d))) ⟨Sm.new hD, [], upd_same, .nil⟩ (fun i H' _ z => SqT.of (z.1 _ _ (s2 _ _ ha))) ?_ ?_
    · rintro i x H' H'' hi ⟨s3, ws, hw, hst⟩ ⟨rfl, hx⟩
      have hx' : xs.reverse[i]? = some x := by
        rw [List.getElem?_reverse hi]
        exact hx
      obtain ⟨d, hd, hxd⟩ := hn.rev.get hx'
      refine ⟨rfl, _, rfl, by show 2 ≤ sizeLine; decide, fun t ht => ?_⟩
      have wl : ws.length ≤ 1000 := by
        rw [hst.len, List.length_map, List.length_take, List.length_reverse]
        omega
      have nD : D ≠ t := ne_of_none hw ht
      refine ⟨ws, by rw [upd_ne nD]; exact hw, by show ws.length < _; exact Nat.lt_of_le_of_lt wl (by decide), fun b o e => ?_, ws ++ [.ref t], upd_same, ?_⟩
      · rw [upd_ne (ne_of_none e hD), upd_ne (ne_of_none (s3 _ _ e) ht)]
        exact s3 _ _ e
      · rw [List.take_add_one, hd, List.map_append]
        refine StA.snoc (hst.keep fun b zs e => ?_) (by rw [upd_ne (Ne.symm nD)]; exact upd_same) hxd
        rw [upd_ne (fun z => by rw [z, hw] at e; cases e), upd_ne (ne_of_none e ht)]
        exact e
    · rintro H' ⟨s3, ws, hw, hst⟩
      have e : ks.reverse.take xs.length = ks.reverse := List.take_of_length_le (by rw [List.length_reverse, nl]; exact Nat.le_refl _)
      rw [e] at hst
      refine ⟨D, ws, _, _, _, _, rfl, s1, Same.free s2 hD, hw, hst, ?_, fun b o e _ => s3 _ _ (sg _ _ e), fun z => absurd z (by decide), fun _ => Same.free sg hD⟩
      have := rest_kids 1 ks []
      rw [List.nil_append] at this
      rw [this]
      simp [rest]
  · rintro i σ H1 Hg ⟨wl, ws, st, lv, d, v, y4, rfl, s1, w0, hw, hst, hv, hi, hdr⟩ sg
    have s2 := Same.trans s1 sg
    have lt : (itS 1 ks).length - (i + 1) = (itS (lv + 1) d.kids).length + (rest st).length := by
      rw [← List.length_drop, hdr, List.length_append]
    have kl := itS_len (lv + 1) d.kids
    have rl := rest_len st
    have wsl := hst.len
    refine ⟨_, rfl, _, rfl, v, d, H, rfl, s2, hv, fun p zs H2 s3 hp hz => ?_⟩
    have zl := hz.len
    refine ⟨p, zs, rfl, .inr ⟨SqT.of hp, fun D hD => ?_⟩⟩
    refine lc_it walk_revT (fun j H' => Same H2 H' ∧ ∃ us, H' D = some (.lst us) ∧ StA H H' us ((d.kids.reverse.take j).map fun d => (lv + 1, d))) ⟨Sm.new hD, [], upd_same, .nil⟩ (fun j H' _ z => SqT.of (z.1 _ _ hp)) ?_ ?_
    · rintro j x H' H'' hj ⟨s4, us, hu, hsu⟩ ⟨rfl, hx⟩
      have hx' : zs.reverse[j]? = some x := by
        rw [List.getElem?_reverse hj]
        exact hx
      obtain ⟨e, he, hxe⟩ := hz.rev.get hx'
      refine ⟨rfl, _, rfl, _, _, rfl, rfl, _, rfl, by show 2 ≤ sizeLine; decide, fun t ht => ?_⟩
      have ul : us.length ≤ 1000 := by
        rw [hsu.len, List.length_map, List.length_take, List.length_reverse]
        omega
      have nD : D ≠ t := ne_of_none hu ht
      refine ⟨us, by rw [upd_ne nD]; exact hu, by show us.length < _; exact Nat.lt_of_le_of_lt ul (by decide), fun b o e => ?_, us ++ [.ref t], upd_same, ?_⟩
      · rw [upd_ne (ne_of_none e hD), upd_ne (ne_of_none (s4 _ _ e) ht)]
        exact s4 _ _ e
      · rw [List.take_add_one, he, List.map_append]
        refine StA.snoc (hsu.keep fun b zs e => ?_) (by rw [upd_ne (Ne.symm nD)]; exact upd_same) hxe
        rw [upd_ne (fun z => by rw [z, hu] at e; cases e), upd_ne (ne_of_none e ht)]
        exact e
    · rintro H' ⟨s4, us, hu, hsu⟩
      have e : d.kids.reverse.take zs.length = d.kids.reverse := List.take_of_length_le (by rw [List.length_reverse, zl]; exact Nat.le_refl _)
      rw [e] at hsu
      have hw' : H' wl = some (.lst ws) := s4 _ _ (s3 _ _ (sg _ _ hw))
      have ul := hsu.len
      rw [List.length_map, List.length_reverse] at ul
      refine ⟨wl, D, ws, us, rfl, rfl, hw', hu, by show ws.length + us.length ≤ _; exact Nat.le_trans (show ws.length + us.length ≤ 1000 by omega) (by decide), ?_⟩
      have tk : ∀ b xs, H1 b = some (.tup xs) → upd H' wl (.lst (ws ++ us)) b = some (.tup xs) := fun b xs e => by
        rw [upd_ne (fun z => by rw [z, hw] at e; cases e)]
        exact s4 _ _ (s3 _ _ (sg _ _ e))
      have tk' : ∀ b xs, H' b = some (.tup xs) → upd H' wl (.lst (ws ++ us)) b = some (.tup xs) := fun b xs e => by
        rw [upd_ne (fun z => by rw [z, hw'] at e; cases e)]
        exact e
      refine ⟨wl, ws ++ us, st ++ d.kids.reverse.map fun d => (lv + 1, d), _, _, _, rfl, s1, w0, upd_same, paired_app (hst.keep tk) (hsu.keep tk'), by rw [hdr, rest_kids], fun b o e ne => ?_, fun _ => rfl, fun z => by omega⟩
      rw [upd_ne ne]
      exact s4 _ _ (s3 _ _ (sg _ _ e))
  · rintro i σp H1 σ Hg ⟨wl, ws, st, y1, y3, y4, rfl, s1, w0, hw, hst, hdr, kb, c1, c2⟩
    refine ⟨_, rfl, !ws.isEmpty, .inl ⟨ws, SqL.of hw, rfl⟩, ?_⟩
    cases ws with
    | nil =>
      have : st = [] := List.eq_nil_of_length_eq_zero (by rw [← hst.len]; rfl)
      subst this
      have hl : (itS 1 ks).length ≤ i := by
        have := congrArg List.length hdr
        rw [List.length_drop] at this
        simp [rest] at this
        omega
      refine (?_ : (_ ∧ _))
      refine ⟨fun b u e z => ?_, fun Ho T => ⟨hl, wl, fun b o e ne => T.old b o e (kb b o e ne), w0, c1, c2, fun b o e => T.old b o (s1 _ _ e) (kb b o (s1 _ _ e) fun z => by rw [z, w0] at e; cases e)⟩⟩
      by_cases c : b = wl
      · rw [c, hw] at z
        cases z
      · rw [kb b u e c] at z
        cases z
    | cons w1 wr =>
      obtain ⟨ws', st', t, u, l, d, e1, rfl, hst', ht, hu⟩ := hst.last (by simp)
      rw [rest_snoc, it_eq] at hdr
      have hi : (itS 1 ks)[i]? = some (l, d) := by
        have := congrArg (fun z => z[0]?) hdr
        simpa using this
      have hdr1 : (itS 1 ks).drop (i + 1) = itS (l + 1) d.kids ++ rest st' := by
        have := congrArg List.tail hdr
        simpa [List.tail_drop] using this
      have hil : i < (itS 1 ks).length := (List.getElem?_eq_some_iff.mp hi).1
      refine (?_ : (_ ∧ _))
      rw [e1] at hw
      have nwt : t ≠ wl := fun z => by rw [z, hw] at ht; cases ht
      refine ⟨by omega, _, rfl, .inl ⟨rfl, _, SqL.of hw⟩, wl, _, .ref t, rfl, rfl, hw, by simp, t, [.int l, u], rfl, SqT.of (by rw [upd_ne nwt]; exact ht), rfl, _, _, rfl, _, _, rfl, rfl, ?_⟩
      refine ⟨_, rfl, _, rfl, by show 2 ≤ sizeLine; decide, fun q hq => ?_⟩
      have hwl : upd Hg wl (.lst (ws' ++ [V.ref t]).dropLast) wl = some (.lst ws') := by rw [List.dropLast_concat]; exact upd_same
      have hot : ∀ b o, Hg b = some o → b ≠ wl → upd Hg wl (.lst (ws' ++ [V.ref t]).dropLast) b = some o := fun b o e ne => by rw [upd_ne ne]; exact e
      generalize upd Hg wl (.lst (ws' ++ [V.ref t]).dropLast) = Hp1 at hq hwl hot ⊢
      have nwq : wl ≠ q := ne_of_none hwl hq
      have k2 : ∀ b o, Hg b = some o → b ≠ wl → upd Hp1 q (.tup [.int l, u]) b = some o := fun b o e ne => by
        rw [upd_ne (ne_of_none (hot b o e ne) hq)]
        exact hot b o e ne
      have hw2 : upd Hp1 q (.tup [.int l, u]) wl = some (.lst ws') := by rw [upd_ne nwq]; exact hwl
      have hq2 : upd Hp1 q (.tup [.int l, u]) q = some (.tup [.int l, u]) := upd_same
      generalize upd Hp1 q (.tup [.int l, u]) = H2 at k2 hw2 hq2 ⊢
      refine (?_ : (_ ∧ _))
      refine ⟨fun b u e z => ?_, fun Ho T => ?_⟩
      · by_cases c : b = wl
        · rw [c, hw2] at z
          cases z
        · rw [k2 b u (kb b u e c) c] at z
          cases z
      · have kb2 : KeptBut wl H1 Ho := fun b o e ne => T.old b o e (k2 b o (kb b o e ne) ne)
        have sm : Same H Ho := fun b o e => kb2 b o (s1 _ _ e) fun z => by rw [z, w0] at e; cases e
        refine ⟨⟨hil, wl, q, u, l, d, rfl, T.new q _ hq2 fun o z => (by cases z), hu, hi, kb2, w0, rfl, c1, c2, sm⟩, wl, ws', st', l, d, u, _, rfl, sm, w0, T.new wl _ hw2 fun o z => (by cases z), hst'.keep fun b xs e => ?_, hu, hi, hdr1⟩
        exact T.new b _ (k2 b _ e fun z => by rw [z, hw] at e; cases e) fun o z => (by cases z)
end
end VL

set_option Elab.async false
set_option linter.all false
set_option pp.maxSteps 700
set_option maxRecDepth 100000
set_option maxHeartbeats 4000000
namespace VLW
open VL PySem PySem.Spec PyProof.Rows L2
def spKids : Sp := fun vs H Q _ => ∃ (v : V) (d : Dn) (G : Hp), vs = [v] ∧ Same G H ∧ NdA G v d ∧ ∀ p xs H', Same H H' → H' p = some (.tup xs) → NdAs G xs d.kids → Q (.ref p) H'
def wBody : Stmt → List Stmt
  | .While _ b _ _ => b
  | _ => []
def wTest : Stmt → Expr
  | .While t _ _ _ => t
  | _ => .Name "x" ⟨0, 0, 0, 0⟩
theorem paired_app {α β : Type} {G : α → β → Prop} : ∀ {l₁ m₁ : List α} {l₂ m₂ : List β}, Paired G l₁ l₂ → Paired G m₁ m₂ → Paired G (l₁ ++ m₁) (l₂ ++ m₂)
  | _, _, _, _, .nil, h => h
  | _, _, _, _, .cons a b, h => .cons a (paired_app b h)
/-- walk(document), the document told in a part of the heap -/
def spWalkG : VG.SpW := fun vs H N Z Yl En => ∃ (a : Addr) (xs : List V) (ks : List Dn) (G : Hp), vs = [.ref a] ∧ Same G H ∧ G a = some (.tup xs) ∧ NdAs G xs ks ∧ (itS 1 ks).length ≤ 1000 ∧ N = (itS 1 ks).length ∧ Z = zW G a ks ∧ Yl = yW G (itS 1 ks) ∧ En = eW G (itS 1 ks)
section
variable {P : Program} {w : World} {K : PySem.W.Frag} {mg : Str → Option Value} {base : Heap} {C : Ad}
theorem sc_kids_in : FnScope ["node"] ["node"] (defScope s_kids_in) := ⟨rfl, rfl, rfl, by decide +kernel, rfl, by decide +kernel, by decide +kernel⟩
theorem ok_kids (T : Txt K w mg C) : Cal P w K mg base 1 "kids_in" spKids := by
  refine cal_of T.d_kids_in sc_kids_in (fun vs H Q E h => ?_) (fun f cdv A outer s H vs Q E hr h => ?_)
  · obtain ⟨v, d, G, rfl, _⟩ := h
    rfl
  · obtain ⟨v, d, G, rfl, sG, hd, q⟩ := h
    refine ⟨_, (pss_cons (ps_if (pt_cmpR op_eq (pe_ix ix_tup (pv 0) pe_int (fun _ _ => rfl)) pe_str (nomark _)) (pss_one (ps_ret (pe_ix ix_tup (pv 0) pe_int (fun _ _ => rfl)))) pss_nil) (pss_one (ps_ret (pe_tup pa_nil)))), ?_⟩
    cases hd with
    | tx h1 =>
      refine ⟨_, rfl, _, _, _, _, rfl, rfl, SqT.of (sG _ _ h1), rfl, rfl, _, rfl, ite2 (fun q => absurd (of_decide_eq_true q) (by decide)) (fun _ => ?_)⟩
      exact ⟨by show 0 ≤ sizeLine; decide, fun p hp => q p [] _ (Sm.new hp) upd_same .nil⟩
    | el h1 ha hk hs =>
      refine ⟨_, rfl, _, _, _, _, rfl, rfl, SqT.of (sG _ _ h1), rfl, rfl, _, rfl, ite2 (fun _ => ?_) (fun q => absurd (decide_eq_true rfl) q)⟩
      exact ⟨_, rfl, _, _, _, _, rfl, rfl, SqT.of (sG _ _ h1), rfl, q _ _ _ (Same.refl _) (sG _ _ hk) hs⟩
theorem sc_walk : GScope ["document", "node", "waiting", "level", "kid"] ["document"] (defScope s_walk) := ⟨rfl, rfl, rfl, by decide +kernel, rfl, by decide +kernel, by decide +kernel⟩
theorem ok_walk (T : Txt K w mg C) : VG.Wlk P w K mg base 3 "walk" spWalkG := by
  have Gkids_in := ok_kids (P := P) (base := base) T
  refine VG.wlk_of (Nm := ["document", "node", "waiting", "level", "kid"]) T.d_walk sc_walk rfl (fun n f cdv => rfl) ?_
  rintro vs Hc N Z Yl En ⟨a, xs, ks, H, rfl, sG, ha, hn, hN, rfl, rfl, rfl, rfl⟩
  refine ⟨rfl, fun H' s => ⟨rfl, Same.trans sG s⟩, fun i σp H x σg Ho h => h.1, fun f cdv Aw outer s hr => ?_⟩
  have B1' : ∀ s0 H0, PS (VG.re (VG.gX P w K mg base ["document", "node", "waiting", "level", "kid"] "walk" (defScope s_walk) f cdv Aw outer s Hc) s0 H0) ((defBody s_walk).getD 0 (.Pass ⟨0, 0, 0, 0⟩)) _ := fun s0 H0 => (ps_setLc (i := 2) (own := [("node", 1)]) (g := gName 1) (tt := tYes) rfl sc_walk.nd rfl rfl (sw_true rfl rfl rfl (by decide +kernel)) (RT.pi_revA (by rfl) T.z_reversed (pv 0)) (blkOk_by (N := ["document", "node", "waiting", "level", "kid"]) (sc := (defScope s_walk)) (by decide +kernel)) (fun _ _ _ _ _ => pg_name (i := 1) sc_walk.nd rfl (Or.inl rfl)) (fun _ _ _ _ _ => pts_nil) (fun _ _ _ _ _ => (pe_tup (pa_cons pe_int (pa_cons (pv 1) pa_nil)))))
  have B1 := ps_const B1' s Hc (fun _ _ => rfl)
  clear B1'
  have B0' : ∀ s0 H0, PT (VG.re (VG.gX P w K mg base ["document", "node", "waiting", "level", "kid"] "walk" (defScope s_walk) f cdv Aw outer s Hc) s0 H0) (wTest ((defBody s_walk).getD 1 (.Pass ⟨0, 0, 0, 0⟩))) _ := fun s0 H0 => (pt_truth (pv 2) (fun _ => rfl))
  have B0 := pt_const B0' s Hc (fun _ _ => rfl)
  clear B0'
  have B2' : ∀ s0 H0, PS (VG.re (VG.gX P w K mg base ["document", "node", "waiting", "level", "kid"] "walk" (defScope s_walk) f cdv Aw outer s Hc) s0 H0) ((wBody ((defBody s_walk).getD 1 (.Pass ⟨0, 0, 0, 0⟩))).getD 0 (.Pass ⟨0, 0, 0, 0⟩)) _ := fun s0 H0 => (ps_asg (pe_bm0 PySem.F.plainAttrs_list PySem.F.slot_list_pop PySem.F.type_list_pop mt_pop (pv 2)) (pg_tup rfl (pgs_cons (pg_name (i := 3) sc_walk.nd rfl (Or.inr rfl)) (pgs_cons (pg_name (i := 1) sc_walk.nd rfl (Or.inl rfl)) pgs_nil))))
  have B2 := ps_const B2' s Hc (fun _ _ => rfl)
  clear B2'
  have B3' : ∀ s0 H0, PS (VG.re (VG.gX P w K mg base ["document", "node", "waiting", "level", "kid"] "walk" (defScope s_walk) f cdv Aw outer s Hc) s0 H0) ((wBody ((defBody s_walk).getD 1 (.Pass ⟨0, 0, 0, 0⟩))).getD 2 (.Pass ⟨0, 0, 0, 0⟩)) _ := fun s0 H0 => (ps_aug (i := 2) sc_walk.nd rfl (Or.inl rfl) (pe_lc (own := [("kid", 4)]) (g := gName 4) (tt := tYes) rfl sc_walk.nd (RT.pi_revA (by rfl) T.z_reversed (pe_c Gkids_in hr (by decide) (by rfl) (pa_cons (pv 1) pa_nil))) (blkOk_by (N := ["document", "node", "waiting", "level", "kid"]) (sc := (defScope s_walk)) (by decide +kernel)) (fun _ _ _ _ _ => pg_name (i := 4) sc_walk.nd rfl (Or.inl rfl)) (fun _ _ _ _ _ => pts_nil) (fun _ _ _ _ _ => (pe_tup (pa_cons (pe_op op_add (pv 3) pe_int) (pa_cons (pv 4) pa_nil))))) iop_ext)
  have B3 := ps_const B3' s Hc (fun _ _ => rfl)
  clear B3'
  refine ⟨_, _, _, _, _, fun i σp H' σ Hg => hW H a ks i σp H' σ Hg, B1, B0, B2, fun s0 H0 => (pe_tup (pa_cons (pv 3) (pa_cons (pv 1) pa_nil))), B3, ?_, ?_, ?_⟩
  · rintro σ H1 Hg ⟨rfl, s1⟩ sg
    have s2 := Same.trans s1 sg
    have kl := itS_len 1 ks
    have nl := hn.len
    refine ⟨_, rfl, a, xs, rfl, .inr ⟨SqT.of (s2 _ _ ha), fun D hD => ?_⟩⟩
    refine lc_it walk_revT (fun i H' => Same Hg H' ∧ ∃ ws, H' D = some (.lst ws) ∧ StA H H' ws ((ks.reverse.take i).map fun d => (1, d))) ⟨Sm.new hD, [], upd_same, .nil⟩ (fun i H' _ z => SqT.of (z.1 _ _ (s2 _ _ ha))) ?_ ?_
    · rintro i x H' H'' hi ⟨s3, ws, hw, hst⟩ ⟨rfl, hx⟩
      have hx' : xs.reverse[i]? = some x := by
        rw [List.getElem?_reverse hi]
        exact hx
      obtain ⟨d, hd, hxd⟩ := hn.rev.get hx'
      refine ⟨rfl, _, rfl, by show 2 ≤ sizeLine; decide, fun t ht => ?_⟩
      have wl : ws.length ≤ 1000 := by
        rw [hst.len, List.length_map, List.length_take, List.length_reverse]
        omega
      have nD : D ≠ t := ne_of_none hw ht
      refine ⟨ws, by rw [upd_ne nD]; exact hw, by show ws.length < _; exact Nat.lt_of_le_of_lt wl (by decide), fun b o e => ?_, ws ++ [.ref t], upd_same, ?_⟩
      · rw [upd_ne (ne_of_none e hD), upd_ne (ne_of_none (s3 _ _ e) ht)]
        exact s3 _ _ e
      · rw [List.take_add_one, hd, List.map_append]
        refine StA.snoc (hst.keep fun b zs e => ?_) (by rw [upd_ne (Ne.symm nD)]; exact upd_same) hxd
        rw [upd_ne (fun z => by rw [z, hw] at e; cases e), upd_ne (ne_of_none e ht)]
        exact e
    · rintro H' ⟨s3, ws, hw, hst⟩
      have e : ks.reverse.take xs.length = ks.reverse := List.take_of_length_le (by rw [List.length_reverse, nl]; exact Nat.le_refl _)
      rw [e] at hst
      refine ⟨D, ws, _, _, _, _, rfl, s1, Same.free s2 hD, hw, hst, ?_, fun b o e _ => s3 _ _ (sg _ _ e), fun z => absurd z (by decide), fun _ => Same.free sg hD⟩
      have := rest_kids 1 ks []
      rw [List.nil_append] at this
      rw [this]
      simp [VL.rest]
  · rintro i σ H1 Hg ⟨wl, ws, st, lv, d, v, y4, rfl, s1, w0, hw, hst, hv, hi, hdr⟩ sg
    have s2 := Same.trans s1 sg
    have lt : (itS 1 ks).length - (i + 1) = (itS (lv + 1) d.kids).length + (rest st).length := by
      rw [← List.length_drop, hdr, List.length_append]
    have kl := itS_len (lv + 1) d.kids
    have rl := rest_len st
    have wsl := hst.len
    refine ⟨_, rfl, _, rfl, v, d, H, rfl, s2, hv, fun p zs H2 s3 hp hz => ?_⟩
    have zl := hz.len
    refine ⟨p, zs, rfl, .inr ⟨SqT.of hp, fun D hD => ?_⟩⟩
    refine lc_it walk_revT (fun j H' => Same H2 H' ∧ ∃ us, H' D = some (.lst us) ∧ StA H H' us ((d.kids.reverse.take j).map fun d => (lv + 1, d))) ⟨Sm.new hD, [], upd_same, .nil⟩ (fun j H' _ z => SqT.of (z.1 _ _ hp)) ?_ ?_
    · rintro j x H' H'' hj ⟨s4, us, hu, hsu⟩ ⟨rfl, hx⟩
      have hx' : zs.reverse[j]? = some x := by
        rw [List.getElem?_reverse hj]
        exact hx
      obtain ⟨e, he, hxe⟩ := hz.rev.get hx'
      refine ⟨rfl, _, rfl, _, _, rfl, rfl, _, rfl, by show 2 ≤ sizeLine; decide, fun t ht => ?_⟩
      have ul : us.length ≤ 1000 := by
        rw [hsu.len, List.length_map, List.length_take, List.length_reverse]
        omega
      have nD : D ≠ t := ne_of_none hu ht
      refine ⟨us, by rw [upd_ne nD]; exact hu, by show us.length < _; exact Nat.lt_of_le_of_lt ul (by decide), fun b o e => ?_, us ++ [.ref t], upd_same, ?_⟩
      · rw [upd_ne (ne_of_none e hD), upd_ne (ne_of_none (s4 _ _ e) ht)]
        exact s4 _ _ e
      · rw [List.take_add_one, he, List.map_append]
        refine StA.snoc (hsu.keep fun b zs e => ?_) (by rw [upd_ne (Ne.symm nD)]; exact upd_same) hxe
        rw [upd_ne (fun z => by rw [z, hu] at e; cases e), upd_ne (ne_of_none e ht)]
        exact e
    · rintro H' ⟨s4, us, hu, hsu⟩
      have e : d.kids.reverse.take zs.length = d.kids.reverse := List.take_of_length_le (by rw [List.length_reverse, zl]; exact Nat.le_refl _)
      rw [e] at hsu
      have hw' : H' wl = some (.lst ws) := s4 _ _ (s3 _ _ (sg _ _ hw))
      have ul := hsu.len
      rw [List.length_map, List.length_reverse] at ul
      refine ⟨wl, D, ws, us, rfl, rfl, hw', hu, by show ws.length + us.length ≤ _; exact Nat.le_trans (show ws.length + us.length ≤ 1000 by omega) (by decide), ?_⟩
      have tk : ∀ b xs, H1 b = some (.tup xs) → upd H' wl (.lst (ws ++ us)) b = some (.tup xs) := fun b xs e => by
        rw [upd_ne (fun z => by rw [z, hw] at e; cases e)]
        exact s4 _ _ (s3 _ _ (sg _ _ e))
      have tk' : ∀ b xs, H' b = some (.tup xs) → upd H' wl (.lst (ws ++ us)) b = some (.tup xs) := fun b xs e => by
        rw [upd_ne (fun z => by rw [z, hw'] at e; cases e)]
        exact e
      refine ⟨wl, ws ++ us, st ++ d.kids.reverse.map fun d => (lv + 1, d), _, _, _, rfl, s1, w0, upd_same, paired_app (hst.keep tk) (hsu.keep tk'), by rw [hdr, rest_kids], fun b o e ne => ?_, fun _ => rfl, fun z => by omega⟩
      rw [upd_ne ne]
      exact s4 _ _ (s3 _ _ (sg _ _ e))
  · rintro i σp H1 σ Hg ⟨wl, ws, st, y1, y3, y4, rfl, s1, w0, hw, hst, hdr, kb, c1, c2⟩
    refine ⟨_, rfl, !ws.isEmpty, .inl ⟨ws, SqL.of hw, rfl⟩, ?_⟩
    cases ws with
    | nil =>
      have : st = [] := List.eq_nil_of_length_eq_zero (by rw [← hst.len]; rfl)
      subst this
      have hl : (itS 1 ks).length ≤ i := by
        have := congrArg List.length hdr
        rw [List.length_drop] at this
        simp [VL.rest] at this
        omega
      refine (?_ : (_ ∧ _))
      refine ⟨fun b u e z => ?_, fun Ho T => ⟨hl, wl, fun b o e ne => T.old b o e (kb b o e ne), w0, c1, c2, fun b o e => T.old b o (s1 _ _ e) (kb b o (s1 _ _ e) fun z => by rw [z, w0] at e; cases e)⟩⟩
      by_cases c : b = wl
      · rw [c, hw] at z
        cases z
      · rw [kb b u e c] at z
        cases z
    | cons w1 wr =>
      obtain ⟨ws', st', t, u, l, d, e1, rfl, hst', ht, hu⟩ := hst.last (by simp)
      rw [rest_snoc, it_eq] at hdr
      have hi : (itS 1 ks)[i]? = some (l, d) := by
        have := congrArg (fun z => z[0]?) hdr
        simpa using this
      have hdr1 : (itS 1 ks).drop (i + 1) = itS (l + 1) d.kids ++ rest st' := by
        have := congrArg List.tail hdr
        simpa [List.tail_drop] using this
      have hil : i < (itS 1 ks).length := (List.getElem?_eq_some_iff.mp hi).1
      refine (?_ : (_ ∧ _))
      rw [e1] at hw
      have nwt : t ≠ wl := fun z => by rw [z, hw] at ht; cases ht
      refine ⟨by omega, _, rfl, .inl ⟨rfl, _, SqL.of hw⟩, wl, _, .ref t, rfl, rfl, hw, by simp, t, [.int l, u], rfl, SqT.of (by rw [upd_ne nwt]; exact ht), rfl, _, _, rfl, _, _, rfl, rfl, ?_⟩
      refine ⟨_, rfl, _, rfl, by show 2 ≤ sizeLine; decide, fun q hq => ?_⟩
      have hwl : upd Hg wl (.lst (ws' ++ [V.ref t]).dropLast) wl = some (.lst ws') := by rw [List.dropLast_concat]; exact upd_same
      have hot : ∀ b o, Hg b = some o → b ≠ wl → upd Hg wl (.lst (ws' ++ [V.ref t]).dropLast) b = some o := fun b o e ne => by rw [upd_ne ne]; exact e
      generalize upd Hg wl (.lst (ws' ++ [V.ref t]).dropLast) = Hp1 at hq hwl hot ⊢
      have nwq : wl ≠ q := ne_of_none hwl hq
      have k2 : ∀ b o, Hg b = some o → b ≠ wl → upd Hp1 q (.tup [.int l, u]) b = some o := fun b o e ne => by
        rw [upd_ne (ne_of_none (hot b o e ne) hq)]
        exact hot b o e ne
      have hw2 : upd Hp1 q (.tup [.int l, u]) wl = some (.lst ws') := by rw [upd_ne nwq]; exact hwl
      have hq2 : upd Hp1 q (.tup [.int l, u]) q = some (.tup [.int l, u]) := upd_same
      generalize upd Hp1 q (.tup [.int l, u]) = H2 at k2 hw2 hq2 ⊢
      refine (?_ : (_ ∧ _))
      refine ⟨fun b u e z => ?_, fun Ho T => ?_⟩
      · by_cases c : b = wl
        · rw [c, hw2] at z
          cases z
        · rw [k2 b u (kb b u e c) c] at z
          cases z
      · have kb2 : KeptBut wl H1 Ho := fun b o e ne => T.old b o e (k2 b o (kb b o e ne) ne)
        have sm : Same H Ho := fun b o e => kb2 b o (s1 _ _ e) fun z => by rw [z, w0] at e; cases e
        refine ⟨⟨hil, wl, q, u, l, d, rfl, T.new q _ hq2 fun o z => (by cases z), hu, hi, kb2, w0, rfl, c1, c2, sm⟩, wl, ws', st', l, d, u, _, rfl, sm, w0, T.new wl _ hw2 fun o z => (by cases z), hst'.keep fun b xs e => ?_, hu, hi, hdr1⟩
        exact T.new b _ (k2 b _ e fun z => by rw [z, hw] at e; cases e) fun o z => (by cases z)
end
end VLW

set_option Elab.async false
set_option linter.all false
set_option pp.maxSteps 700
set_option maxRecDepth 100000
set_option maxHeartbeats 4000000
namespace VL
open PySem PySem.Spec PyProof.Rows L2
theorem AtA.sq {K : PySem.W.Frag} {H : Hp} {v : V} {as : List (Str × Str)} (h : AtA H v as) : ∃ a ps, v = .ref a ∧ SqT K H a (ps.map V.ref) ∧ Paired (fun p (x : Str × Str) => H p = some (.tup [.str x.1, .str x.2])) ps as := by
  obtain ⟨a, o, ps, rfl, h1, h2, h3⟩ := h
  exact ⟨a, ps, rfl, .inl (.inr ⟨o, h1⟩), h3⟩
def Dn.kind : Dn → Str
  | .tx _ _ => "text"
  | .el _ _ _ _ => "element"
theorem NdA.at {H : Hp} {v : V} {d : Dn} (h : NdA H v d) : ∃ a xs, v = .ref a ∧ H a = some (.tup (.str d.kind :: .int d.num :: xs)) := by
  cases h with
  | tx h => exact ⟨_, _, rfl, h⟩
  | el h _ _ _ => exact ⟨_, _, rfl, h⟩
theorem at_0 {x : V} {ys : List V} : atI (x :: ys) 0 = some x := by
  unfold atI ixN
  rw [if_pos (by decide), if_pos (by rw [List.length_cons]; omega)]
  rfl
theorem at_1 {x y : V} {ys : List V} : atI (x :: y :: ys) 1 = some y := by
  unfold atI ixN
  rw [if_pos (by decide), if_pos (by rw [List.length_cons, List.length_cons]; omega)]
  rfl
def DocA (H : Hp) (v : V) (ks : List Dn) : Prop := ∃ a xs, v = .ref a ∧ H a = some (.tup xs) ∧ NdAs H xs ks ∧ (itS 1 ks).length ≤ 1000
theorem DocA.same {H H' : Hp} {v : V} {ks : List Dn} (h : DocA H v ks) (s : Same H H') : DocA H' v ks := by
  obtain ⟨a, xs, e, h1, h2, h3⟩ := h
  exact ⟨a, xs, e, s _ _ h1, h2.same s, h3⟩
def findD (ks : List Dn) (n : Int) : Option (Int × Dn) := (itS 1 ks).find? fun p => decide (p.2.num = n)
def spFind : Sp := fun vs H Q _ => ∃ (v : V) (ks : List Dn) (n : Int), vs = [v, .int n] ∧ DocA H v ks ∧ (findD ks n = none → ∀ H', Same H H' → Q .non H') ∧ ∀ p u H', findD ks n = some p → NdA H u p.2 → Same H H' → Q u H'
section
variable {P : Program} {w : World} {K : PySem.W.Frag} {mg : Str → Option Value} {base : Heap} {C : Ad}
end
end VL

set_option Elab.async false
set_option linter.all false
set_option pp.maxSteps 700
set_option maxRecDepth 100000
set_option maxHeartbeats 4000000
namespace VL
open PySem PySem.Spec PyProof.Rows L2
theorem zW_upd {H0 : Hp} {a D : Addr} {ks : List Dn} {i : Nat} {σ : L2.St} {H H' : Hp} {us : List V} (h : zW H0 a ks (i + 1) σ H) (k : ∀ b o, H b = some o → b ≠ D → H' b = some o) (d0 : H0 D = none) (hD : H D = some (.lst us)) (ne : σ[2]? ≠ some (some (.ref D))) : zW H0 a ks (i + 1) σ H' := by
  obtain ⟨wl, ws, st, lv, d, v, y4, e, h1, h2, h3, h4, h5, h6⟩ := h
  have nw : wl ≠ D := fun z => ne (by rw [e, z]; rfl)
  exact ⟨wl, ws, st, lv, d, v, y4, e, fun b o e' => k _ _ (h1 _ _ e') fun z => by rw [z, d0] at e'; (cases e'), h2, k _ _ h3 nw, h4.keep fun b xs e' => k _ _ e' fun z => by rw [z, hD] at e'; (cases e'), h5, h6⟩
def ltS (a b : Str) : Bool := decide (a.cps.toList < b.cps.toList)
/-- each name greater than the one ahead -/
def ascB (l : List Str) : Bool := (l.zip (l.drop 1)).all fun p => ltS p.1 p.2
theorem cut_drop' {xs : List V} {k : Nat} : cutV xs (some (k : Int)) none = xs.drop k := by
  have e1 : HT.sIx xs.length 0 (some (k : Int)) = min k xs.length := HT.sIx_nat _ _ _
  have e2 : HT.sIx xs.length xs.length none = xs.length := rfl
  unfold cutV
  rw [e1, e2]
  by_cases h : k ≤ xs.length
  · rw [Nat.min_eq_left h, List.take_of_length_le]
    rw [List.length_drop]
    exact Nat.le_refl _
  · rw [Nat.min_eq_right (by omega), List.drop_eq_nil_of_le (show xs.length ≤ k by omega), List.drop_length]
    exact List.take_nil
theorem asc_stop {l : List Str} {j : Nat} {a b : Str} (h1 : l[j]? = some a) (h2 : l[j + 1]? = some b) (h : ltS a b = false) : ascB l = false := by
  unfold ascB
  rw [List.all_eq_false]
  refine ⟨(a, b), ?_, by rw [h]; decide⟩
  refine List.mem_of_getElem? (i := j) ?_
  rw [List.getElem?_zip_eq_some]
  exact ⟨h1, by rw [List.getElem?_drop, Nat.add_comm]; exact h2⟩
theorem asc_all {l : List Str} (h : ∀ (j : Nat) (a b : Str), l[j]? = some a → l[j + 1]? = some b → ltS a b = true) : ascB l = true := by
  unfold ascB
  rw [List.all_eq_true]
  rintro ⟨a, b⟩ hm
  obtain ⟨j, hj, e⟩ := List.getElem_of_mem hm
  have := List.getElem?_eq_getElem hj
  rw [e, List.getElem?_zip_eq_some, List.getElem?_drop, Nat.add_comm] at this
  exact h j a b this.1 this.2
def spAsc : Sp := fun vs H Q _ => ∃ (a : Addr) (l : List Str), vs = [.ref a] ∧ H a = some (.lst (l.map V.str)) ∧ ∀ H', Same H H' → Q (.bl (ascB l)) H'
def spIds : Sp := fun vs H Q _ => ∃ (v : V) (ks : List Dn), vs = [v] ∧ DocA H v ks ∧ ∀ p H', Same H H' → H' p = some (.lst ((itS 1 ks).map fun x => V.int x.2.num)) → Q (.ref p) H'
/-- what kids_of gives -/
def KidA (H : Hp) (v u : V) (ks : List Dn) (n : Int) : Prop := if n = 0 then u = v else match findD ks n with
  | some (_, .el _ _ _ kk) => ∃ pk xs, u = .ref pk ∧ H pk = some (.tup xs) ∧ NdAs H xs kk
  | _ => u = .non
def spKidsOf : Sp := fun vs H Q _ => ∃ (v : V) (ks : List Dn) (n : Int), vs = [v, .int n] ∧ DocA H v ks ∧ ∀ u H', Same H H' → KidA H v u ks n → Q u H'
section
variable {P : Program} {w : World} {K : PySem.W.Frag} {mg : Str → Option Value} {base : Heap} {C : Ad}
theorem sc_ids_of : FnScope ["document", "_", "node"] ["document"] (defScope s_ids_of) := ⟨rfl, rfl, rfl, by decide +kernel, rfl, by decide +kernel, by decide +kernel⟩
theorem ok_idsOf (T : Txt K w mg C) : Cal P w K mg base 6 "ids_of" spIds := by
  have Gwalk := ok_walk (P := P) (base := base) T
  refine cal_of T.d_ids_of sc_ids_of (fun vs H Q E h => ?_) (fun f cdv A outer s H vs Q E hr h => ?_)
  · obtain ⟨v, ks, rfl, _⟩ := h
    rfl
  · obtain ⟨v, ks, rfl, ⟨a, xs, rfl, ha, hn, hN⟩, q⟩ := h
    refine ⟨_, (pss_one (ps_ret (VG.pe_lcG (own_ := [("_", 1), ("node", 2)]) (g := gTup K 2 (gCons (gName 1) (gCons (gName 2) (gNil)))) (tt := tYes) sc_ids_of.nd hr.hd Gwalk hr (by decide) (by rfl) (pa_cons (pv 0) pa_nil) (blkOk_by (N := ["document", "_", "node"]) (sc := (defScope s_ids_of)) (by decide +kernel)) (fun _ _ _ _ _ => pg_tupS (K := K) rfl rfl (pgs_cons (pg_name (i := 1) sc_ids_of.nd rfl (Or.inl rfl)) (pgs_cons (pg_name (i := 2) sc_ids_of.nd rfl (Or.inl rfl)) pgs_nil))) (fun _ _ _ _ _ => pts_nil) (fun _ _ _ _ _ => (pe_ix (ix_tupS (K := K) rfl) (pv 2) pe_int (fun _ _ => rfl)))))), ?_⟩
    refine ⟨_, rfl, _, _, _, _, ⟨a, xs, ks, _, rfl, Same.refl _, ha, hn, hN, rfl, rfl, rfl, rfl⟩, fun L D hL hDn hDL => ?_⟩
    refine ⟨fun i σp H' => Same H (VG.drop L H') ∧ VG.drop L H' D = some (.lst (((itS 1 ks).take i).map fun x => V.int x.2.num)) ∧ (0 < i → σp[2]? ≠ some (some (.ref D))), fun Hf σp z => ?_, ?_, ?_⟩
    · have n0 : ∀ b ∈ L, upd H D (.lst []) b = none := fun b hb => by
        rw [upd_ne (fun z => hDL (by rw [← z]; exact hb))]
        exact hL b hb
      have ed := VG.drop_fz z n0
      exact ⟨by rw [ed]; exact Sm.new hDn, by rw [ed]; exact upd_same, fun h => absurd h (Nat.lt_irrefl _)⟩
    · rintro i σp H1 x Ho Hf σg ⟨s1, hus, c1⟩ fr ⟨hi, wl, t, u, lv, e, rfl, ht, hu, hid, kb, w0, g2, p2, i0, sm⟩ hz fz hn0
      have sf := fz_same fz hn0
      have nw : D ≠ wl := fun z => by
        rcases Nat.eq_zero_or_pos i with h0 | h0
        · rw [z, i0 h0] at hus
          cases hus
        · exact c1 h0 (by rw [z]; exact p2 h0)
      have hoD : Ho D = some (.lst (((itS 1 ks).take i).map fun x => V.int x.2.num)) := kb D _ hus nw
      obtain ⟨b, ys, rfl, hb⟩ := hu.at
      have hbf := sf _ _ (sm _ _ hb)
      have eT : ((itS 1 ks).take (i + 1)).map (fun x => V.int x.2.num) = ((itS 1 ks).take i).map (fun x => V.int x.2.num) ++ [V.int e.num] := by
        rw [List.take_add_one, hid, List.map_append]
        rfl
      refine ⟨t, [.int lv, .ref b], rfl, SqT.of (sf _ _ ht), rfl, _, _, rfl, _, _, rfl, rfl, rfl, ?_⟩
      refine ⟨_, rfl, b, _, _, _, rfl, rfl, SqT.of hbf, at_1, _, sf _ _ hoD, ?_, fun b' hb' => ?_, ?_, ?_⟩
      · rw [List.length_map, List.length_take]
        exact Nat.lt_of_le_of_lt (show min i _ ≤ 1000 by omega) (by decide)
      · rw [upd_ne (fun z => hDL (by rw [← z]; exact hb'))]
      · refine zW_upd hz (fun b' o e' ne => ?_) hDn hoD (fun z => ?_)
        · have nL : b' ∉ L := fun mm => by
            rw [hn0 b' mm] at e'
            cases e'
          rw [VG.drop_out nL, upd_ne ne]
          exact sf _ _ e'
        · rw [g2] at z
          cases z
          exact nw rfl
      · refine ⟨fun b' o e' => ?_, ?_, fun _ z => ?_⟩
        · have nL : b' ∉ L := fun mm => by
            rw [hL b' mm] at e'
            cases e'
          have nD : b' ≠ D := ne_of_none e' hDn
          rw [VG.drop_out nL, upd_ne nD]
          exact sf _ _ (sm _ _ e')
        · rw [VG.drop_out hDL, upd_same, eT]
        · rw [g2] at z
          cases z
          exact nw rfl
    · rintro i σp H1 Ho ⟨s1, hus, c1⟩ fr ⟨hi, wl, kb, w0, p2, i0, sm⟩ hn0
      have nw : D ≠ wl := fun z => by
        rcases Nat.eq_zero_or_pos i with h0 | h0
        · rw [z, i0 h0] at hus
          cases hus
        · exact c1 h0 (by rw [z]; exact p2 h0)
      have hoD := kb D _ hus nw
      rw [List.take_of_length_le hi] at hoD
      exact q D Ho sm hoD
end
end VL

set_option Elab.async false
set_option linter.all false
set_option pp.maxSteps 700
set_option maxRecDepth 100000
set_option maxHeartbeats 4000000
namespace VLW
open VL PySem PySem.Spec PyProof.Rows L2
theorem NdA.at {H : Hp} {v : V} {d : Dn} (h : NdA H v d) : ∃ a xs, v = .ref a ∧ H a = some (.tup (.str d.kind :: .int d.num :: xs)) := by
  cases h with
  | tx h => exact ⟨_, _, rfl, h⟩
  | el h _ _ _ => exact ⟨_, _, rfl, h⟩
theorem zW_upd {H0 : Hp} {a D : Addr} {ks : List Dn} {i : Nat} {σ : L2.St} {H H' : Hp} {us : List V} (h : zW H0 a ks (i + 1) σ H) (k : ∀ b o, H b = some o → b ≠ D → H' b = some o) (d0 : H0 D = none) (hD : H D = some (.lst us)) (ne : σ[2]? ≠ some (some (.ref D))) : zW H0 a ks (i + 1) σ H' := by
  obtain ⟨wl, ws, st, lv, d, v, y4, e, h1, h2, h3, h4, h5, h6⟩ := h
  have nw : wl ≠ D := fun z => ne (by rw [e, z]; rfl)
  exact ⟨wl, ws, st, lv, d, v, y4, e, fun b o e' => k _ _ (h1 _ _ e') fun z => by rw [z, d0] at e'; (cases e'), h2, k _ _ h3 nw, h4.keep fun b xs e' => k _ _ e' fun z => by rw [z, hD] at e'; (cases e'), h5, h6⟩
def ltS (a b : Str) : Bool := decide (a.cps.toList < b.cps.toList)
/-- each name greater than the one ahead -/
def ascB (l : List Str) : Bool := (l.zip (l.drop 1)).all fun p => ltS p.1 p.2
def DocA (H : Hp) (v : V) (ks : List Dn) : Prop := ∃ a xs, v = .ref a ∧ H a = some (.tup xs) ∧ NdAs H xs ks ∧ (itS 1 ks).length ≤ 1000
theorem DocA.same {H H' : Hp} {v : V} {ks : List Dn} (h : DocA H v ks) (s : Same H H') : DocA H' v ks := by
  obtain ⟨a, xs, e, h1, h2, h3⟩ := h
  exact ⟨a, xs, e, s _ _ h1, h2.same s, h3⟩
def spIds : Sp := fun vs H Q _ => ∃ (v : V) (ks : List Dn), vs = [v] ∧ DocA H v ks ∧ ∀ p H', Same H H' → H' p = some (.lst ((itS 1 ks).map fun x => V.int x.2.num)) → Q (.ref p) H'
section
variable {P : Program} {w : World} {K : PySem.W.Frag} {mg : Str → Option Value} {base : Heap} {C : Ad}
theorem sc_ids_of : FnScope ["document", "_", "node"] ["document"] (defScope s_ids_of) := ⟨rfl, rfl, rfl, by decide +kernel, rfl, by decide +kernel, by decide +kernel⟩
theorem ok_idsOf (T : Txt K w mg C) : Cal P w K mg base 6 "ids_of" spIds := by
  have Gwalk := ok_walk (P := P) (base := base) T
  refine cal_of T.d_ids_of sc_ids_of (fun vs H Q E h => ?_) (fun f cdv A outer s H vs Q E hr h => ?_)
  · obtain ⟨v, ks, rfl, _⟩ := h
    rfl
  · obtain ⟨v, ks, rfl, ⟨a, xs, rfl, ha, hn, hN⟩, q⟩ := h
    refine ⟨_, (pss_one (ps_ret (VG.pe_lcG (own_ := [("_", 1), ("node", 2)]) (g := gTup K 2 (gCons (gName 1) (gCons (gName 2) (gNil)))) (tt := tYes) sc_ids_of.nd hr.hd Gwalk hr (by decide) (by rfl) (pa_cons (pv 0) pa_nil) (blkOk_by (N := ["document", "_", "node"]) (sc := (defScope s_ids_of)) (by decide +kernel)) (fun _ _ _ _ _ => pg_tupS (K := K) rfl rfl (pgs_cons (pg_name (i := 1) sc_ids_of.nd rfl (Or.inl rfl)) (pgs_cons (pg_name (i := 2) sc_ids_of.nd rfl (Or.inl rfl)) pgs_nil))) (fun _ _ _ _ _ => pts_nil) (fun _ _ _ _ _ => (pe_ix (ix_tupS (K := K) rfl) (pv 2) pe_int (fun _ _ => rfl)))))), ?_⟩
    refine ⟨_, rfl, _, _, _, _, ⟨a, xs, ks, _, rfl, Same.refl _, ha, hn, hN, rfl, rfl, rfl, rfl⟩, fun L D hL hDn hDL => ?_⟩
    refine ⟨fun i σp H' => Same H (VG.drop L H') ∧ VG.drop L H' D = some (.lst (((itS 1 ks).take i).map fun x => V.int x.2.num)) ∧ (0 < i → σp[2]? ≠ some (some (.ref D))), fun Hf σp z => ?_, ?_, ?_⟩
    · have n0 : ∀ b ∈ L, upd H D (.lst []) b = none := fun b hb => by
        rw [upd_ne (fun z => hDL (by rw [← z]; exact hb))]
        exact hL b hb
      have ed := VG.drop_fz z n0
      exact ⟨by rw [ed]; exact Sm.new hDn, by rw [ed]; exact upd_same, fun h => absurd h (Nat.lt_irrefl _)⟩
    · rintro i σp H1 x Ho Hf σg ⟨s1, hus, c1⟩ fr ⟨hi, wl, t, u, lv, e, rfl, ht, hu, hid, kb, w0, g2, p2, i0, sm⟩ hz fz hn0
      have sf := fz_same fz hn0
      have nw : D ≠ wl := fun z => by
        rcases Nat.eq_zero_or_pos i with h0 | h0
        · rw [z, i0 h0] at hus
          cases hus
        · exact c1 h0 (by rw [z]; exact p2 h0)
      have hoD : Ho D = some (.lst (((itS 1 ks).take i).map fun x => V.int x.2.num)) := kb D _ hus nw
      obtain ⟨b, ys, rfl, hb⟩ := hu.at
      have hbf := sf _ _ (sm _ _ hb)
      have eT : ((itS 1 ks).take (i + 1)).map (fun x => V.int x.2.num) = ((itS 1 ks).take i).map (fun x => V.int x.2.num) ++ [V.int e.num] := by
        rw [List.take_add_one, hid, List.map_append]
        rfl
      refine ⟨t, [.int lv, .ref b], rfl, SqT.of (sf _ _ ht), rfl, _, _, rfl, _, _, rfl, rfl, rfl, ?_⟩
      refine ⟨_, rfl, b, _, _, _, rfl, rfl, SqT.of hbf, at_1, _, sf _ _ hoD, ?_, fun b' hb' => ?_, ?_, ?_⟩
      · rw [List.length_map, List.length_take]
        exact Nat.lt_of_le_of_lt (show min i _ ≤ 1000 by omega) (by decide)
      · rw [upd_ne (fun z => hDL (by rw [← z]; exact hb'))]
      · refine zW_upd hz (fun b' o e' ne => ?_) hDn hoD (fun z => ?_)
        · have nL : b' ∉ L := fun mm => by
            rw [hn0 b' mm] at e'
            cases e'
          rw [VG.drop_out nL, upd_ne ne]
          exact sf _ _ e'
        · rw [g2] at z
          cases z
          exact nw rfl
      · refine ⟨fun b' o e' => ?_, ?_, fun _ z => ?_⟩
        · have nL : b' ∉ L := fun mm => by
            rw [hL b' mm] at e'
            cases e'
          have nD : b' ≠ D := ne_of_none e' hDn
          rw [VG.drop_out nL, upd_ne nD]
          exact sf _ _ (sm _ _ e')
        · rw [VG.drop_out hDL, upd_same, eT]
        · rw [g2] at z
          cases z
          exact nw rfl
    · rintro i σp H1 Ho ⟨s1, hus, c1⟩ fr ⟨hi, wl, kb, w0, p2, i0, sm⟩ hn0
      have nw : D ≠ wl := fun z => by
        rcases Nat.eq_zero_or_pos i with h0 | h0
        · rw [z, i0 h0] at hus
          cases hus
        · exact c1 h0 (by rw [z]; exact p2 h0)
      have hoD := kb D _ hus nw
      rw [List.take_of_length_le hi] at hoD
      exact q D Ho sm hoD
end
end VLW

set_option Elab.async false
set_option linter.all false
set_option pp.maxSteps 700
set_option maxRecDepth 100000
set_option maxHeartbeats 4000000
namespace VL
open PySem PySem.Spec PyProof.Rows L2
theorem Sb.keepS {G H H' : Hp} {M : List (Addr × HO)} (S : Sb G H M) (s : Same H H') : Sb G H' M := ⟨Same.trans S.s s, fun p hp => ⟨(S.m p hp).1, s _ _ (S.m p hp).2⟩, S.nd⟩
theorem sq_same {K : PySem.W.Frag} {H H' : Hp} {a : Addr} {xs : List V} (h : SqT K H a xs) (s : Same H H') : SqT K H' a xs := by
  rcases h with (h | ⟨o, h⟩) | h
  · exact .inl (.inl (s _ _ h))
  · exact .inl (.inr ⟨o, s _ _ h⟩)
  · exact .inr h
theorem zW_upd2 {H0 : Hp} {a D : Addr} {ks : List Dn} {i : Nat} {σ : L2.St} {H H' : Hp} (h : zW H0 a ks (i + 1) σ H) (k : ∀ b o, H b = some o → b ≠ D → H' b = some o) (d0 : H0 D = none) (hD : ∀ xs, H D ≠ some (.tup xs)) (ne : ∀ wl, σ[2]? = some (some (.ref wl)) → wl ≠ D) : zW H0 a ks (i + 1) σ H' := by
  obtain ⟨wl, ws, st, lv, d, v, y4, e, h1, h2, h3, h4, h5, h6⟩ := h
  have nw : wl ≠ D := ne wl (by rw [e]; rfl)
  exact ⟨wl, ws, st, lv, d, v, y4, e, fun b o e' => k _ _ (h1 _ _ e') fun z => by rw [z, d0] at e'; (cases e'), h2, k _ _ h3 nw, h4.keep fun b xs e' => k _ _ e' fun z => hD xs (by rw [← z]; exact e'), h5, h6⟩
theorem Sb.dropL {G H : Hp} {M : List (Addr × HO)} {L : List Addr} (S : Sb G H M) (g : ∀ b ∈ L, G b = none) (m : ∀ p ∈ M, p.1 ∉ L) : Sb G (VG.drop L H) M :=
  ⟨fun b o e => by rw [VG.drop_out fun z => by rw [g b z] at e; (cases e)]; exact S.s _ _ e, fun p hp => ⟨(S.m p hp).1, by rw [VG.drop_out (m p hp)]; exact (S.m p hp).2⟩, S.nd⟩
theorem Sb.kb {G H H' : Hp} {M : List (Addr × HO)} {wl : Addr} (S : Sb G H M) (k : KeptBut wl H H') (g : G wl = none) (m : ∀ p ∈ M, p.1 ≠ wl) : Sb G H' M :=
  ⟨fun b o e => k b o (S.s _ _ e) fun z => by rw [z, g] at e; (cases e), fun p hp => ⟨(S.m p hp).1, k _ _ (S.m p hp).2 (m p hp)⟩, S.nd⟩
def namD : Dn → List Str
  | .tx _ _ => []
  | .el _ _ as _ => as.map (·.1)
end VL

set_option Elab.async false
set_option linter.all false
set_option pp.maxSteps 700
set_option maxRecDepth 100000
set_option maxHeartbeats 4000000
namespace VL
open PySem PySem.Spec PyProof.Rows L2
theorem map_int_atR {ns : List Int} {j : Int} (h0 : 0 ≤ j) (h1 : j < (ns.length : Int)) : ∃ z, atI (ns.map V.int) j = some (.int z) := by
  have hj : j.toNat < ns.length := by omega
  refine ⟨ns[j.toNat], ?_⟩
  unfold atI ixN
  rw [if_pos h0, if_pos (by rw [List.length_map]; exact h1)]
  show (ns.map V.int)[j.toNat]? = _
  rw [List.getElem?_map, List.getElem?_eq_getElem hj]
  rfl
/-! ### two cells beside each other -/
theorem log_ok {i : Int} (h0 : 0 ≤ i) (h1 : i < 10 ^ 30) : i.natAbs.log2 < 1920 := by
  have h2 : i.natAbs < 2 ^ 1920 := by
    have : i.natAbs < 10 ^ 30 := by omega
    exact Nat.lt_trans this (by decide)
  by_cases hz : i.natAbs = 0
  · rw [hz]; decide
  · exact (Nat.log2_lt hz).mpr h2
def spCell (K : PySem.W.Frag) : Sp := fun vs H Q _ => ∃ (a : Addr) (ns : List Int) (k : Nat), vs = [.ref a, .int (k : Int)] ∧ SqL K H a (ns.map V.int) ∧ ∀ c, Q (.int c) H
def spStart : Sp := fun vs H Q _ => ∃ c k : Int, vs = [.int c, .int k] ∧ ∀ p s, H p = none → Q (.ref p) (upd H p (.lst [.int s]))
def spDig : Sp := fun vs H Q _ => ∃ (sa : Addr) (s m : Int), vs = [.ref sa, .int m] ∧ H sa = some (.lst [.int s]) ∧ 0 < m ∧ m < 1000 ∧ ∀ z s', 0 ≤ z → z < m → Q (.int z) (upd H sa (.lst [.int s']))
def spWord : Sp := fun vs H Q _ => ∃ (sa : Addr) (s : Int) (G : Hp) (M : List (Addr × HO)), vs = [.ref sa] ∧ Sb G H ((sa, .lst [.int s]) :: M) ∧ ∀ x s' G' H', Sb G' H' ((sa, .lst [.int s']) :: M) → Same G G' → (reprText x).length ≤ 20 → Q (.str x) H'
def lNames : List Str := ["alt", "class", "id", "name"]
def spAtts : Sp := fun vs H Q _ => ∃ (sa : Addr) (s : Int) (G : Hp) (M : List (Addr × HO)), vs = [.ref sa] ∧ Sb G H ((sa, .lst [.int s]) :: M) ∧ ∀ va as s' G' H', Sb G' H' ((sa, .lst [.int s']) :: M) → Same G G' → AtA G' va as → (as.map (·.1)).Sublist lNames → (∀ p ∈ as, (reprText p.2).length ≤ 20) → Q va H'
section
variable {P : Program} {w : World} {K : PySem.W.Frag} {mg : Str → Option Value} {base : Heap} {C : Ad}
theorem sc__law_cell : FnScope ["script", "k"] ["script", "k"] (defScope s__law_cell) := ⟨rfl, rfl, rfl, by decide +kernel, rfl, by decide +kernel, by decide +kernel⟩
theorem ok_cell (T : Txt K w mg C) : Cal P w K mg base 1 "_law_cell" (spCell K) := by
  refine cal_of T.d__law_cell sc__law_cell (fun vs H Q E h => ?_) (fun f cdv A outer s H vs Q E hr h => ?_)
  · obtain ⟨a, ns, k, rfl, _⟩ := h
    rfl
  · obtain ⟨a, ns, k, rfl, ha, q⟩ := h
    refine ⟨_, (pss_cons (ps_if (pt_cmpR op_lt (pv 1) (pe_callB call_len_seq (by rfl) T.z_len PySem.boot_len (pa_cons (pv 0) pa_nil)) (nomark _)) (pss_one (ps_ret (pe_ix ix_list (pv 0) (pv 1) (fun _ _ => rfl)))) pss_nil) (pss_one (ps_ret pe_int))), ?_⟩
    refine ⟨_, rfl, _, rfl, a, _, rfl, .inl ha, _, _, rfl, rfl, _, rfl, ite2 (fun c => ?_) (fun c => ?_)⟩
    · have := of_decide_eq_true c
      rw [List.length_map] at this
      obtain ⟨z, hz⟩ := map_int_atR (ns := ns) (j := (k : Int)) (by omega) (by omega)
      exact ⟨_, rfl, _, rfl, a, _, _, _, rfl, rfl, ha, hz, q z⟩
    · exact q 0
theorem sc__law_start : FnScope ["cell", "k", "prime", "mixed"] ["cell", "k"] (defScope s__law_start) := ⟨rfl, rfl, rfl, by decide +kernel, rfl, by decide +kernel, by decide +kernel⟩
theorem ok_start (T : Txt K w mg C) : Cal P w K mg base 1 "_law_start" spStart := by
  refine cal_of T.d__law_start sc__law_start (fun vs H Q E h => ?_) (fun f cdv A outer s H vs Q E hr h => ?_)
  · obtain ⟨c, k, rfl, _⟩ := h
    rfl
  · obtain ⟨c, k, rfl, q⟩ := h
    refine ⟨_, (pss_cons (ps_set (i := 2) sc__law_start.nd rfl (Or.inl rfl) pe_int) (pss_cons (ps_if (pt_chain op_lt op_lt (pe_un un_neg pe_int) (pv 0) pe_int) (pss_cons (ps_set (i := 3) sc__law_start.nd rfl (Or.inl rfl) (pe_op op_mod (pe_callTy call_int1 (by rfl) T.z_int (by decide +kernel) (pa_cons (pe_op op_add (pe_op op_mul (pv 0) pe_int) (pe_op op_mul (pe_op op_add (pv 1) pe_int) pe_int)) pa_nil)) (pv 2))) (pss_one (ps_ret (pe_lst (pa_cons (pe_op op_mod (pe_callTy call_int1 (by rfl) T.z_int (by decide +kernel) (pa_cons (pe_op op_add (pe_op op_add (pe_op op_mulW (pv 3) (pv 3)) (pe_op op_mul pe_int (pv 3))) (pv 1)) pa_nil)) (pv 2)) pa_nil))))) pss_nil) (pss_one (ps_ret (pe_lst (pa_cons (pe_callB call_abs (by rfl) T.z_abs (by decide +kernel) (pa_cons (pv 0) pa_nil)) pa_nil)))))), ?_⟩
    have p0 : (0 : Int) < 618970019642690137449562111 := by decide
    have small : ∀ σ : L2.St, σ[0]? = some (some (V.int c)) → tRet (tLst (tCons (tCB (fun xs H Q => ∃ i, xs = [V.int i] ∧ Q (V.int (if i < 0 then -i else i)) H) (tCons (tVar 0) tNil)) tNil)) { nx := fun _ H' => Q V.non H', rt := Q } σ H := fun σ e => ⟨_, e, _, rfl, by show 1 ≤ sizeLine; decide, fun p hp => q p _ hp⟩
    refine ⟨_, rfl, _, rfl, _, _, rfl, rfl, _, rfl, ite2 (fun c1 => ⟨_, _, rfl, rfl, _, rfl, ite2 (fun c2 => ?_) (fun c2 => small _ rfl)⟩) (fun c1 => ⟨_, rfl, iteF (small _ rfl)⟩)⟩
    refine ⟨_, rfl, _, _, rfl, rfl, .inr ⟨by decide, by decide⟩, _, rfl, _, _, rfl, rfl, _, _, rfl, rfl, .inr ⟨by decide, by decide⟩, _, _, rfl, rfl, .inl ⟨_, rfl, _, rfl, _, _, rfl, rfl, p0, ?_⟩⟩
    have x0 : 0 ≤ (c * 2654435761 + (k + 1) * 6700417) % 618970019642690137449562111 := Int.emod_nonneg _ (by decide)
    have x1 : (c * 2654435761 + (k + 1) * 6700417) % 618970019642690137449562111 < 618970019642690137449562111 := Int.emod_lt_of_pos _ (by decide)
    show gName 3 (V.int ((c * 2654435761 + (k + 1) * 6700417) % 618970019642690137449562111)) _ _ _
    generalize (c * 2654435761 + (k + 1) * 6700417) % 618970019642690137449562111 = mx at x0 x1 ⊢
    have lg := log_ok x0 (show mx < 10 ^ 30 by omega)
    exact ⟨_, rfl, _, rfl, _, _, rfl, rfl, (by show mx.natAbs.log2 + mx.natAbs.log2 < 1000000; omega), _, rfl, _, _, rfl, rfl, .inl ⟨by decide, by decide⟩, _, _, rfl, rfl, _, rfl, _, _, rfl, rfl, .inl ⟨_, rfl, _, rfl, _, _, rfl, rfl, p0, by show 1 ≤ sizeLine; decide, fun p hp => q p _ hp⟩⟩
theorem sc__law_digit : FnScope ["state", "many", "digit"] ["state", "many"] (defScope s__law_digit) := ⟨rfl, rfl, rfl, by decide +kernel, rfl, by decide +kernel, by decide +kernel⟩
theorem ok_dig (T : Txt K w mg C) : Cal P w K mg base 1 "_law_digit" spDig := by
  refine cal_of T.d__law_digit sc__law_digit (fun vs H Q E h => ?_) (fun f cdv A outer s H vs Q E hr h => ?_)
  · obtain ⟨sa, s, m, rfl, _⟩ := h
    rfl
  · obtain ⟨sa, s0, m, rfl, hs, m0, m1, q⟩ := h
    refine ⟨_, (pss_cons (ps_set (i := 2) sc__law_digit.nd rfl (Or.inl rfl) (pe_op op_mod (pe_callTy call_int1 (by rfl) T.z_int (by decide +kernel) (pa_cons (pe_ix ix_list (pv 0) pe_int (fun _ _ => rfl)) pa_nil)) (pv 1))) (pss_cons (ps_asg (pe_op op_fdiv (pe_ix ix_list (pv 0) pe_int (fun _ _ => rfl)) (pv 1)) (pg_sub (pv 0) pe_int set_list)) (pss_one (ps_ret (pv 2))))), ?_⟩
    refine ⟨_, rfl, sa, _, _, _, rfl, rfl, SqL.of hs, rfl, .inl ⟨_, rfl, _, rfl, _, _, rfl, rfl, m0, ?_⟩⟩
    refine ⟨_, rfl, sa, _, _, _, rfl, rfl, SqL.of hs, rfl, _, rfl, _, _, rfl, rfl, ⟨m0, by omega⟩, ?_⟩
    refine ⟨_, rfl, sa, _, _, 0, rfl, rfl, hs, rfl, ?_⟩
    exact ⟨_, rfl, q _ _ (Int.emod_nonneg _ (by omega)) (Int.emod_lt_of_pos _ m0)⟩
end
end VL

set_option Elab.async false
set_option linter.all false
set_option pp.maxSteps 700
set_option maxRecDepth 100000
set_option maxHeartbeats 4000000
namespace VL
open PySem PySem.Spec PyProof.Rows L2
theorem atI_mem {α : Type} {xs : List α} {k : Int} (h0 : 0 ≤ k) (h1 : k < xs.length) : ∃ x, atI xs k = some x ∧ x ∈ xs := by
  obtain ⟨m, rfl⟩ := Int.eq_ofNat_of_zero_le h0
  refine ⟨xs[m]'(by omega), ?_, List.getElem_mem _⟩
  unfold atI ixN
  rw [if_pos h0, if_pos h1]
  show xs[(m : Int).toNat]? = _
  rw [Int.toNat_natCast, List.getElem?_eq_getElem]
section
variable {P : Program} {w : World} {K : PySem.W.Frag} {mg : Str → Option Value} {base : Heap} {C : Ad}
theorem sc__law_word : FnScope ["state"] ["state"] (defScope s__law_word) := ⟨rfl, rfl, rfl, by decide +kernel, rfl, by decide +kernel, by decide +kernel⟩
theorem ok_word (T : Txt K w mg C) : Cal P w K mg base 2 "_law_word" spWord := by
  have G_law_digit := ok_dig (P := P) (base := base) T
  refine cal_of T.d__law_word sc__law_word (fun vs H Q E h => ?_) (fun f cdv A outer s H vs Q E hr h => ?_)
  · obtain ⟨sa, s, G, M, rfl, _⟩ := h
    rfl
  · obtain ⟨sa, s0, G, M, rfl, S, q⟩ := h
    refine ⟨_, (pss_one (ps_ret (pe_ix ix_tup (pe_tup (pa_cons pe_str (pa_cons pe_str (pa_cons pe_str (pa_cons pe_str pa_nil))))) (pe_c G_law_digit hr (by decide) (by rfl) (pa_cons (pv 0) (pa_cons pe_int pa_nil))) (fun _ _ => rfl)))), ?_⟩
    refine ⟨by show 4 ≤ sizeLine; decide, fun t ht => ?_⟩
    have S1 := S.alloc (o := .tup [V.str "", .str "a", .str "b", .str "ab"]) ht
    have g1 := S.grow (o := .tup [V.str "", .str "a", .str "b", .str "ab"]) ht
    refine ⟨_, rfl, sa, s0, 4, rfl, S1.hd, by decide, by decide, fun z s' z0 z1 => ?_⟩
    have S2 := S1.put (u := .lst [.int s'])
    obtain ⟨c, hc, hm⟩ := atI_mem (xs := [V.str "", .str "a", .str "b", .str "ab"]) z0 z1
    have ht2 := S2.s t (.tup [V.str "", .str "a", .str "b", .str "ab"]) upd_same
    have hc' : ∃ x : Str, c = V.str x ∧ (reprText x).length ≤ 20 := by
      simp only [List.mem_cons, List.not_mem_nil, or_false] at hm
      rcases hm with rfl | rfl | rfl | rfl <;> exact ⟨_, rfl, by decide +kernel⟩
    obtain ⟨x, rfl, xl⟩ := hc'
    exact ⟨t, _, _, _, rfl, rfl, SqT.of ht2, hc, q x s' _ _ S2 g1 xl⟩
theorem sc__law_attributes : FnScope ["state", "pairs", "name"] ["state"] (defScope s__law_attributes) := ⟨rfl, rfl, rfl, by decide +kernel, rfl, by decide +kernel, by decide +kernel⟩
theorem ok_atts (T : Txt K w mg C) : Cal P w K mg base 3 "_law_attributes" spAtts := by
  have G_law_digit := ok_dig (P := P) (base := base) T
  have G_law_word := ok_word (P := P) (base := base) T
  refine cal_of T.d__law_attributes sc__law_attributes (fun vs H Q E h => ?_) (fun f cdv A outer s H vs Q E hr h => ?_)
  · obtain ⟨sa, s, G, M, rfl, _⟩ := h
    rfl
  · obtain ⟨sa, s0, G, M, rfl, S, q⟩ := h
    refine ⟨_, (pss_cons (ps_set (i := 1) sc__law_attributes.nd rfl (Or.inl rfl) (pe_lst pa_nil)) (pss_cons (ps_for PassesOwn.never rfl (pi_tup (pe_tup (pa_cons pe_str (pa_cons pe_str (pa_cons pe_str (pa_cons pe_str pa_nil)))))) (pg_name (i := 2) sc__law_attributes.nd rfl (Or.inl rfl)) (pss_one (ps_if (pt_cmpR op_eq (pe_c G_law_digit hr (by decide) (by rfl) (pa_cons (pv 0) (pa_cons pe_int pa_nil))) pe_int (nomark _)) (pss_one (ps_expr (pe_bm PySem.F.plainAttrs_list PySem.F.slot_list_append PySem.F.type_list_append mt_append (pv 1) (pa_cons (pe_tup (pa_cons (pv 2) (pa_cons (pe_c G_law_word hr (by decide) (by rfl) (pa_cons (pv 0) pa_nil)) pa_nil))) pa_nil)))) pss_nil))) (pss_one (ps_ret (pe_callTy call_tupleF (by rfl) T.z_tuple (by decide +kernel) (pa_cons (pv 1) pa_nil)))))), ?_⟩
    refine ⟨by show 0 ≤ sizeLine; decide, fun p hp => ?_⟩
    have S1 := S.add (o := .lst []) hp
    refine ⟨by show 4 ≤ sizeLine; decide, fun t ht => ?_⟩
    have S2 := S1.alloc (o := .tup (lNames.map V.str)) ht
    have g2 := S1.grow (o := .tup (lNames.map V.str)) ht
    have ht2 : upd G t (.tup (lNames.map V.str)) t = some (.tup (lNames.map V.str)) := upd_same
    generalize upd G t (.tup (lNames.map V.str)) = G2 at S2 g2 ht2
    refine ⟨t, rfl, ⟨_, SqT.of upd_same⟩, ?_⟩
    refine for_it (walk_tup (K := K) (a := t) (xs := lNames.map V.str)) (fun j σ H' => ∃ (s' : Int) (G' : Hp) (ps : List Addr) (as : List (Str × Str)) (y2 : Option V), Sb G' H' ((p, .lst (ps.map V.ref)) :: (sa, .lst [.int s']) :: M) ∧ Same G2 G' ∧ Paired (fun b (x : Str × Str) => G' b = some (.tup [.str x.1, .str x.2])) ps as ∧ (as.map (·.1)).Sublist (lNames.take j) ∧ (∀ p ∈ as, (reprText p.2).length ≤ 20) ∧
      σ = [some (.ref sa), some (.ref p), y2]) ⟨s0, G2, [], [], _, S2, Same.refl _, .nil, List.Sublist.refl _, (fun _ h => nomatch h), rfl⟩ (fun j σ H' _ z => by obtain ⟨_, _, _, _, _, S', g', _⟩ := z; exact SqT.of (S'.s _ _ (g' _ _ ht2))) ?_ ?_
    · rintro j x σ H3 H4 hj ⟨s', G', ps, as, y2, S3, g3, hps, sub, avl, rfl⟩ ⟨rfl, hx⟩
      rw [List.getElem?_map] at hx
      obtain ⟨nm, hnm, rfl⟩ := Option.map_eq_some_iff.mp hx
      have tk : lNames.take (j + 1) = lNames.take j ++ [nm] := by rw [List.take_add_one, hnm]; rfl
      have j4 : j < 4 := by have h : j < (lNames.map V.str).length := hj; exact h
      refine ⟨_, rfl, sa, s', 3, rfl, S3.hd2, by decide, by decide, fun z s2 z0 z1 => ?_⟩
      have S4 := S3.put2 (u := .lst [.int s2])
      refine ⟨rfl, _, rfl, ite2 (fun c => ?_) (fun c => ?_)⟩
      · refine ⟨_, rfl, .inl ⟨rfl, _, SqL.of S4.hd⟩, _, rfl, ?_⟩
        refine ⟨_, rfl, sa, s2, G', (p, .lst (ps.map V.ref)) :: M, rfl, S4.swap, fun w s3 G5 H5 S5 g5 wl => ⟨by show 2 ≤ sizeLine; decide, fun b hb => ?_⟩⟩
        have S6 := S5.swap.alloc (o := .tup [.str nm, .str w]) hb
        have g6 := S5.swap.grow (o := .tup [.str nm, .str w]) hb
        have pl := Paired.length hps
        have al := sub.length_le
        refine ⟨p, _, _, rfl, rfl, S6.hd, ?_, s3, _, ps ++ [b], as ++ [(nm, w)], _, ?_, Same.trans g3 (Same.trans g5 g6), ?_, ?_, ?_, rfl⟩
        · rw [List.length_map] at al ⊢
          rw [List.length_take] at al
          exact Nat.lt_of_le_of_lt (show ps.length ≤ 4 by omega) (by decide)
        · have := S6.put (u := .lst ((ps ++ [b]).map V.ref))
          simpa using this
        · exact Paired.snoc (Paired.mono (fun _ _ h => g6 _ _ (g5 _ _ h)) hps) upd_same
        · rw [tk, List.map_append]
          exact sub.append (List.Sublist.refl _)
        · intro e he
          rcases List.mem_append.mp he with he | he
          · exact avl e he
          · rw [List.mem_singleton.mp he]
            exact wl
      · refine ⟨s2, G', ps, as, _, S4, g3, hps, ?_, avl, rfl⟩
        rw [tk]
        exact sub.trans (List.sublist_append_left _ _)
    · rintro σ H3 ⟨s', G', ps, as, y2, S3, g3, hps, sub, avl, rfl⟩
      refine ⟨_, rfl, p, _, rfl, SqL.of S3.hd, fun l o hl ho => ?_⟩
      obtain ⟨S4, g4⟩ := S3.drop
      have S5 := S4.alloc (o := .frz o (.tup (ps.map V.ref))) hl
      have g5 := S4.grow (o := .frz o (.tup (ps.map V.ref))) hl
      exact q _ as s' _ _ S5 (Same.trans g2 (Same.trans g3 (Same.trans g4 g5))) ⟨l, o, ps, rfl, upd_same, ho, Paired.mono (fun _ _ h => g5 _ _ (g4 _ _ h)) hps⟩ (by simpa using sub) avl
end
end VL

set_option Elab.async false
set_option linter.all false
set_option pp.maxSteps 700
set_option maxRecDepth 100000
set_option maxHeartbeats 4000000
namespace VL
open PySem PySem.Spec PyProof.Rows L2
theorem cut_take {xs : List V} {k : Nat} : cutV xs none (some (k : Int)) = xs.take k := by
  have e1 : HT.sIx xs.length 0 none = 0 := rfl
  have e2 : HT.sIx xs.length xs.length (some (k : Int)) = min k xs.length := HT.sIx_nat _ _ _
  unfold cutV
  rw [e1, e2, List.drop_zero, Nat.sub_zero]
  by_cases h : k ≤ xs.length
  · rw [Nat.min_eq_left h]
  · rw [Nat.min_eq_right (by omega), List.take_of_length_le (Nat.le_refl _), List.take_of_length_le (by omega)]
theorem Sb.eqo {G H : Hp} {M : List (Addr × HO)} {t : Addr} {o o' : HO} (S : Sb G H ((t, o) :: M)) (h : o = o') : Sb G H ((t, o') :: M) := h ▸ S
def spPool : Sp := fun vs H Q _ => ∃ (sa : Addr) (s : Int) (m : Nat) (G : Hp) (M : List (Addr × HO)), vs = [.ref sa, .int (m : Int)] ∧ m ≤ 100 ∧ Sb G H ((sa, .lst [.int s]) :: M) ∧
  ∀ (pa : Addr) (pool : List Int) (s' : Int) (G' H' : Hp), Sb G' H' ((pa, .lst (pool.map V.int)) :: (sa, .lst [.int s']) :: M) → Same G G' → pool.length = m → pool.Nodup → (∀ x ∈ pool, 1 ≤ x ∧ x ≤ (m : Int)) → Q (.ref pa) H'
theorem nd_put {pool : List Int} {k : Nat} {x : Int} (h : pool.Nodup) (hx : x ∉ pool) : (pool.take k ++ [x] ++ pool.drop k).Nodup := by
  have p1 : (pool.take k ++ [x] ++ pool.drop k).Perm (x :: pool) := by
    have : (pool.take k ++ ([x] ++ pool.drop k)).Perm (x :: (pool.take k ++ pool.drop k)) := List.perm_middle
    rw [List.take_append_drop] at this
    rw [List.append_assoc]
    exact this
  exact p1.nodup_iff.mpr (List.nodup_cons.mpr ⟨hx, h⟩)
section
variable {P : Program} {w : World} {K : PySem.W.Frag} {mg : Str → Option Value} {base : Heap} {C : Ad}
theorem sc__law_pool : FnScope ["state", "many", "pool", "k", "place"] ["state", "many"] (defScope s__law_pool) := ⟨rfl, rfl, rfl, by decide +kernel, rfl, by decide +kernel, by decide +kernel⟩
theorem ok_pool (T : Txt K w mg C) : Cal P w K mg base 2 "_law_pool" spPool := by
  have G_law_digit := ok_dig (P := P) (base := base) T
  refine cal_of T.d__law_pool sc__law_pool (fun vs H Q E h => ?_) (fun f cdv A outer s H vs Q E hr h => ?_)
  · obtain ⟨sa, s, m, G, M, rfl, _⟩ := h
    rfl
  · obtain ⟨sa, s0, m, G, M, rfl, m100, S, q⟩ := h
    have big : 100000 < sizeLine := by decide
    refine ⟨_, (pss_cons (ps_set (i := 2) sc__law_pool.nd rfl (Or.inl rfl) (pe_lst pa_nil)) (pss_cons (ps_for PassesOwn.never rfl (pi_range1 (by rfl) T.z_range (pa_cons (pv 1) pa_nil)) (pg_name (i := 3) sc__law_pool.nd rfl (Or.inl rfl)) (pss_cons (ps_set (i := 4) sc__law_pool.nd rfl (Or.inl rfl) (pe_c G_law_digit hr (by decide) (by rfl) (pa_cons (pv 0) (pa_cons (pe_op op_add (pe_callB call_len_seq (by rfl) T.z_len PySem.boot_len (pa_cons (pv 2) pa_nil)) pe_int) pa_nil)))) (pss_one (ps_set (i := 2) sc__law_pool.nd rfl (Or.inl rfl) (pe_op op_cat (pe_op op_cat (pe_slice sl_list (pv 2) po_none (po_some (pv 4))) (pe_lst (pa_cons (pe_op op_add (pv 3) pe_int) pa_nil))) (pe_slice sl_list (pv 2) (po_some (pv 4)) po_none)))))) (pss_one (ps_ret (pv 2))))), ?_⟩
    refine ⟨by show 0 ≤ sizeLine; decide, fun p hp => ?_⟩
    have S1 := S.add (o := .lst []) hp
    refine ⟨_, rfl, _, rfl, by omega, by omega, ?_⟩
    refine for_range (lo := 0) (n := (m : Int).toNat) (fun j σ H' => ∃ (pa : Addr) (pool : List Int) (s' : Int) (G' : Hp) (y3 y4 : Option V), Sb G' H' ((pa, .lst (pool.map V.int)) :: (sa, .lst [.int s']) :: M) ∧ Same G G' ∧ pool.length = j ∧ pool.Nodup ∧ (∀ x ∈ pool, 1 ≤ x ∧ x ≤ (j : Int)) ∧
      σ = [some (.ref sa), some (.int (m : Int)), some (.ref pa), y3, y4]) ⟨p, [], s0, G, _, _, S1, Same.refl _, rfl, List.nodup_nil, (fun _ h => nomatch h), rfl⟩ ?_ ?_
    · rintro j σ H3 hj ⟨pa, pool, s', G', y3, y4, S3, g3, pl, pn, pb, rfl⟩
      have hj' : j < m := by omega
      refine ⟨_, rfl, _, rfl, pa, _, rfl, .inl (SqL.of S3.hd), _, _, rfl, rfl, sa, s', ((pool.map V.int).length : Int) + 1, rfl, S3.hd2, by omega, by rw [List.length_map]; omega, fun z s2 z0 z1 => ?_⟩
      obtain ⟨k, rfl⟩ := Int.eq_ofNat_of_zero_le z0
      have S4 := S3.put2 (u := .lst [.int s2])
      refine ⟨_, rfl, _, rfl, _, rfl, pa, _, rfl, SqL.of S4.hd, fun q1 hq1 => ?_⟩
      rw [show cutV (pool.map V.int) none (some ((k : Nat) : Int)) = (pool.take k).map V.int by rw [cut_take, List.map_take]]
      have S5 := S4.alloc (o := .lst ((pool.take k).map V.int)) hq1
      have g5 := S4.grow (o := .lst ((pool.take k).map V.int)) hq1
      have hq1' : upd G' q1 (.lst ((pool.take k).map V.int)) q1 = some (.lst ((pool.take k).map V.int)) := upd_same
      generalize upd G' q1 (.lst ((pool.take k).map V.int)) = G5 at S5 g5 hq1'
      refine ⟨_, rfl, _, _, rfl, rfl, by show 1 ≤ sizeLine; decide, fun q2 hq2 => ?_⟩
      have S6 := S5.alloc (o := .lst [.int (0 + (j : Int) + 1)]) hq2
      have g6 := S5.grow (o := .lst [.int (0 + (j : Int) + 1)]) hq2
      have hq2' : upd G5 q2 (.lst [.int (0 + (j : Int) + 1)]) q2 = some (.lst [.int (0 + (j : Int) + 1)]) := upd_same
      generalize upd G5 q2 (.lst [.int (0 + (j : Int) + 1)]) = G6 at S6 g6 hq2'
      refine ⟨q1, q2, _, _, rfl, rfl, S6.s _ _ (g6 _ _ hq1'), S6.s _ _ hq2', ?_, fun q3 hq3 => ?_⟩
      · rw [List.length_map, List.length_take]
        exact Nat.le_trans (show min k pool.length + 1 ≤ 1000 by omega) (by decide)
      have S7 := S6.alloc (o := .lst ((pool.take k).map V.int ++ [.int (0 + (j : Int) + 1)])) hq3
      have g7 := S6.grow (o := .lst ((pool.take k).map V.int ++ [.int (0 + (j : Int) + 1)])) hq3
      have hq3' : upd G6 q3 (.lst ((pool.take k).map V.int ++ [.int (0 + (j : Int) + 1)])) q3 = some (.lst ((pool.take k).map V.int ++ [.int (0 + (j : Int) + 1)])) := upd_same
      generalize upd G6 q3 (.lst ((pool.take k).map V.int ++ [.int (0 + (j : Int) + 1)])) = G7 at S7 g7 hq3'
      refine ⟨_, rfl, _, rfl, _, rfl, pa, _, rfl, SqL.of S7.hd, fun q4 hq4 => ?_⟩
      rw [show cutV (pool.map V.int) (some ((k : Nat) : Int)) none = (pool.drop k).map V.int by rw [cut_drop', List.map_drop]]
      have S8 := S7.alloc (o := .lst ((pool.drop k).map V.int)) hq4
      have g8 := S7.grow (o := .lst ((pool.drop k).map V.int)) hq4
      have hq4' : upd G7 q4 (.lst ((pool.drop k).map V.int)) q4 = some (.lst ((pool.drop k).map V.int)) := upd_same
      generalize upd G7 q4 (.lst ((pool.drop k).map V.int)) = G8 at S8 g8 hq4'
      refine ⟨q3, q4, _, _, rfl, rfl, S8.s _ _ (g8 _ _ hq3'), S8.s _ _ hq4', ?_, fun q5 hq5 => ?_⟩
      · rw [List.length_append, List.length_map, List.length_map, List.length_take, List.length_drop]
        exact Nat.le_trans (show min k pool.length + 1 + (pool.length - k) ≤ 1000 by omega) (by decide)
      have S9 := S8.add (o := .lst ((pool.take k).map V.int ++ [.int (0 + (j : Int) + 1)] ++ (pool.drop k).map V.int)) hq5
      obtain ⟨S10, g10⟩ := S9.swap.drop
      have e : (pool.take k).map V.int ++ [.int (0 + (j : Int) + 1)] ++ (pool.drop k).map V.int = (pool.take k ++ [0 + (j : Int) + 1] ++ pool.drop k).map V.int := by simp
      refine ⟨q5, pool.take k ++ [0 + (j : Int) + 1] ++ pool.drop k, s2, _, _, _, S10.eqo (congrArg HO.lst e), Same.trans g3 (Same.trans g5 (Same.trans g6 (Same.trans g7 (Same.trans g8 g10)))), ?_, nd_put pn (fun h => ?_), fun x hx => ?_, rfl⟩
      · rw [List.length_append, List.length_append, List.length_take, List.length_drop]
        show min k pool.length + 1 + (pool.length - k) = j + 1
        omega
      · have := pb _ h
        omega
      · rcases List.mem_append.mp hx with hx | hx
        · rcases List.mem_append.mp hx with hx | hx
          · have := pb x (List.mem_of_mem_take hx)
            omega
          · rw [List.mem_singleton.mp hx]
            omega
        · have := pb x (List.mem_of_mem_drop hx)
          omega
    · rintro σ H3 ⟨pa, pool, s', G', y3, y4, S3, g3, pl, pn, pb, rfl⟩
      refine ⟨_, rfl, q pa pool s' G' H3 S3 g3 (by omega) pn (fun x hx => by have := pb x hx; omega)⟩
end
end VL

set_option Elab.async false
set_option linter.all false
set_option pp.maxSteps 700
set_option maxRecDepth 100000
set_option maxHeartbeats 4000000
namespace VL
open PySem PySem.Spec PyProof.Rows L2
theorem Sb.perm {G H : Hp} {M M' : List (Addr × HO)} (S : Sb G H M) (h : M.Perm M') : Sb G H M' := ⟨S.s, fun p hp => S.m p (h.mem_iff.mpr hp), (h.map _).nodup_iff.mp S.nd⟩
theorem Sb.put3 {G H : Hp} {M : List (Addr × HO)} {p q : Addr × HO} {t : Addr} {o u : HO} (S : Sb G H (p :: q :: (t, o) :: M)) : Sb G (upd H t u) (p :: q :: (t, u) :: M) := ((S.perm (List.perm_middle (l₁ := [p, q]))).put (u := u)).perm (List.perm_middle (l₁ := [p, q])).symm
theorem Sb.hd3 {G H : Hp} {M : List (Addr × HO)} {p q r : Addr × HO} (S : Sb G H (p :: q :: r :: M)) : H r.1 = some r.2 := (S.m r (by simp)).2
/-- the third to the front -/
theorem Sb.rot3 {G H : Hp} {M : List (Addr × HO)} {p q r : Addr × HO} (S : Sb G H (p :: q :: r :: M)) : Sb G H (r :: p :: q :: M) := S.perm (List.perm_middle (l₁ := [p, q]))
/-- the first to the third place -/
theorem Sb.tor3 {G H : Hp} {M : List (Addr × HO)} {p q r : Addr × HO} (S : Sb G H (r :: p :: q :: M)) : Sb G H (p :: q :: r :: M) := S.perm (List.perm_middle (l₁ := [p, q])).symm
/-- names in their order -/
def OwnSh : Dn → Prop
  | .tx _ x => (reprText x).length ≤ 20
  | .el _ t as _ => (reprText t).length ≤ 20 ∧ ∀ p ∈ as, (reprText p.2).length ≤ 20
def NamOk (d : Dn) : Prop := (namD d).Sublist lNames ∧ OwnSh d
def spFalse : Sp := fun _ _ _ _ => False
def spLNode (N : Nat) : Sp := fun vs H Q _ => ∃ (n : Nat) (sa pa : Addr) (s : Int) (pool : List Int) (G : Hp) (M : List (Addr × HO)), vs = [.ref sa, .int (n : Int), .ref pa] ∧ n ≤ N ∧ pool ≠ [] ∧ pool.length ≤ 100 ∧ Sb G H ((pa, .lst (pool.map V.int)) :: (sa, .lst [.int s]) :: M) ∧
  ∀ (v : V) (d : Dn) (pool' : List Int) (s' : Int) (G' H' : Hp), Sb G' H' ((pa, .lst (pool'.map V.int)) :: (sa, .lst [.int s']) :: M) → Same G G' → NdA G' v d → AllD NamOk d → dN d ≤ n → pool = pool' ++ (numN d).reverse → Q v H'
def spLDoc : Sp := fun vs H Q _ => ∃ (sa : Addr) (s : Int) (m l : Nat) (G : Hp) (M : List (Addr × HO)), vs = [.ref sa, .int (m : Int), .int (l : Int)] ∧ m ≤ 100 ∧ l ≤ 5 ∧ Sb G H ((sa, .lst [.int s]) :: M) ∧
  ∀ (p : Addr) (xs : List V) (ks : List Dn) (s' : Int) (G' H' : Hp), Sb G' H' ((sa, .lst [.int s']) :: M) → Same G G' → G' p = some (.tup xs) → NdAs G' xs ks → AllS NamOk ks → dS ks ≤ l → (numS ks).Nodup → (∀ x ∈ numS ks, 1 ≤ x ∧ x ≤ (m : Int)) → (numS ks).length ≤ m → Q (.ref p) H'
section
variable {P : Program} {w : World} {K : PySem.W.Frag} {mg : Str → Option Value} {base : Heap} {C : Ad}
theorem sc__law_node : FnScope ["state", "levels", "pool", "number", "kids", "k"] ["state", "levels", "pool"] (defScope s__law_node) := ⟨rfl, rfl, rfl, by decide +kernel, rfl, by decide +kernel, by decide +kernel⟩
theorem ln_0 (T : Txt K w mg C) {k : Nat} : Cal P w K mg base (k + 1) "_law_node" spFalse := cal_of T.d__law_node sc__law_node (fun vs H Q E h => h.elim) (fun f cdv A outer s H vs Q E hr h => h.elim)
theorem ln_S (T : Txt K w mg C) {N : Nat} {sp : Sp} (hsp : ∀ m, m + 1 = N → sp = spLNode m) (G_law_node : Cal P w K mg base (N + 3) "_law_node" sp) : Cal P w K mg base (N + 4) "_law_node" (spLNode N) := by
  have G_law_digit := ok_dig (P := P) (base := base) T
  have G_law_word := ok_word (P := P) (base := base) T
  have G_law_attributes := ok_atts (P := P) (base := base) T
  refine cal_of T.d__law_node sc__law_node (fun vs H Q E h => ?_) (fun f cdv A outer s H vs Q E hr h => ?_)
  · obtain ⟨n, sa, pa, s, pool, G, M, rfl, _⟩ := h
    rfl
  · obtain ⟨n, sa, pa, s0, pool, G, M, rfl, nN, pne, pl, S, q⟩ := h
    have big : 100000 < sizeLine := by decide
    refine ⟨_, (pss_cons (ps_set (i := 3) sc__law_node.nd rfl (Or.inl rfl) (pe_bm0 PySem.F.plainAttrs_list PySem.F.slot_list_pop PySem.F.type_list_pop mt_pop (pv 2))) (pss_cons (ps_if (PW.pt (pw_or (pt_cmpR op_eq (pv 1) pe_int (nomark _)) (pw_or1 (pt_cmpR op_eq (pe_c G_law_digit hr (by omega) (by rfl) (pa_cons (pv 0) (pa_cons pe_int pa_nil))) pe_int (nomark _))))) (pss_one (ps_ret (pe_tup (pa_cons pe_str (pa_cons (pv 3) (pa_cons (pe_c G_law_word hr (by omega) (by rfl) (pa_cons (pv 0) pa_nil)) pa_nil)))))) pss_nil) (pss_cons (ps_set (i := 4) sc__law_node.nd rfl (Or.inl rfl) (pe_lst pa_nil)) (pss_cons (ps_for PassesOwn.never rfl (pi_range1 (by rfl) T.z_range (pa_cons (pe_ix ix_tup (pe_tup (pa_cons pe_int (pa_cons pe_int (pa_cons pe_int (pa_cons pe_int (pa_cons pe_int (pa_cons pe_int pa_nil))))))) (pe_c G_law_digit hr (by omega) (by rfl) (pa_cons (pv 0) (pa_cons pe_int pa_nil))) (fun _ _ => rfl)) pa_nil)) (pg_name (i := 5) sc__law_node.nd rfl (Or.inl rfl)) (pss_one (ps_if (pt_cmpR op_gt (pe_callB call_len_seq (by rfl) T.z_len PySem.boot_len (pa_cons (pv 2) pa_nil)) pe_int (nomark _)) (pss_one (ps_expr (pe_bm PySem.F.plainAttrs_list PySem.F.slot_list_append PySem.F.type_list_append mt_append (pv 4) (pa_cons (pe_c G_law_node hr (by omega) (by rfl) (pa_cons (pv 0) (pa_cons (pe_op op_sub (pv 1) pe_int) (pa_cons (pv 2) pa_nil)))) pa_nil)))) pss_nil))) (pss_one (ps_ret (pe_tup (pa_cons pe_str (pa_cons (pv 3) (pa_cons (pe_ix ix_tup (pe_tup (pa_cons pe_str (pa_cons pe_str (pa_cons pe_str pa_nil)))) (pe_c G_law_digit hr (by omega) (by rfl) (pa_cons (pv 0) (pa_cons pe_int pa_nil))) (fun _ _ => rfl)) (pa_cons (pe_c G_law_attributes hr (by omega) (by rfl) (pa_cons (pv 0) pa_nil)) (pa_cons (pe_callTy call_tuple_of (by rfl) T.z_tuple (by decide +kernel) (pa_cons (pv 4) pa_nil)) pa_nil)))))))))))), ?_⟩
    obtain ⟨pool1, num, rfl⟩ : ∃ r x, pool = r ++ [x] := ⟨pool.dropLast, pool.getLast pne, (List.dropLast_concat_getLast pne).symm⟩
    have S1 := S.put (u := .lst (pool1.map V.int))
    have hy : ((pool1 ++ [num]).map V.int)[((pool1 ++ [num]).map V.int).length - 1]? = some (.int num) := by simp
    refine ⟨_, rfl, .inl ⟨rfl, _, SqL.of S.hd⟩, pa, _, _, rfl, rfl, S.hd, hy, ?_⟩
    rw [show ((pool1 ++ [num]).map V.int).dropLast = pool1.map V.int by simp]
    have pl1 : pool1.length ≤ 99 := by
      rw [List.length_append] at pl
      have : pool1.length + 1 ≤ 100 := pl
      omega
    show tSeq _ _ _ _ (upd H pa (.lst (pool1.map V.int)))
    generalize upd H pa (.lst (pool1.map V.int)) = H1 at S1 ⊢
    have txt : ∀ (s2 : Int) (H2 : Hp) (σ : L2.St), Sb G H2 ((pa, .lst (pool1.map V.int)) :: (sa, .lst [.int s2]) :: M) → σ[3]? = some (some (V.int num)) → σ[0]? = some (some (V.ref sa)) → tRet (tTup (tCons (tC (.str "text")) (tCons (tVar 3) (tCons (tCall spWord [] E0 (tCons (tVar 0) tNil)) tNil)))) { nx := fun _ H' => Q V.non H', rt := Q } σ H2 := fun s2 H2 σ S2 e3 e0 => by
      refine ⟨_, e3, _, e0, sa, s2, G, (pa, .lst (pool1.map V.int)) :: M, rfl, S2.swap, fun x s3 G3 H3 S3 g3 xl => ⟨by show 3 ≤ sizeLine; decide, fun t ht => ?_⟩⟩
      refine q (.ref t) (.tx num x) pool1 s3 _ _ (S3.swap.alloc ht) (Same.trans g3 (S3.swap.grow ht)) (.tx upd_same) ?_ (Nat.zero_le _) rfl
      simp only [AllD]
      exact ⟨List.nil_sublist _, xl⟩
    refine ⟨_, rfl, rfl, _, rfl, ite2 (fun _ => iteT (txt s0 H1 _ S1 rfl rfl)) (fun c0 => ?_)⟩
    have n0 : n ≠ 0 := fun z => c0 (decide_eq_true (by rw [z]; rfl))
    obtain ⟨m, rfl⟩ : ∃ m, n = m + 1 := ⟨n - 1, by omega⟩
    obtain ⟨N', rfl⟩ : ∃ N', N = N' + 1 := ⟨N - 1, by omega⟩
    have esp := hsp N' rfl
    subst esp
    refine ⟨_, rfl, sa, s0, 5, rfl, S1.hd2, by decide, by decide, fun z s2 z0 z1 => ⟨rfl, _, rfl, ite2 (fun _ => txt s2 _ _ (S1.put2 (u := .lst [.int s2])) rfl rfl) (fun _ => ?_)⟩⟩
    have S2 := S1.put2 (u := .lst [.int s2])
    show tSeq _ _ _ _ (upd H1 sa (.lst [.int s2]))
    generalize upd H1 sa (.lst [.int s2]) = H2 at S2 ⊢
    clear txt
    refine ⟨by show 0 ≤ sizeLine; decide, fun kl hkl => ?_⟩
    have S3 := S2.add (o := .lst []) hkl
    refine ⟨by show 6 ≤ sizeLine; decide, fun tt htt => ?_⟩
    have S4 := S3.alloc (o := .tup [V.int 0, .int 1, .int 2, .int 3, .int 4, .int 2]) htt
    have g4 := S3.grow (o := .tup [V.int 0, .int 1, .int 2, .int 3, .int 4, .int 2]) htt
    have htt' : upd G tt (.tup [V.int 0, .int 1, .int 2, .int 3, .int 4, .int 2]) tt = some (.tup [V.int 0, .int 1, .int 2, .int 3, .int 4, .int 2]) := upd_same
    generalize upd G tt (.tup [V.int 0, .int 1, .int 2, .int 3, .int 4, .int 2]) = G4 at S4 g4 htt'
    refine ⟨_, rfl, sa, s2, 6, rfl, S4.hd3, by decide, by decide, fun z3 s3 z30 z31 => ?_⟩
    have S5 := S4.put3 (u := .lst [.int s3])
    obtain ⟨c, hc, hm⟩ := atI_mem (xs := [V.int 0, .int 1, .int 2, .int 3, .int 4, .int 2]) z30 z31
    have hc' : ∃ x : Nat, c = V.int (x : Int) ∧ x ≤ 4 := by
      simp only [List.mem_cons, List.not_mem_nil, or_false] at hm
      rcases hm with rfl | rfl | rfl | rfl | rfl | rfl
      · exact ⟨0, rfl, by decide⟩
      · exact ⟨1, rfl, by decide⟩
      · exact ⟨2, rfl, by decide⟩
      · exact ⟨3, rfl, by decide⟩
      · exact ⟨4, rfl, by decide⟩
      · exact ⟨2, rfl, by decide⟩
    obtain ⟨x, rfl, x4⟩ := hc'
    refine ⟨tt, _, _, _, rfl, rfl, SqT.of (S5.s _ _ htt'), hc, _, rfl, by omega, by omega, ?_⟩
    refine for_range (lo := 0) (n := (x : Int).toNat) (fun j σ H' => ∃ (s' : Int) (pool' : List Int) (kk : List Dn) (kxs : List V) (G' : Hp) (y5 : Option V), Sb G' H' ((kl, .lst kxs) :: (pa, .lst (pool'.map V.int)) :: (sa, .lst [.int s']) :: M) ∧ Same G4 G' ∧ NdAs G' kxs kk ∧ AllS NamOk kk ∧ dS kk ≤ m ∧ kk.length ≤ j ∧ pool1 = pool' ++ (numS kk).reverse ∧
      σ = [some (.ref sa), some (.int ((m + 1 : Nat) : Int)), some (.ref pa), some (.int num), some (.ref kl), y5]) ⟨s3, pool1, [], [], G4, _, S5, Same.refl _, .nil, trivial, Nat.zero_le _, Nat.le_refl _, by simp [numS], rfl⟩ ?_ ?_
    · rintro j σ H6 hj ⟨s', pool', kk, kxs, G', y5, S6, g6, dk, ak, bk, kkl, ep, rfl⟩
      have kxl := dk.len
      have pl' : pool'.length ≤ 99 := by
        have := congrArg List.length ep
        rw [List.length_append] at this
        omega
      refine ⟨_, rfl, pa, _, rfl, .inl (SqL.of S6.hd2), _, _, rfl, rfl, _, rfl, ite2 (fun c => ?_) (fun c => ⟨s', pool', kk, kxs, G', _, S6, g6, dk, ak, bk, by omega, ep, rfl⟩)⟩
      have pne' : pool' ≠ [] := fun z => by
        have := of_decide_eq_true c
        rw [z] at this
        exact absurd this (by decide)
      refine ⟨_, rfl, .inl ⟨rfl, _, SqL.of S6.hd⟩, _, rfl, _, rfl, _, _, rfl, rfl, _, rfl, m, sa, pa, s', pool', G', (kl, .lst kxs) :: M, ?_, by omega, pne', by omega, S6.tor3, fun v d pool2 s7 G7 H7 S7 g7 nv ad bd e7 => ?_⟩
      · show [V.ref sa, V.int (((m + 1 : Nat) : Int) - 1), V.ref pa] = _
        rw [show ((m + 1 : Nat) : Int) - 1 = (m : Int) by omega]
      · have S8 := S7.rot3
        refine ⟨kl, kxs, v, rfl, rfl, S8.hd, by omega, s7, pool2, kk ++ [d], kxs ++ [v], G7, _, S8.put, Same.trans g6 g7, (dk.same g7).app (.cons nv .nil), AllS_app ak (AllS_one ad), by rw [dS_app, dS_one]; omega, by rw [List.length_append, List.length_singleton]; omega, ?_, rfl⟩
        rw [ep, e7, numS_app, numS_one, List.reverse_append, List.append_assoc]
    · rintro σ H6 ⟨s', pool', kk, kxs, G', y5, S6, g6, dk, ak, bk, kkl, ep, rfl⟩
      refine ⟨_, rfl, by show 3 ≤ sizeLine; decide, fun t3 ht3 => ?_⟩
      have S7 := S6.alloc (o := .tup [V.str "p", .str "div", .str "b"]) ht3
      have g7 := S6.grow (o := .tup [V.str "p", .str "div", .str "b"]) ht3
      have ht3' : upd G' t3 (.tup [V.str "p", .str "div", .str "b"]) t3 = some (.tup [V.str "p", .str "div", .str "b"]) := upd_same
      generalize upd G' t3 (.tup [V.str "p", .str "div", .str "b"]) = G7 at S7 g7 ht3'
      refine ⟨_, rfl, sa, s', 3, rfl, S7.hd3, by decide, by decide, fun z8 s8 z80 z81 => ?_⟩
      have S8 := S7.put3 (u := .lst [.int s8])
      obtain ⟨c8, hc8, hm8⟩ := atI_mem (xs := [V.str "p", .str "div", .str "b"]) z80 z81
      have hc8' : ∃ tg : Str, c8 = V.str tg ∧ (reprText tg).length ≤ 20 := by
        simp only [List.mem_cons, List.not_mem_nil, or_false] at hm8
        rcases hm8 with rfl | rfl | rfl <;> exact ⟨_, rfl, by decide +kernel⟩
      obtain ⟨tg, rfl, tgl⟩ := hc8'
      refine ⟨t3, _, _, _, rfl, rfl, SqT.of (S8.s _ _ ht3'), hc8, _, rfl, sa, s8, G7, _, rfl, S8.rot3, fun va as s9 G9 H9 S9 g9 hva sub avl => ?_⟩
      have S10 := S9.tor3
      refine ⟨_, rfl, kl, kxs, rfl, .inl ⟨SqL.of S10.hd, fun pk hpk => ⟨by show 5 ≤ sizeLine; decide, fun t ht => ?_⟩⟩⟩
      obtain ⟨S11, g11⟩ := S10.drop
      have S12 := S11.alloc (o := .tup kxs) hpk
      have g12 := S11.grow (o := .tup kxs) hpk
      have S13 := S12.alloc (o := .tup [.str "element", .int num, .str tg, va, .ref pk]) ht
      have g13 := S12.grow (o := .tup [.str "element", .int num, .str tg, va, .ref pk]) ht
      have ga := Same.trans g11 (Same.trans g12 g13)
      refine q (.ref t) (.el num tg as kk) pool' s9 _ _ S13 (Same.trans g4 (Same.trans g6 (Same.trans g7 (Same.trans g9 ga)))) (.el upd_same (hva.same ga) (g13 _ _ upd_same) (dk.same (Same.trans g7 (Same.trans g9 ga)))) ?_ ?_ ?_
      · simp only [AllD]
        exact ⟨⟨sub, tgl, avl⟩, ak⟩
      · simp only [dN]
        omega
      · rw [ep]
        simp [numN]
theorem ln_N (T : Txt K w mg C) : ∀ n : Nat, Cal P w K mg base (n + 4) "_law_node" (spLNode n)
  | 0 => ln_S T (N := 0) (sp := spFalse) (fun m h => by omega) (ln_0 T)
  | n + 1 => ln_S T (N := n + 1) (sp := spLNode n) (fun m h => by rw [Nat.succ.inj h]) (ln_N T n)
end
end VL

set_option Elab.async false
set_option linter.all false
set_option pp.maxSteps 700
set_option maxRecDepth 100000
set_option maxHeartbeats 4000000
namespace VL
open PySem PySem.Spec PyProof.Rows L2
section
variable {P : Program} {w : World} {K : PySem.W.Frag} {mg : Str → Option Value} {base : Heap} {C : Ad}
theorem sc__law_document : FnScope ["state", "many", "levels", "pool", "nodes", "k"] ["state", "many", "levels"] (defScope s__law_document) := ⟨rfl, rfl, rfl, by decide +kernel, rfl, by decide +kernel, by decide +kernel⟩
theorem ok_ldoc (T : Txt K w mg C) : Cal P w K mg base 10 "_law_document" spLDoc := by
  have G_law_digit := ok_dig (P := P) (base := base) T
  have G_law_pool := ok_pool (P := P) (base := base) T
  have G_law_node := ln_N (P := P) (base := base) T 5
  refine cal_of T.d__law_document sc__law_document (fun vs H Q E h => ?_) (fun f cdv A outer s H vs Q E hr h => ?_)
  · obtain ⟨sa, s, m, l, G, M, rfl, _⟩ := h
    rfl
  · obtain ⟨sa, s0, m, l, G, M, rfl, m100, l5, S, q⟩ := h
    have big : 100000 < sizeLine := by decide
    refine ⟨_, (pss_cons (ps_set (i := 3) sc__law_document.nd rfl (Or.inl rfl) (pe_c G_law_pool hr (by decide) (by rfl) (pa_cons (pv 0) (pa_cons (pv 1) pa_nil)))) (pss_cons (ps_set (i := 4) sc__law_document.nd rfl (Or.inl rfl) (pe_lst pa_nil)) (pss_cons (ps_for PassesOwn.never rfl (pi_range1 (by rfl) T.z_range (pa_cons (pe_op op_add pe_int (pe_c G_law_digit hr (by decide) (by rfl) (pa_cons (pv 0) (pa_cons pe_int pa_nil)))) pa_nil)) (pg_name (i := 5) sc__law_document.nd rfl (Or.inl rfl)) (pss_one (ps_if (pt_cmpR op_gt (pe_callB call_len_seq (by rfl) T.z_len PySem.boot_len (pa_cons (pv 3) pa_nil)) pe_int (nomark _)) (pss_one (ps_expr (pe_bm PySem.F.plainAttrs_list PySem.F.slot_list_append PySem.F.type_list_append mt_append (pv 4) (pa_cons (pe_c G_law_node hr (by decide) (by rfl) (pa_cons (pv 0) (pa_cons (pv 2) (pa_cons (pv 3) pa_nil)))) pa_nil)))) pss_nil))) (pss_one (ps_ret (pe_callTy call_tuple_of (by rfl) T.z_tuple (by decide +kernel) (pa_cons (pv 4) pa_nil))))))), ?_⟩
    refine ⟨_, rfl, _, rfl, sa, s0, m, G, M, rfl, m100, S, fun pa pool s1 G1 H1 S1 g1 pl pn pb => ?_⟩
    refine ⟨by show 0 ≤ sizeLine; decide, fun kl hkl => ?_⟩
    have S2 := S1.add (o := .lst []) hkl
    refine ⟨_, rfl, sa, s1, 5, rfl, S2.hd3, by decide, by decide, fun z s2 z0 z1 => ?_⟩
    have S3 := S2.put3 (u := .lst [.int s2])
    refine ⟨_, _, rfl, rfl, _, rfl, by omega, by omega, ?_⟩
    refine for_range (lo := 0) (n := (1 + z).toNat) (fun j σ H' => ∃ (s' : Int) (pool' : List Int) (kk : List Dn) (kxs : List V) (G' : Hp) (y5 : Option V), Sb G' H' ((kl, .lst kxs) :: (pa, .lst (pool'.map V.int)) :: (sa, .lst [.int s']) :: M) ∧ Same G1 G' ∧ NdAs G' kxs kk ∧ AllS NamOk kk ∧ dS kk ≤ l ∧ kk.length ≤ j ∧ pool = pool' ++ (numS kk).reverse ∧
      σ = [some (.ref sa), some (.int (m : Int)), some (.int (l : Int)), some (.ref pa), some (.ref kl), y5]) ⟨s2, pool, [], [], G1, _, S3, Same.refl _, .nil, trivial, Nat.zero_le _, Nat.le_refl _, by simp [numS], rfl⟩ ?_ ?_
    · rintro j σ H6 hj ⟨s', pool', kk, kxs, G', y5, S6, g6, dk, ak, bk, kkl, ep, rfl⟩
      have kxl := dk.len
      have pl' : pool'.length ≤ 100 := by
        have := congrArg List.length ep
        rw [List.length_append] at this
        omega
      refine ⟨_, rfl, pa, _, rfl, .inl (SqL.of S6.hd2), _, _, rfl, rfl, _, rfl, ite2 (fun c => ?_) (fun c => ⟨s', pool', kk, kxs, G', _, S6, g6, dk, ak, bk, by omega, ep, rfl⟩)⟩
      have pne' : pool' ≠ [] := fun z => by
        have := of_decide_eq_true c
        rw [z] at this
        exact absurd this (by decide)
      refine ⟨_, rfl, .inl ⟨rfl, _, SqL.of S6.hd⟩, _, rfl, _, rfl, _, rfl, l, sa, pa, s', pool', G', (kl, .lst kxs) :: M, rfl, l5, pne', pl', S6.tor3, fun v d pool2 s7 G7 H7 S7 g7 nv ad bd e7 => ?_⟩
      have S8 := S7.rot3
      refine ⟨kl, kxs, v, rfl, rfl, S8.hd, by omega, s7, pool2, kk ++ [d], kxs ++ [v], G7, _, S8.put, Same.trans g6 g7, (dk.same g7).app (.cons nv .nil), AllS_app ak (AllS_one ad), by rw [dS_app, dS_one]; omega, by rw [List.length_append, List.length_singleton]; omega, ?_, rfl⟩
      rw [ep, e7, numS_app, numS_one, List.reverse_append, List.append_assoc]
    · rintro σ H6 ⟨s', pool', kk, kxs, G', y5, S6, g6, dk, ak, bk, kkl, ep, rfl⟩
      refine ⟨_, rfl, kl, kxs, rfl, .inl ⟨SqL.of S6.hd, fun p hp => ?_⟩⟩
      obtain ⟨S7, g7⟩ := S6.drop
      obtain ⟨S8, g8⟩ := S7.drop
      have S9 := S8.alloc (o := .tup kxs) hp
      have g9 := S8.grow (o := .tup kxs) hp
      have g69 := Same.trans g7 (Same.trans g8 g9)
      have sub : (numS kk).reverse.Sublist pool := by rw [ep]; exact List.sublist_append_right _ _
      have nd : (numS kk).Nodup := by
        have := pn.sublist sub
        exact (List.reverse_perm _).nodup_iff.mp this
      refine q p kxs kk s' _ _ S9 (Same.trans g1 (Same.trans g6 g69)) upd_same (dk.same g69) ak bk nd (fun x hx => pb x (sub.subset (List.mem_reverse.mpr hx))) ?_
      have := sub.length_le
      rw [List.length_reverse] at this
      omega
end
end VL

set_option Elab.async false
set_option linter.all false
set_option pp.maxSteps 700
set_option maxRecDepth 100000
set_option maxHeartbeats 4000000
namespace VL
open PySem PySem.Spec PyProof.Rows L2
mutual
/-- each node with its parent and its level -/
def flN (par lv : Int) : Dn → List (Dn × Int × Int)
  | .tx n x => [(.tx n x, par, lv)]
  | .el n t as ks => (.el n t as ks, par, lv) :: flP n (lv + 1) ks
def flP (par lv : Int) : List Dn → List (Dn × Int × Int)
  | [] => []
  | d :: r => flN par lv d ++ flP par lv r
end
theorem flN_eq {par lv : Int} {d : Dn} : flN par lv d = (d, par, lv) :: flP d.num (lv + 1) d.kids := by
  cases d with
  | tx n x => simp only [flN, Dn.kids, flP]
  | el n t as ks => simp only [flN, Dn.kids, Dn.num]
theorem flP_app {par lv : Int} : ∀ a b : List Dn, flP par lv (a ++ b) = flP par lv a ++ flP par lv b
  | [], b => by simp only [flP, List.nil_append]
  | d :: r, b => by simp only [List.cons_append, flP, flP_app r b, List.append_assoc]
mutual
theorem flN_it (par lv : Int) : ∀ d : Dn, (flN par lv d).map (fun x => (x.2.2, x.1)) = it lv d
  | .tx n x => by simp only [flN, it, List.map_cons, List.map_nil]
  | .el n t as ks => by
    simp only [flN, it, List.map_cons]
    rw [flP_it n (lv + 1) ks]
theorem flP_it (par lv : Int) : ∀ ks : List Dn, (flP par lv ks).map (fun x => (x.2.2, x.1)) = itS lv ks
  | [] => by simp only [flP, itS, List.map_nil]
  | d :: r => by
    simp only [flP, itS, List.map_append]
    rw [flN_it par lv d, flP_it par lv r]
end
mutual
/-- how deep the calls go -/
def hN : Dn → Nat
  | .tx _ _ => 1
  | .el _ _ _ ks => hS ks + 1
def hS : List Dn → Nat
  | [] => 0
  | d :: r => max (hN d) (hS r)
end
theorem hN_eq {d : Dn} : hN d = hS d.kids + 1 := by
  cases d with
  | tx n x => simp only [hN, Dn.kids, hS]
  | el n t as ks => simp only [hN, Dn.kids]
theorem hS_mem : ∀ {ks : List Dn} {d : Dn}, d ∈ ks → hN d ≤ hS ks
  | e :: r, d, h => by
    simp only [hS]
    rcases List.mem_cons.mp h with rfl | h
    · omega
    · have := hS_mem h
      omega
mutual
theorem hN_dN : ∀ d : Dn, hN d ≤ dN d + 1
  | .tx n x => by simp only [hN, dN]; omega
  | .el n t as ks => by
    have := hS_dS ks
    simp only [hN, dN]
    omega
theorem hS_dS : ∀ ks : List Dn, hS ks ≤ dS ks + 1
  | [] => by simp only [hS]; omega
  | d :: r => by
    have h1 := hN_dN d
    have h2 := hS_dS r
    simp only [hS, dS]
    omega
end
def RowA (H : Hp) (v : V) (x : Dn × Int × Int) : Prop := ∃ a u, v = .ref a ∧ H a = some (.lst [u, .int x.2.1, .int x.2.2]) ∧ NdA H u x.1
theorem RowA.same {H H' : Hp} {vs : List V} {xs : List (Dn × Int × Int)} (h : Paired (RowA H) vs xs) (s : Same H H') : Paired (RowA H') vs xs := Paired.mono (fun _ _ ⟨a, u, e, h1, h2⟩ => ⟨a, u, e, s _ _ h1, h2.same s⟩) h
def spBelow : Sp := fun vs H Q _ => ∃ (v : V) (d : Dn) (G : Hp) (M : List (Addr × HO)), vs = [v] ∧ Sb G H M ∧ NdA G v d ∧ ∀ (p : Addr) (xs : List V) (G' H' : Hp), Sb G' H' M → Same G G' → G' p = some (.tup xs) → NdAs G' xs d.kids → Q (.ref p) H'
def spFlat (N : Nat) : Sp := fun vs H Q _ => ∃ (a : Addr) (par lv : Int) (xs : List V) (ks : List Dn) (G : Hp) (M : List (Addr × HO)), vs = [.ref a, .int par, .int lv] ∧ Sb G H M ∧ G a = some (.tup xs) ∧ NdAs G xs ks ∧ hS ks ≤ N ∧ (flP par lv ks).length ≤ 1000 ∧
  ∀ (p : Addr) (rs : List V) (G' H' : Hp), Sb G' H' M → Same G G' → G' p = some (.lst rs) → Paired (RowA G') rs (flP par lv ks) → Q (.ref p) H'
theorem NdAs.get' {H : Hp} {vs : List V} {ds : List Dn} (h : NdAs H vs ds) {j : Nat} {v : V} (hv : vs[j]? = some v) : ∃ d, ds[j]? = some d ∧ NdA H v d := by
  induction j generalizing vs ds with
  | zero =>
    cases h with
    | nil => simp at hv
    | cons a b => exact ⟨_, rfl, by rw [← Option.some.inj hv]; exact a⟩
  | succ j ih =>
    cases h with
    | nil => simp at hv
    | cons a b => exact ih b (by simpa using hv)
section
variable {P : Program} {w : World} {K : PySem.W.Frag} {mg : Str → Option Value} {base : Heap} {C : Ad}
theorem sc__law_below : FnScope ["node"] ["node"] (defScope s__law_below) := ⟨rfl, rfl, rfl, by decide +kernel, rfl, by decide +kernel, by decide +kernel⟩
theorem ok_below (T : Txt K w mg C) : Cal P w K mg base 1 "_law_below" spBelow := by
  refine cal_of T.d__law_below sc__law_below (fun vs H Q E h => ?_) (fun f cdv A outer s H vs Q E hr h => ?_)
  · obtain ⟨v, d, G, M, rfl, _⟩ := h
    rfl
  · obtain ⟨v, d, G, M, rfl, S, hd, q⟩ := h
    refine ⟨_, (pss_cons (ps_if (pt_cmpR op_eq (pe_ix ix_tup (pv 0) pe_int (fun _ _ => rfl)) pe_str (nomark _)) (pss_one (ps_ret (pe_ix ix_tup (pv 0) pe_int (fun _ _ => rfl)))) pss_nil) (pss_one (ps_ret (pe_tup pa_nil)))), ?_⟩
    cases hd with
    | @tx b m y h1 =>
      refine ⟨_, rfl, b, _, _, _, rfl, rfl, SqT.of (S.s _ _ h1), at_0, rfl, _, rfl, ite2 (fun c => absurd c (by decide)) (fun _ => ?_)⟩
      exact ⟨by show 0 ≤ sizeLine; decide, fun p hp => q p [] _ _ (S.alloc hp) (S.grow hp) upd_same .nil⟩
    | @el b pk m tg va as vs kk h1 hA' hk hs =>
      refine ⟨_, rfl, b, _, _, _, rfl, rfl, SqT.of (S.s _ _ h1), at_0, rfl, _, rfl, ite2 (fun _ => ?_) (fun c => absurd (by decide) c)⟩
      exact ⟨_, rfl, b, _, _, _, rfl, rfl, SqT.of (S.s _ _ h1), rfl, q pk vs G H S (Same.refl _) hk hs⟩
theorem sc__law_flat : FnScope ["document", "parent", "level", "rows", "node"] ["document", "parent", "level"] (defScope s__law_flat) := ⟨rfl, rfl, rfl, by decide +kernel, rfl, by decide +kernel, by decide +kernel⟩
theorem lf_0 (T : Txt K w mg C) {k : Nat} : Cal P w K mg base (k + 1) "_law_flat" spFalse := cal_of T.d__law_flat sc__law_flat (fun vs H Q E h => h.elim) (fun f cdv A outer s H vs Q E hr h => h.elim)
theorem lf_S (T : Txt K w mg C) {N : Nat} {sp : Sp} (hsp : ∀ m, m + 1 = N → sp = spFlat m) (G_law_flat : Cal P w K mg base (N + 1) "_law_flat" sp) : Cal P w K mg base (N + 2) "_law_flat" (spFlat N) := by
  have G_law_below := ok_below (P := P) (base := base) T
  refine cal_of T.d__law_flat sc__law_flat (fun vs H Q E h => ?_) (fun f cdv A outer s H vs Q E hr h => ?_)
  · obtain ⟨a, par, lv, xs, ks, G, M, rfl, _⟩ := h
    rfl
  · obtain ⟨a, par, lv, xs, ks, G, M, rfl, S, ha, hxs, hN, hl, q⟩ := h
    have big : 100000 < sizeLine := by decide
    refine ⟨_, (pss_cons (ps_set (i := 3) sc__law_flat.nd rfl (Or.inl rfl) (pe_lst pa_nil)) (pss_cons (ps_for PassesOwn.never rfl (pi_tup (pv 0)) (pg_name (i := 4) sc__law_flat.nd rfl (Or.inl rfl)) (pss_cons (ps_expr (pe_bm PySem.F.plainAttrs_list PySem.F.slot_list_append PySem.F.type_list_append mt_append (pv 3) (pa_cons (pe_lst (pa_cons (pv 4) (pa_cons (pv 1) (pa_cons (pv 2) pa_nil)))) pa_nil))) (pss_one (ps_set (i := 3) sc__law_flat.nd rfl (Or.inl rfl) (pe_op op_cat (pv 3) (pe_c G_law_flat hr (by omega) (by rfl) (pa_cons (pe_c G_law_below hr (by omega) (by rfl) (pa_cons (pv 4) pa_nil)) (pa_cons (pe_ix ix_tup (pv 4) pe_int (fun _ _ => rfl)) (pa_cons (pe_op op_add (pv 2) pe_int) pa_nil))))))))) (pss_one (ps_ret (pv 3))))), ?_⟩
    refine ⟨by show 0 ≤ sizeLine; decide, fun p hp => ?_⟩
    have S1 := S.add (o := .lst []) hp
    refine ⟨_, rfl, a, rfl, ⟨_, SqT.of (S1.s _ _ ha)⟩, ?_⟩
    refine for_it (walk_tup (K := K) (a := a) (xs := xs)) (fun j σ H' => ∃ (p : Addr) (rs : List V) (G' : Hp) (y4 : Option V), Sb G' H' ((p, .lst rs) :: M) ∧ Same G G' ∧ Paired (RowA G') rs (flP par lv (ks.take j)) ∧
      σ = [some (.ref a), some (.int par), some (.int lv), some (.ref p), y4]) ⟨p, [], G, _, S1, Same.refl _, by rw [List.take_zero]; simp only [flP]; exact .nil, rfl⟩ (fun j σ H' _ z => by obtain ⟨_, _, _, _, S', g', _⟩ := z; exact SqT.of (S'.s _ _ (g' _ _ ha))) ?_ ?_
    · rintro j x σ H3 H4 hj ⟨p, rs, G', y4, S3, g3, hrs, rfl⟩ ⟨rfl, hx⟩
      obtain ⟨d, hd, hxd⟩ := hxs.get' hx
      have dm := List.mem_of_getElem? hd
      have h1 := hS_mem dm
      rw [hN_eq] at h1
      obtain ⟨N', rfl⟩ : ∃ N', N = N' + 1 := ⟨N - 1, by omega⟩
      have esp := hsp N' rfl
      subst esp
      have eT : flP par lv (ks.take (j + 1)) = flP par lv (ks.take j) ++ [(d, par, lv)] ++ flP d.num (lv + 1) d.kids := by
        rw [List.take_add_one, hd, flP_app]
        show _ ++ flP par lv [d] = _
        simp only [flP, List.append_nil]
        rw [flN_eq, List.append_assoc]
        rfl
      have tl : (flP par lv (ks.take (j + 1))).length ≤ 1000 := by
        have e : flP par lv ks = flP par lv (ks.take (j + 1)) ++ flP par lv (ks.drop (j + 1)) := by rw [← flP_app, List.take_append_drop]
        rw [e, List.length_append] at hl
        omega
      rw [eT, List.length_append, List.length_append] at tl
      have tl : (flP par lv (ks.take j)).length + 1 + (flP d.num (lv + 1) d.kids).length ≤ 1000 := tl
      have rl := Paired.length hrs
      obtain ⟨b, ys, rfl, hb⟩ := hxd.at
      refine ⟨_, rfl, .inl ⟨rfl, _, SqL.of S3.hd⟩, _, rfl, _, rfl, _, rfl, by show 3 ≤ sizeLine; decide, fun r hr => ?_⟩
      have S4 := S3.alloc (o := .lst [.ref b, .int par, .int lv]) hr
      have g4 := S3.grow (o := .lst [.ref b, .int par, .int lv]) hr
      have hr4 : upd G' r (.lst [.ref b, .int par, .int lv]) r = some (.lst [.ref b, .int par, .int lv]) := upd_same
      generalize upd G' r (.lst [.ref b, .int par, .int lv]) = G4 at S4 g4 hr4
      refine ⟨p, rs, .ref r, rfl, rfl, S4.hd, by omega, ?_⟩
      have S5 := S4.put (u := .lst (rs ++ [.ref r]))
      have hd5 := hxd.same (Same.trans g3 g4)
      refine ⟨_, rfl, _, rfl, .ref b, d, G4, _, rfl, S5, hd5, fun p2 xs2 G6 H6 S6 g6 hp2 hx2 => ?_⟩
      have hb6 := S6.s _ _ (g6 _ _ (g4 _ _ (g3 _ _ hb)))
      refine ⟨_, rfl, b, _, _, _, rfl, rfl, SqT.of hb6, at_1, _, rfl, _, _, rfl, rfl, p2, d.num, lv + 1, xs2, d.kids, G6, _, rfl, S6, hp2, hx2, by omega, by omega, fun p7 rs7 G7 H7 S7 g7 hp7 hrs7 => ?_⟩
      have r7 := Paired.length hrs7
      refine ⟨p, p7, _, _, rfl, rfl, S7.hd, S7.s _ _ hp7, by rw [List.length_append]; show rs.length + 1 + rs7.length ≤ _; omega, fun p8 hp8 => ?_⟩
      have S8 := S7.add (o := .lst (rs ++ [V.ref r] ++ rs7)) hp8
      obtain ⟨S9, g9⟩ := S8.swap.drop
      refine ⟨p8, rs ++ [V.ref r] ++ rs7, _, _, S9, Same.trans g3 (Same.trans g4 (Same.trans g6 (Same.trans g7 g9))), ?_, rfl⟩
      rw [eT]
      have g79 := Same.trans g7 g9
      exact paired_app (paired_app (RowA.same hrs (Same.trans g4 (Same.trans g6 g79))) (.cons ⟨r, .ref b, rfl, g79 _ _ (g6 _ _ hr4), hd5.same (Same.trans g6 g79)⟩ .nil)) (RowA.same hrs7 g9)
    · rintro σ H3 ⟨p, rs, G', y4, S3, g3, hrs, rfl⟩
      rw [List.take_of_length_le (by rw [hxs.len]; exact Nat.le_refl _)] at hrs
      obtain ⟨S4, g4⟩ := S3.drop
      exact ⟨_, rfl, q p rs _ H3 S4 (Same.trans g3 g4) upd_same (RowA.same hrs g4)⟩
theorem lf_N (T : Txt K w mg C) : ∀ n : Nat, Cal P w K mg base (n + 2) "_law_flat" (spFlat n)
  | 0 => lf_S T (N := 0) (sp := spFalse) (fun m h => by omega) (lf_0 T)
  | n + 1 => lf_S T (N := n + 1) (sp := spFlat n) (fun m h => by rw [Nat.succ.inj h]) (lf_N T n)
end
end VL

set_option Elab.async false
set_option linter.all false
set_option pp.maxSteps 700
set_option maxRecDepth 100000
set_option maxHeartbeats 4000000
namespace VLW
open VL PySem PySem.Spec PyProof.Rows L2
def RowA (H : Hp) (v : V) (x : Dn × Int × Int) : Prop := ∃ a u, v = .ref a ∧ H a = some (.lst [u, .int x.2.1, .int x.2.2]) ∧ NdA H u x.1
theorem RowA.same {H H' : Hp} {vs : List V} {xs : List (Dn × Int × Int)} (h : Paired (RowA H) vs xs) (s : Same H H') : Paired (RowA H') vs xs := Paired.mono (fun _ _ ⟨a, u, e, h1, h2⟩ => ⟨a, u, e, s _ _ h1, h2.same s⟩) h
def spBelow : Sp := fun vs H Q _ => ∃ (v : V) (d : Dn) (G : Hp) (M : List (Addr × HO)), vs = [v] ∧ Sb G H M ∧ NdA G v d ∧ ∀ (p : Addr) (xs : List V) (G' H' : Hp), Sb G' H' M → Same G G' → G' p = some (.tup xs) → NdAs G' xs d.kids → Q (.ref p) H'
def spFlat (N : Nat) : Sp := fun vs H Q _ => ∃ (a : Addr) (par lv : Int) (xs : List V) (ks : List Dn) (G : Hp) (M : List (Addr × HO)), vs = [.ref a, .int par, .int lv] ∧ Sb G H M ∧ G a = some (.tup xs) ∧ NdAs G xs ks ∧ hS ks ≤ N ∧ (flP par lv ks).length ≤ 1000 ∧
  ∀ (p : Addr) (rs : List V) (G' H' : Hp), Sb G' H' M → Same G G' → G' p = some (.lst rs) → Paired (RowA G') rs (flP par lv ks) → Q (.ref p) H'
theorem NdAs.get' {H : Hp} {vs : List V} {ds : List Dn} (h : NdAs H vs ds) {j : Nat} {v : V} (hv : vs[j]? = some v) : ∃ d, ds[j]? = some d ∧ NdA H v d := by
  induction j generalizing vs ds with
  | zero =>
    cases h with
    | nil => simp at hv
    | cons a b => exact ⟨_, rfl, by rw [← Option.some.inj hv]; exact a⟩
  | succ j ih =>
    cases h with
    | nil => simp at hv
    | cons a b => exact ih b (by simpa using hv)
section
variable {P : Program} {w : World} {K : PySem.W.Frag} {mg : Str → Option Value} {base : Heap} {C : Ad}
theorem sc__law_below : FnScope ["node"] ["node"] (defScope s__law_below) := ⟨rfl, rfl, rfl, by decide +kernel, rfl, by decide +kernel, by decide +kernel⟩
theorem ok_below (T : Txt K w mg C) : Cal P w K mg base 1 "_law_below" spBelow := by
  refine cal_of T.d__law_below sc__law_below (fun vs H Q E h => ?_) (fun f cdv A outer s H vs Q E hr h => ?_)
  · obtain ⟨v, d, G, M, rfl, _⟩ := h
    rfl
  · obtain ⟨v, d, G, M, rfl, S, hd, q⟩ := h
    refine ⟨_, (pss_cons (ps_if (pt_cmpR op_eq (pe_ix ix_tup (pv 0) pe_int (fun _ _ => rfl)) pe_str (nomark _)) (pss_one (ps_ret (pe_ix ix_tup (pv 0) pe_int (fun _ _ => rfl)))) pss_nil) (pss_one (ps_ret (pe_tup pa_nil)))), ?_⟩
    cases hd with
    | @tx b m y h1 =>
      refine ⟨_, rfl, b, _, _, _, rfl, rfl, SqT.of (S.s _ _ h1), at_0, rfl, _, rfl, ite2 (fun c => absurd c (by decide)) (fun _ => ?_)⟩
      exact ⟨by show 0 ≤ sizeLine; decide, fun p hp => q p [] _ _ (S.alloc hp) (S.grow hp) upd_same .nil⟩
    | @el b pk m tg va as vs kk h1 hA' hk hs =>
      refine ⟨_, rfl, b, _, _, _, rfl, rfl, SqT.of (S.s _ _ h1), at_0, rfl, _, rfl, ite2 (fun _ => ?_) (fun c => absurd (by decide) c)⟩
      exact ⟨_, rfl, b, _, _, _, rfl, rfl, SqT.of (S.s _ _ h1), rfl, q pk vs G H S (Same.refl _) hk hs⟩
theorem sc__law_flat : FnScope ["document", "parent", "level", "rows", "node"] ["document", "parent", "level"] (defScope s__law_flat) := ⟨rfl, rfl, rfl, by decide +kernel, rfl, by decide +kernel, by decide +kernel⟩
theorem lf_0 (T : Txt K w mg C) {k : Nat} : Cal P w K mg base (k + 1) "_law_flat" spFalse := cal_of T.d__law_flat sc__law_flat (fun vs H Q E h => h.elim) (fun f cdv A outer s H vs Q E hr h => h.elim)
theorem lf_S (T : Txt K w mg C) {N : Nat} {sp : Sp} (hsp : ∀ m, m + 1 = N → sp = spFlat m) (G_law_flat : Cal P w K mg base (N + 1) "_law_flat" sp) : Cal P w K mg base (N + 2) "_law_flat" (spFlat N) := by
  have G_law_below := ok_below (P := P) (base := base) T
  refine cal_of T.d__law_flat sc__law_flat (fun vs H Q E h => ?_) (fun f cdv A outer s H vs Q E hr h => ?_)
  · obtain ⟨a, par, lv, xs, ks, G, M, rfl, _⟩ := h
    rfl
  · obtain ⟨a, par, lv, xs, ks, G, M, rfl, S, ha, hxs, hN, hl, q⟩ := h
    have big : 100000 < sizeLine := by decide
    refine ⟨_, (pss_cons (ps_set (i := 3) sc__law_flat.nd rfl (Or.inl rfl) (pe_lst pa_nil)) (pss_cons (ps_for PassesOwn.never rfl (pi_tup (pv 0)) (pg_name (i := 4) sc__law_flat.nd rfl (Or.inl rfl)) (pss_cons (ps_expr (pe_bm PySem.F.plainAttrs_list PySem.F.slot_list_append PySem.F.type_list_append mt_append (pv 3) (pa_cons (pe_lst (pa_cons (pv 4) (pa_cons (pv 1) (pa_cons (pv 2) pa_nil)))) pa_nil))) (pss_one (ps_set (i := 3) sc__law_flat.nd rfl (Or.inl rfl) (pe_op op_cat (pv 3) (pe_c G_law_flat hr (by omega) (by rfl) (pa_cons (pe_c G_law_below hr (by omega) (by rfl) (pa_cons (pv 4) pa_nil)) (pa_cons (pe_ix ix_tup (pv 4) pe_int (fun _ _ => rfl)) (pa_cons (pe_op op_add (pv 2) pe_int) pa_nil))))))))) (pss_one (ps_ret (pv 3))))), ?_⟩
    refine ⟨by show 0 ≤ sizeLine; decide, fun p hp => ?_⟩
    have S1 := S.add (o := .lst []) hp
    refine ⟨_, rfl, a, rfl, ⟨_, SqT.of (S1.s _ _ ha)⟩, ?_⟩
    refine for_it (walk_tup (K := K) (a := a) (xs := xs)) (fun j σ H' => ∃ (p : Addr) (rs : List V) (G' : Hp) (y4 : Option V), Sb G' H' ((p, .lst rs) :: M) ∧ Same G G' ∧ Paired (RowA G') rs (flP par lv (ks.take j)) ∧
      σ = [some (.ref a), some (.int par), some (.int lv), some (.ref p), y4]) ⟨p, [], G, _, S1, Same.refl _, by rw [List.take_zero]; simp only [flP]; exact .nil, rfl⟩ (fun j σ H' _ z => by obtain ⟨_, _, _, _, S', g', _⟩ := z; exact SqT.of (S'.s _ _ (g' _ _ ha))) ?_ ?_
    · rintro j x σ H3 H4 hj ⟨p, rs, G', y4, S3, g3, hrs, rfl⟩ ⟨rfl, hx⟩
      obtain ⟨d, hd, hxd⟩ := hxs.get' hx
      have dm := List.mem_of_getElem? hd
      have h1 := hS_mem dm
      rw [hN_eq] at h1
      obtain ⟨N', rfl⟩ : ∃ N', N = N' + 1 := ⟨N - 1, by omega⟩
      have esp := hsp N' rfl
      subst esp
      have eT : flP par lv (ks.take (j + 1)) = flP par lv (ks.take j) ++ [(d, par, lv)] ++ flP d.num (lv + 1) d.kids := by
        rw [List.take_add_one, hd, flP_app]
        show _ ++ flP par lv [d] = _
        simp only [flP, List.append_nil]
        rw [flN_eq, List.append_assoc]
        rfl
      have tl : (flP par lv (ks.take (j + 1))).length ≤ 1000 := by
        have e : flP par lv ks = flP par lv (ks.take (j + 1)) ++ flP par lv (ks.drop (j + 1)) := by rw [← flP_app, List.take_append_drop]
        rw [e, List.length_append] at hl
        omega
      rw [eT, List.length_append, List.length_append] at tl
      have tl : (flP par lv (ks.take j)).length + 1 + (flP d.num (lv + 1) d.kids).length ≤ 1000 := tl
      have rl := Paired.length hrs
      obtain ⟨b, ys, rfl, hb⟩ := hxd.at
      refine ⟨_, rfl, .inl ⟨rfl, _, SqL.of S3.hd⟩, _, rfl, _, rfl, _, rfl, by show 3 ≤ sizeLine; decide, fun r hr => ?_⟩
      have S4 := S3.alloc (o := .lst [.ref b, .int par, .int lv]) hr
      have g4 := S3.grow (o := .lst [.ref b, .int par, .int lv]) hr
      have hr4 : upd G' r (.lst [.ref b, .int par, .int lv]) r = some (.lst [.ref b, .int par, .int lv]) := upd_same
      generalize upd G' r (.lst [.ref b, .int par, .int lv]) = G4 at S4 g4 hr4
      refine ⟨p, rs, .ref r, rfl, rfl, S4.hd, by omega, ?_⟩
      have S5 := S4.put (u := .lst (rs ++ [.ref r]))
      have hd5 := hxd.same (Same.trans g3 g4)
      refine ⟨_, rfl, _, rfl, .ref b, d, G4, _, rfl, S5, hd5, fun p2 xs2 G6 H6 S6 g6 hp2 hx2 => ?_⟩
      have hb6 := S6.s _ _ (g6 _ _ (g4 _ _ (g3 _ _ hb)))
      refine ⟨_, rfl, b, _, _, _, rfl, rfl, SqT.of hb6, at_1, _, rfl, _, _, rfl, rfl, p2, d.num, lv + 1, xs2, d.kids, G6, _, rfl, S6, hp2, hx2, by omega, by omega, fun p7 rs7 G7 H7 S7 g7 hp7 hrs7 => ?_⟩
      have r7 := Paired.length hrs7
      refine ⟨p, p7, _, _, rfl, rfl, S7.hd, S7.s _ _ hp7, by rw [List.length_append]; show rs.length + 1 + rs7.length ≤ _; omega, fun p8 hp8 => ?_⟩
      have S8 := S7.add (o := .lst (rs ++ [V.ref r] ++ rs7)) hp8
      obtain ⟨S9, g9⟩ := S8.swap.drop
      refine ⟨p8, rs ++ [V.ref r] ++ rs7, _, _, S9, Same.trans g3 (Same.trans g4 (Same.trans g6 (Same.trans g7 g9))), ?_, rfl⟩
      rw [eT]
      have g79 := Same.trans g7 g9
      exact paired_app (paired_app (RowA.same hrs (Same.trans g4 (Same.trans g6 g79))) (.cons ⟨r, .ref b, rfl, g79 _ _ (g6 _ _ hr4), hd5.same (Same.trans g6 g79)⟩ .nil)) (RowA.same hrs7 g9)
    · rintro σ H3 ⟨p, rs, G', y4, S3, g3, hrs, rfl⟩
      rw [List.take_of_length_le (by rw [hxs.len]; exact Nat.le_refl _)] at hrs
      obtain ⟨S4, g4⟩ := S3.drop
      exact ⟨_, rfl, q p rs _ H3 S4 (Same.trans g3 g4) upd_same (RowA.same hrs g4)⟩
theorem lf_N (T : Txt K w mg C) : ∀ n : Nat, Cal P w K mg base (n + 2) "_law_flat" (spFlat n)
  | 0 => lf_S T (N := 0) (sp := spFalse) (fun m h => by omega) (lf_0 T)
  | n + 1 => lf_S T (N := n + 1) (sp := spFlat n) (fun m h => by rw [Nat.succ.inj h]) (lf_N T n)
end
end VLW

set_option Elab.async false
set_option linter.all false
set_option maxRecDepth 100000
set_option maxHeartbeats 4000000
namespace VL
open PySem PySem.Spec PyProof.Rows L2
theorem at_i {F : List Int} {k : Nat} {a : Int} (h : F[k]? = some a) : atI (F.map V.int) (k : Int) = some (.int a) := by
  have hk : k < F.length := by
    rcases Nat.lt_or_ge k F.length with q | q
    · exact q
    · rw [List.getElem?_eq_none q] at h; cases h
  unfold atI ixN
  rw [if_pos (by omega), if_pos (by rw [List.length_map]; omega), Int.toNat_natCast]
  show (F.map V.int)[k]? = _
  rw [List.getElem?_map, h]
  rfl
def lensV (L : Ln) : List V := L.map fun e => V.int (e.2 : Int)
def spCount : Sp := fun vs H Q _ => ∃ (f : Addr) (F : List Int) (x : Int), vs = [.ref f, .int x] ∧ H f = some (.lst (F.map V.int)) ∧ (∀ (j k : Nat) (a b : Int), j < k → F[j]? = some a → F[k]? = some b → b < a) ∧ F.length ≤ 1000 ∧ ∀ c : Nat, Cnt F x c → Q (.int (c : Int)) H
def spLens : Sp := fun vs H Q _ => ∃ (n : Addr) (ns : List Int), vs = [.ref n] ∧ H n = some (.lst (ns.map V.int)) ∧ ns.length ≤ 500 ∧ ∀ l H', Same H H' → H l = none → H' l = some (.lst (lensV (lisg ltI ns))) → Q (.ref l) H'
def spBest : Sp := fun vs H Q _ => ∃ (n : Addr) (ns : List Int), vs = [.ref n] ∧ H n = some (.lst (ns.map V.int)) ∧ ns.length ≤ 500 ∧ ∀ r H', Same H H' → H r = none → H' r = some (.lst ((grd none (bestL (lisg ltI ns)) (lisg ltI ns)).map V.int)) → Q (.ref r) H'
section
variable {P : Program} {w : World} {K : PySem.W.Frag} {mg : Str → Option Value} {base : Heap} {C : Ad}
theorem sc_count_above : FnScope ["firsts", "number", "low", "high", "middle"] ["firsts", "number"] (defScope s_count_above) := ⟨rfl, rfl, rfl, by decide +kernel, rfl, by decide +kernel, by decide +kernel⟩
theorem ok_count (T : Txt K w mg C) : Cal P w K mg base 1 "count_above" spCount := by
  refine cal_of T.d_count_above sc_count_above (fun vs H Q E h => ?_) (fun f cdv A outer s H vs Q E hr h => ?_)
  · obtain ⟨f, F, x, rfl, _⟩ := h
    rfl
  · obtain ⟨f, F, x, rfl, hf, ds, hl, k⟩ := h
    refine ⟨_, (pss_cons (ps_set (i := 2) sc_count_above.nd rfl (Or.inl rfl) pe_int) (pss_cons (ps_set (i := 3) sc_count_above.nd rfl (Or.inl rfl) (pe_callB call_len_seq (by rfl) T.z_len PySem.boot_len (pa_cons (pv 0) pa_nil))) (pss_cons (ps_while PassesOwn.never (pt_cmpR op_lt (pv 2) (pv 3) (nomark _)) (pss_cons (ps_set (i := 4) sc_count_above.nd rfl (Or.inl rfl) (pe_op op_fdiv (pe_op op_add (pv 2) (pv 3)) pe_int)) (pss_one (ps_if (pt_cmpR op_gt (pe_ix ix_list (pv 0) (pv 4) (fun _ _ => rfl)) (pv 1) (nomark _)) (pss_one (ps_set (i := 2) sc_count_above.nd rfl (Or.inl rfl) (pe_op op_add (pv 4) pe_int))) (pss_one (ps_set (i := 3) sc_count_above.nd rfl (Or.inl rfl) (pv 4))))))) (pss_one (ps_ret (pv 2)))))), ?_⟩
    refine ⟨_, rfl, f, _, rfl, .inl (SqL.of hf), ?_⟩
    refine ⟨fun m σ H' => ∃ (lo hi : Nat) (y : Option V), m = hi - lo ∧ lo ≤ hi ∧ hi ≤ F.length ∧ (∀ (k : Nat) (a : Int), k < lo → F[k]? = some a → x < a) ∧ (∀ (k : Nat) (a : Int), hi ≤ k → F[k]? = some a → a ≤ x) ∧ H' = H ∧ σ = [some (.ref f), some (.int x), some (.int (lo : Int)), some (.int (hi : Int)), y],
      ⟨_, 0, F.length, none, rfl, Nat.zero_le _, Nat.le_refl _, fun k a h => absurd h (Nat.not_lt_zero _), fun k a h e => (by rw [List.getElem?_eq_none h] at e; cases e), rfl, (by rw [List.length_map]; rfl)⟩, ?_⟩
    rintro m σ H1 ⟨lo, hi, y, rfl, h1, h2, up, dn, eH, rfl⟩
    subst H1
    refine ⟨_, rfl, _, rfl, _, _, rfl, rfl, _, rfl, ?_⟩
    refine ite2 (fun q => ?_) (fun q => ?_)
    · have q' : lo < hi := by have := of_decide_eq_true q; omega
      have em : ((lo : Int) + (hi : Int)) / 2 = (((lo + hi) / 2 : Nat) : Int) := by omega
      have hm : (lo + hi) / 2 < F.length := by omega
      have hg := List.getElem?_eq_getElem hm
      refine ⟨fun σ' H' => ∃ m', m' < hi - lo ∧ ∃ (lo hi : Nat) (y : Option V), m' = hi - lo ∧ lo ≤ hi ∧ hi ≤ F.length ∧ (∀ (k : Nat) (a : Int), k < lo → F[k]? = some a → x < a) ∧ (∀ (k : Nat) (a : Int), hi ≤ k → F[k]? = some a → a ≤ x) ∧ H' = H ∧ σ' = [some (.ref f), some (.int x), some (.int (lo : Int)), some (.int (hi : Int)), y], fun σ' H' z => z, ?_⟩
      refine ⟨_, rfl, _, rfl, _, _, rfl, rfl, _, _, rfl, rfl, ⟨by decide, by decide⟩, ?_⟩
      dsimp only
      rw [em]
      refine ⟨_, rfl, _, rfl, f, _, _, .int F[(lo + hi) / 2], rfl, rfl, SqL.of hf, at_i hg, _, rfl, _, _, rfl, rfl, _, rfl, ?_⟩
      refine ite2 (fun z => ?_) (fun z => ?_)
      · have z' : x < F[(lo + hi) / 2] := of_decide_eq_true z
        refine ⟨_, rfl, _, _, rfl, rfl, ?_⟩
        refine ⟨hi - ((lo + hi) / 2 + 1), by omega, (lo + hi) / 2 + 1, hi, _, rfl, by omega, h2, fun k a hk e => ?_, dn, rfl, rfl⟩
        by_cases e1 : k = (lo + hi) / 2
        · subst e1
          rw [hg] at e
          rw [← Option.some.inj e]
          exact z'
        · have := ds k _ _ _ (by omega) e hg
          omega
      · have z' : ¬ x < F[(lo + hi) / 2] := fun w => z (decide_eq_true w)
        refine ⟨_, rfl, ?_⟩
        refine ⟨(lo + hi) / 2 - lo, by omega, lo, (lo + hi) / 2, _, rfl, by omega, by omega, up, fun k a hk e => ?_, rfl, rfl⟩
        by_cases e1 : k = (lo + hi) / 2
        · subst e1
          rw [hg] at e
          rw [← Option.some.inj e]
          omega
        · have := ds _ k _ _ (by omega) hg e
          omega
    · have q' : ¬ lo < hi := fun z => q (decide_eq_true (by show (lo : Int) < (hi : Int); omega))
      have e : lo = hi := by omega
      subst e
      refine ⟨_, rfl, ?_⟩
      exact k lo ⟨h2, up, dn⟩
theorem sc_lengths_from : FnScope ["numbers", "lengths", "firsts", "number", "length"] ["numbers"] (defScope s_lengths_from) := ⟨rfl, rfl, rfl, by decide +kernel, rfl, by decide +kernel, by decide +kernel⟩
theorem ok_lens (T : Txt K w mg C) : Cal P w K mg base 2 "lengths_from" spLens := by
  have Gcount_above : Cal P w K mg base 1 "count_above" spCount := ok_count T
  refine cal_of T.d_lengths_from sc_lengths_from (fun vs H Q E h => ?_) (fun f cdv A outer s H vs Q E hr h => ?_)
  · obtain ⟨n, ns, rfl, _⟩ := h
    rfl
  · obtain ⟨n, ns, rfl, hn, hl, k⟩ := h
    refine ⟨_, (pss_cons (ps_set (i := 1) sc_lengths_from.nd rfl (Or.inl rfl) (pe_lst pa_nil)) (pss_cons (ps_set (i := 2) sc_lengths_from.nd rfl (Or.inl rfl) (pe_lst pa_nil)) (pss_cons (ps_for PassesOwn.never rfl (pi_reversed (by rfl) T.z_reversed (pa_cons (pv 0) pa_nil)) (pg_name (i := 3) sc_lengths_from.nd rfl (Or.inl rfl)) (pss_cons (ps_set (i := 4) sc_lengths_from.nd rfl (Or.inl rfl) (pe_c Gcount_above hr (by decide) (by rfl) (pa_cons (pv 2) (pa_cons (pv 3) pa_nil)))) (pss_cons (ps_asg (pe_lst (pa_cons (pv 3) pa_nil)) (pg_slc (pv 2) (po_some (pv 4)) (po_some (pe_op op_add (pv 4) pe_int)))) (pss_one (ps_expr (pe_bm PySem.F.plainAttrs_list PySem.F.slot_list_append PySem.F.type_list_append mt_append (pv 1) (pa_cons (pe_op op_add (pv 4) pe_int) pa_nil))))))) (pss_one (ps_ret (pe_revL (pv 1))))))), ?_⟩
    refine ⟨by show 0 ≤ sizeLine; decide, fun l hl1 => ?_⟩
    refine ⟨by show 0 ≤ sizeLine; decide, fun fs hfs => ?_⟩
    have lf : l ≠ fs := fun z => by rw [z, ← z, upd_same] at hfs; cases hfs
    have fsn : H fs = none := by rw [upd_ne lf.symm] at hfs; exact hfs
    have nl : n ≠ l := ne_of_none hn hl1
    have nf : n ≠ fs := ne_of_none hn fsn
    refine ⟨_, rfl, n, _, rfl, SqL.of (by rw [upd_ne nf, upd_ne nl]; exact hn), ?_⟩
    refine for_it (walk_rev (K := K) (a := n) (xs := ns.map V.int)) (fun i σ H' => ∃ (S F : List Int) (y1 y2 : Option V), ns.drop (ns.length - i) = S ∧ Same H H' ∧ H' l = some (.lst (lensV (lisg ltI S).reverse)) ∧ H' fs = some (.lst (F.map V.int)) ∧ Fst (lisg ltI S) F ∧ σ = [some (.ref n), some (.ref l), some (.ref fs), y1, y2])
      ⟨[], [], none, none, (by rw [Nat.sub_zero, List.drop_length]), (Sm.new hl1).trans (Sm.new hfs), (by rw [upd_ne lf, upd_same]; rfl), upd_same, Fst.nil, rfl⟩ (fun i σ H' _ ⟨S, F, y1, y2, _, s1, _⟩ => SqL.of (s1 _ _ hn)) ?_ ?_
    · rintro i x σ H1 H2 hi ⟨S, F, y1, y2, eS, s1, h1, h2, P1, rfl⟩ ⟨rfl, hx⟩
      have hi' : i < ns.length := by rw [List.length_map] at hi; exact hi
      have hk : ns.length - 1 - i < ns.length := by omega
      have ex : x = .int ns[ns.length - 1 - i] := by
        rw [List.length_map, List.getElem?_map, List.getElem?_eq_getElem hk] at hx
        exact (Option.some.inj hx).symm
      subst ex
      have eS2 : ns.drop (ns.length - (i + 1)) = ns[ns.length - 1 - i] :: S := by
        rw [← eS]
        have e1 : ns.length - (i + 1) = ns.length - 1 - i := by omega
        have e2 : ns.length - i = ns.length - 1 - i + 1 := by omega
        rw [e1, e2]
        exact List.drop_eq_getElem_cons hk
      generalize ns[ns.length - 1 - i] = z at eS2
      have hS : S.length = i := by rw [← eS, List.length_drop]; omega
      have hF : F.length ≤ i := by
        rcases Nat.eq_zero_or_pos F.length with q | q
        · omega
        · have h3 := List.getElem?_eq_getElem (show F.length - 1 < F.length by omega)
          obtain ⟨e, he, _, h4⟩ := P1.ex _ _ h3
          obtain ⟨r, r1, _, r3⟩ := row_ex he ltI_tr
          have := r1.length_le
          rw [List.length_cons] at this
          omega
      refine ⟨_, rfl, _, rfl, fs, F, z, rfl, h2, P1.ds, by omega, fun c Cn => ?_⟩
      have ec := P1.cnt Cn
      refine ⟨_, rfl, by show 1 ≤ sizeLine; decide, fun q hq => ?_⟩
      have lq : l ≠ q := ne_of_none h1 hq
      have fq : fs ≠ q := ne_of_none h2 hq
      refine ⟨_, rfl, _, rfl, _, rfl, _, rfl, _, _, rfl, rfl, _, rfl, fs, q, _, _, c, c + 1, rfl, rfl, rfl, rfl, (by rw [upd_ne fq]; exact h2), upd_same, fq, (by rw [List.length_map]; exact Cn.le), Nat.le_succ _, ?_, ?_⟩
      · rw [List.length_map]
        show F.length + 1 ≤ sizeLine
        have : 1000 < sizeLine := by decide
        omega
      · have lfs : l ≠ fs := by
          obtain ⟨y, hy⟩ : ∃ y, y = H2 := ⟨_, rfl⟩
          exact lf
        refine ⟨_, rfl, .inl ⟨rfl, _, SqL.of (by rw [upd_ne lf, upd_ne lq]; exact h1)⟩, _, rfl, _, _, rfl, rfl, l, _, _, rfl, rfl, (by rw [upd_ne lf, upd_ne lq]; exact h1), ?_, ?_⟩
        · unfold lensV
          rw [List.length_map, List.length_reverse, lisg_len, hS]
          exact small1000 (by omega)
        · refine ⟨z :: S, putN F c z, _, _, eS2, fun b o e => ?_, ?_, ?_, ?_, rfl⟩
          · rw [upd_ne (ne_of_none e hl1), upd_ne (ne_of_none e fsn), upd_ne (ne_of_none (s1 _ _ e) hq)]
            exact s1 _ _ e
          · rw [upd_same]
            show some (HO.lst (_ ++ [_])) = _
            unfold lensV
            show _ = some (HO.lst ((((z, mxg ltI z (lisg ltI S) + 1) :: lisg ltI S).reverse).map _))
            rw [List.reverse_cons, List.map_append, ← ec]
            rfl
          · rw [upd_ne lf.symm, upd_same]
            unfold putN
            rw [List.map_append, List.map_append, List.map_take, List.map_drop]
            rfl
          · show Fst ((z, mxg ltI z (lisg ltI S) + 1) :: lisg ltI S) _
            rw [← ec]
            exact P1.put Cn
    · rintro σ H1 ⟨S, F, y1, y2, eS, s1, h1, h2, P1, rfl⟩
      rw [List.length_map, Nat.sub_self, List.drop_zero] at eS
      subst eS
      refine ⟨_, rfl, l, _, rfl, SqL.of h1, fun p hp => ?_⟩
      refine k p _ (s1.trans (Sm.new hp)) (s1.free hp) ?_
      rw [upd_same]
      unfold lensV
      rw [List.map_reverse, List.reverse_reverse]
theorem atI_last {α : Type} {xs : List α} {x : α} : atI (xs ++ [x]) (-1) = some x := by
  unfold atI ixN
  rw [if_neg (by decide), if_pos (by rw [List.length_append]; simp; omega)]
  show (xs ++ [x])[_]? = _
  have e : (-1 + ((xs ++ [x]).length : Int)).toNat = xs.length := by rw [List.length_append]; simp; omega
  rw [e]
  simp
theorem best_is {L : Ln} {m : Int} (h1 : m ∈ L.map fun e => (e.2 : Int)) (h2 : ∀ y ∈ L.map (fun e => (e.2 : Int)), y ≤ m) : m = (bestL L : Int) := by
  obtain ⟨e, he, rfl⟩ := List.mem_map.mp h1
  have h3 := bestL_le he
  rcases bestL_ex (L := L) with z | ⟨f, hf, z⟩
  · omega
  · have := h2 _ (List.mem_map.mpr ⟨f, hf, rfl⟩)
    omega
theorem sc_best_row : FnScope ["numbers", "lengths", "row", "missing", "number", "length"] ["numbers"] (defScope s_best_row) := ⟨rfl, rfl, rfl, by decide +kernel, rfl, by decide +kernel, by decide +kernel⟩
theorem ok_best (T : Txt K w mg C) : Cal P w K mg base 3 "best_row" spBest := by
  have Glengths_from : Cal P w K mg base 2 "lengths_from" spLens := ok_lens T
  refine cal_of T.d_best_row sc_best_row (fun vs H Q E h => ?_) (fun f cdv A outer s H vs Q E hr h => ?_)
  · obtain ⟨n, ns, rfl, _⟩ := h
    rfl
  · obtain ⟨n, ns, rfl, hn, hl, k⟩ := h
    refine ⟨_, (pss_cons (ps_set (i := 1) sc_best_row.nd rfl (Or.inl rfl) (pe_c Glengths_from hr (by decide) (by rfl) (pa_cons (pv 0) pa_nil))) (pss_cons (ps_set (i := 2) sc_best_row.nd rfl (Or.inl rfl) (pe_lst pa_nil)) (pss_cons (ps_set (i := 3) sc_best_row.nd rfl (Or.inl rfl) (pe_callBK (cr_maxDef rfl (Rn.u1 hr)) (by rfl) T.z_max (by decide +kernel) (pa_cons (pv 1) pa_nil) (pk_cons pe_int pk_nil))) (pss_cons (ps_for PassesOwn.never rfl (pi_zip (by rfl) T.z_zip (pa_cons (pv 0) (pa_cons (pv 1) pa_nil))) (pg_tup rfl (pgs_cons (pg_name (i := 4) sc_best_row.nd rfl (Or.inl rfl)) (pgs_cons (pg_name (i := 5) sc_best_row.nd rfl (Or.inl rfl)) pgs_nil))) (pss_one (ps_if (PW.pt (pw_and (pt_cmpR op_eq (pv 5) (pv 3) (nomark _)) (pw_and1 (PW.pt (pw_or (pt_not (pt_truth (pv 2) (fun _ => rfl))) (pw_or1 (pt_cmpR op_gt (pv 4) (pe_ix ix_list (pv 2) (pe_un un_neg pe_int) (fun _ _ => rfl)) (nomark _)))))))) (pss_cons (ps_expr (pe_bm PySem.F.plainAttrs_list PySem.F.slot_list_append PySem.F.type_list_append mt_append (pv 2) (pa_cons (pv 4) pa_nil))) (pss_one (ps_aug (i := 3) sc_best_row.nd rfl (Or.inl rfl) pe_int ip_sub))) pss_nil))) (pss_one (ps_ret (pv 2))))))), ?_⟩
    refine ⟨_, rfl, n, ns, rfl, hn, hl, fun l H1 s1 nl h1 => ?_⟩
    refine ⟨by show 0 ≤ sizeLine; decide, fun r hr1 => ?_⟩
    have lr : l ≠ r := ne_of_none h1 hr1
    have nr : H r = none := s1.free hr1
    have s2 : Same H (upd H1 r (.lst [])) := s1.trans (Sm.new hr1)
    have h2 : upd H1 r (.lst []) l = some (.lst (lensV (lisg ltI ns))) := by rw [upd_ne lr]; exact h1
    have h3 : upd H1 r (.lst []) r = some (.lst []) := upd_same
    generalize upd H1 r (.lst []) = H2 at s2 h2 h3 ⊢
    have eV : lensV (lisg ltI ns) = ((lisg ltI ns).map fun e => (e.2 : Int)).map V.int := by
      unfold lensV
      rw [List.map_map]
      rfl
    have hL : (lisg ltI ns).length = ns.length := lisg_len ns
    have fst : ∀ i (hi : i < (lisg ltI ns).length), (lisg ltI ns)[i].1 = ns[i]'(by omega) := fun i hi => by
      have : ((lisg ltI ns).map (·.1))[i]? = ns[i]? := by rw [lisg_fst]
      rw [List.getElem?_map, List.getElem?_eq_getElem hi, List.getElem?_eq_getElem (by omega)] at this
      exact Option.some.inj this
    refine ⟨_, rfl, l, (lisg ltI ns).map fun e => (e.2 : Int), 0, rfl, rfl, SqL.of (by rw [← eV]; exact h2), fun e => ?_, fun m hm hall => ?_⟩
    · have em : (0 : Int) = (bestL (lisg ltI ns) : Int) := by
        rw [List.map_eq_nil_iff.mp e]
        rfl
      refine ⟨_, rfl, _, rfl, n, l, _, _, rfl, SqL.of (s2 _ _ hn), SqL.of h2, ?_⟩
      refine for_it (walk_zip (K := K) (n := ns.length) (a := n) (b := l) (xs := ns.map V.int) (ys := lensV (lisg ltI ns)) (by unfold lensV; rw [List.length_map, List.length_map, hL, Nat.min_self])) (fun i σ H' => ∃ (rw_ : List Int) (mi : Nat) (y1 y2 : Option V), Same H H' ∧ H' l = some (.lst (lensV (lisg ltI ns))) ∧ H' r = some (.lst (rw_.map V.int)) ∧ rw_.length ≤ i ∧ grd none (bestL (lisg ltI ns)) (lisg ltI ns) = rw_ ++ grd rw_.getLast? mi ((lisg ltI ns).drop i) ∧ σ = [some (.ref n), some (.ref l), some (.ref r), some (.int (mi : Int)), y1, y2])
        ⟨[], bestL (lisg ltI ns), none, none, s2, h2, h3, Nat.le_refl _, rfl, (by rw [← em]; rfl)⟩ (fun i σ H' _ ⟨_, _, _, _, s3, h4, _⟩ => ⟨SqL.of (s3 _ _ hn), SqL.of h4⟩) ?_ ?_
      · rintro i x σ H3 H4 hi ⟨rw_, mi, y1, y2, s3, h4, h5, hlen, hg, rfl⟩ ⟨T_, x1, x2, rfl, nT, rfl, hx1, hx2⟩
        have hiL : i < (lisg ltI ns).length := by omega
        have hx1 : (ns.map V.int)[i]? = some x1 := hx1
        have hx2 : (lensV (lisg ltI ns))[i]? = some x2 := hx2
        have ex1 : x1 = .int (lisg ltI ns)[i].1 := by
          rw [List.getElem?_map, List.getElem?_eq_getElem hi] at hx1
          rw [fst i hiL]
          exact (Option.some.inj hx1).symm
        have ex2 : x2 = .int ((lisg ltI ns)[i].2 : Int) := by
          unfold lensV at hx2
          rw [List.getElem?_map, List.getElem?_eq_getElem hiL] at hx2
          exact (Option.some.inj hx2).symm
        subst ex1
        subst ex2
        have dr : (lisg ltI ns).drop i = (lisg ltI ns)[i] :: (lisg ltI ns).drop (i + 1) := List.drop_eq_getElem_cons hiL
        have pos : 1 ≤ (lisg ltI ns)[i].2 := lisg_pos (List.getElem_mem hiL)
        generalize (lisg ltI ns)[i] = e at dr pos
        rw [dr] at hg
        have hg' : grd none (bestL (lisg ltI ns)) (lisg ltI ns) = rw_ ++ if e.2 = mi ∧ okL rw_.getLast? e.1 = true then e.1 :: grd (some e.1) (mi - 1) ((lisg ltI ns).drop (i + 1)) else grd rw_.getLast? mi ((lisg ltI ns).drop (i + 1)) := hg
        have Tr : r ≠ T_ := ne_of_none h5 nT
        have Tl : l ≠ T_ := ne_of_none h4 nT
        have s4 : Same H (upd H3 T_ (.tup [.int e.1, .int (e.2 : Int)])) := s3.trans (Sm.new nT)
        refine ⟨_, _, rfl, SqT.of upd_same, rfl, _, _, rfl, _, _, rfl, rfl, ?_⟩
        have h4' : upd H3 T_ (.tup [.int e.1, .int (e.2 : Int)]) l = some (.lst (lensV (lisg ltI ns))) := by rw [upd_ne Tl]; exact h4
        have h5' : upd H3 T_ (.tup [.int e.1, .int (e.2 : Int)]) r = some (.lst (rw_.map V.int)) := by rw [upd_ne Tr]; exact h5
        generalize upd H3 T_ (.tup [.int e.1, .int (e.2 : Int)]) = H5 at s4 h4' h5' ⊢
        refine ⟨_, rfl, _, rfl, rfl, _, rfl, ?_⟩
        refine ite2 (fun q => ?_) (fun q => ?_)
        · have q1 : e.2 = mi := by
            have := of_decide_eq_true q
            injection this with this
            omega
          -- taken
          have take : okL rw_.getLast? e.1 = true → (∃ (rw_2 : List Int) (mi_2 : Nat), grd none (bestL (lisg ltI ns)) (lisg ltI ns) = rw_2 ++ grd rw_2.getLast? mi_2 ((lisg ltI ns).drop (i + 1)) ∧ rw_2 = rw_ ++ [e.1] ∧ mi_2 = mi - 1) := fun ok => ⟨rw_ ++ [e.1], mi - 1, by
            rw [hg', if_pos ⟨q1, ok⟩, List.getLast?_append, List.append_assoc]
            rfl, rfl, rfl⟩
          have body : okL rw_.getLast? e.1 = true → (H5 r = some (.lst (rw_.map V.int)) ∧ (rw_.map V.int).length < sizeLine ∧ ∃ (rw_2 : List Int) (mi_2 : Nat) (y1 y2 : Option V), Same H (upd H5 r (.lst (rw_.map V.int ++ [.int e.1]))) ∧ upd H5 r (.lst (rw_.map V.int ++ [.int e.1])) l = some (.lst (lensV (lisg ltI ns))) ∧ upd H5 r (.lst (rw_.map V.int ++ [.int e.1])) r = some (.lst (rw_2.map V.int)) ∧ rw_2.length ≤ i + 1 ∧ grd none (bestL (lisg ltI ns)) (lisg ltI ns) = rw_2 ++ grd rw_2.getLast? mi_2 ((lisg ltI ns).drop (i + 1)) ∧ [some (V.ref n), some (.ref l), some (.ref r), some (.int ((mi : Int) - 1)), some (.int e.1), some (.int (e.2 : Int))] = [some (.ref n), some (.ref l), some (.ref r), some (.int (mi_2 : Int)), y1, y2]) := fun ok => by
            obtain ⟨rw2, mi2, g1, rfl, rfl⟩ := take ok
            refine ⟨h5', by rw [List.length_map]; exact small1000 (by omega), rw_ ++ [e.1], mi - 1, some (.int e.1), some (.int (e.2 : Int)), fun b o z => by rw [upd_ne (ne_of_none z nr)]; exact s4 _ _ z, by rw [upd_ne lr]; exact h4', by rw [upd_same, List.map_append]; rfl, by rw [List.length_append]; exact Nat.succ_le_succ hlen, g1, ?_⟩
            have : (mi : Int) - 1 = ((mi - 1 : Nat) : Int) := by omega
            rw [this]
          refine ⟨_, rfl, !(rw_.map V.int).isEmpty, .inl ⟨_, SqL.of h5', rfl⟩, ?_⟩
          refine ite2 (fun z => ?_) (fun z => ?_)
          · have er : rw_ = [] := by
              cases rw_ with
              | nil => rfl
              | cons a b => exact absurd z (by simp)
            obtain ⟨b1, b2, b3⟩ := body (by rw [er]; rfl)
            refine iteT ?_
            refine ⟨_, rfl, .inl ⟨rfl, _, SqL.of b1⟩, _, rfl, r, _, _, rfl, rfl, b1, b2, ?_⟩
            exact ⟨_, rfl, _, _, rfl, rfl, b3⟩
          · obtain ⟨ys, y, er⟩ : ∃ ys y, rw_ = ys ++ [y] := by
              rcases List.eq_nil_or_concat rw_ with h | ⟨ys, y, h⟩
              · rw [h] at z
                exact absurd rfl z
              · exact ⟨ys, y, by rw [h, List.concat_eq_append]⟩
            have hat : atI (rw_.map V.int) (-1) = some (.int y) := by
              rw [er, List.map_append]
              exact atI_last
            have ol : okL rw_.getLast? e.1 = decide (y < e.1) := by
              rw [er, List.getLast?_append]
              rfl
            refine ⟨_, rfl, _, rfl, 1, rfl, r, _, _, _, rfl, rfl, SqL.of h5', hat, _, _, rfl, rfl, _, rfl, ?_⟩
            refine ite2 (fun t => ?_) (fun t => ?_)
            · obtain ⟨b1, b2, b3⟩ := body (ol.trans t)
              refine ⟨_, rfl, .inl ⟨rfl, _, SqL.of b1⟩, _, rfl, r, _, _, rfl, rfl, b1, b2, ?_⟩
              exact ⟨_, rfl, _, _, rfl, rfl, b3⟩
            · refine ⟨rw_, mi, _, _, s4, h4', h5', Nat.le_succ_of_le hlen, ?_, rfl⟩
              rw [hg', if_neg (fun w => t (ol.symm.trans w.2))]
        · have q1 : ¬ e.2 = mi := fun w => q (by rw [w]; exact decide_eq_true rfl)
          refine iteF ?_
          refine ⟨rw_, mi, _, _, s4, h4', h5', Nat.le_succ_of_le hlen, ?_, rfl⟩
          rw [hg', if_neg (fun w => q1 w.1)]
      · rintro σ H3 ⟨rw_, mi, y1, y2, s3, h4, h5, hlen, hg, rfl⟩
        refine ⟨_, rfl, ?_⟩
        rw [← hL, List.drop_length] at hg
        have hg2 : grd none (bestL (lisg ltI ns)) (lisg ltI ns) = rw_ := by rw [hg]; exact List.append_nil _
        refine k r H3 s3 nr ?_
        rw [hg2]
        exact h5
    · have em : m = (bestL (lisg ltI ns) : Int) := best_is hm hall
      refine ⟨_, rfl, _, rfl, n, l, _, _, rfl, SqL.of (s2 _ _ hn), SqL.of h2, ?_⟩
      refine for_it (walk_zip (K := K) (n := ns.length) (a := n) (b := l) (xs := ns.map V.int) (ys := lensV (lisg ltI ns)) (by unfold lensV; rw [List.length_map, List.length_map, hL, Nat.min_self])) (fun i σ H' => ∃ (rw_ : List Int) (mi : Nat) (y1 y2 : Option V), Same H H' ∧ H' l = some (.lst (lensV (lisg ltI ns))) ∧ H' r = some (.lst (rw_.map V.int)) ∧ rw_.length ≤ i ∧ grd none (bestL (lisg ltI ns)) (lisg ltI ns) = rw_ ++ grd rw_.getLast? mi ((lisg ltI ns).drop i) ∧ σ = [some (.ref n), some (.ref l), some (.ref r), some (.int (mi : Int)), y1, y2])
        ⟨[], bestL (lisg ltI ns), none, none, s2, h2, h3, Nat.le_refl _, rfl, (by rw [← em]; rfl)⟩ (fun i σ H' _ ⟨_, _, _, _, s3, h4, _⟩ => ⟨SqL.of (s3 _ _ hn), SqL.of h4⟩) ?_ ?_
      · rintro i x σ H3 H4 hi ⟨rw_, mi, y1, y2, s3, h4, h5, hlen, hg, rfl⟩ ⟨T_, x1, x2, rfl, nT, rfl, hx1, hx2⟩
        have hiL : i < (lisg ltI ns).length := by omega
        have hx1 : (ns.map V.int)[i]? = some x1 := hx1
        have hx2 : (lensV (lisg ltI ns))[i]? = some x2 := hx2
        have ex1 : x1 = .int (lisg ltI ns)[i].1 := by
          rw [List.getElem?_map, List.getElem?_eq_getElem hi] at hx1
          rw [fst i hiL]
          exact (Option.some.inj hx1).symm
        have ex2 : x2 = .int ((lisg ltI ns)[i].2 : Int) := by
          unfold lensV at hx2
          rw [List.getElem?_map, List.getElem?_eq_getElem hiL] at hx2
          exact (Option.some.inj hx2).symm
        subst ex1
        subst ex2
        have dr : (lisg ltI ns).drop i = (lisg ltI ns)[i] :: (lisg ltI ns).drop (i + 1) := List.drop_eq_getElem_cons hiL
        have pos : 1 ≤ (lisg ltI ns)[i].2 := lisg_pos (List.getElem_mem hiL)
        generalize (lisg ltI ns)[i] = e at dr pos
        rw [dr] at hg
        have hg' : grd none (bestL (lisg ltI ns)) (lisg ltI ns) = rw_ ++ if e.2 = mi ∧ okL rw_.getLast? e.1 = true then e.1 :: grd (some e.1) (mi - 1) ((lisg ltI ns).drop (i + 1)) else grd rw_.getLast? mi ((lisg ltI ns).drop (i + 1)) := hg
        have Tr : r ≠ T_ := ne_of_none h5 nT
        have Tl : l ≠ T_ := ne_of_none h4 nT
        have s4 : Same H (upd H3 T_ (.tup [.int e.1, .int (e.2 : Int)])) := s3.trans (Sm.new nT)
        refine ⟨_, _, rfl, SqT.of upd_same, rfl, _, _, rfl, _, _, rfl, rfl, ?_⟩
        have h4' : upd H3 T_ (.tup [.int e.1, .int (e.2 : Int)]) l = some (.lst (lensV (lisg ltI ns))) := by rw [upd_ne Tl]; exact h4
        have h5' : upd H3 T_ (.tup [.int e.1, .int (e.2 : Int)]) r = some (.lst (rw_.map V.int)) := by rw [upd_ne Tr]; exact h5
        generalize upd H3 T_ (.tup [.int e.1, .int (e.2 : Int)]) = H5 at s4 h4' h5' ⊢
        refine ⟨_, rfl, _, rfl, rfl, _, rfl, ?_⟩
        refine ite2 (fun q => ?_) (fun q => ?_)
        · have q1 : e.2 = mi := by
            have := of_decide_eq_true q
            injection this with this
            omega
          -- taken
          have take : okL rw_.getLast? e.1 = true → (∃ (rw_2 : List Int) (mi_2 : Nat), grd none (bestL (lisg ltI ns)) (lisg ltI ns) = rw_2 ++ grd rw_2.getLast? mi_2 ((lisg ltI ns).drop (i + 1)) ∧ rw_2 = rw_ ++ [e.1] ∧ mi_2 = mi - 1) := fun ok => ⟨rw_ ++ [e.1], mi - 1, by
            rw [hg', if_pos ⟨q1, ok⟩, List.getLast?_append, List.append_assoc]
            rfl, rfl, rfl⟩
          have body : okL rw_.getLast? e.1 = true → (H5 r = some (.lst (rw_.map V.int)) ∧ (rw_.map V.int).length < sizeLine ∧ ∃ (rw_2 : List Int) (mi_2 : Nat) (y1 y2 : Option V), Same H (upd H5 r (.lst (rw_.map V.int ++ [.int e.1]))) ∧ upd H5 r (.lst (rw_.map V.int ++ [.int e.1])) l = some (.lst (lensV (lisg ltI ns))) ∧ upd H5 r (.lst (rw_.map V.int ++ [.int e.1])) r = some (.lst (rw_2.map V.int)) ∧ rw_2.length ≤ i + 1 ∧ grd none (bestL (lisg ltI ns)) (lisg ltI ns) = rw_2 ++ grd rw_2.getLast? mi_2 ((lisg ltI ns).drop (i + 1)) ∧ [some (V.ref n), some (.ref l), some (.ref r), some (.int ((mi : Int) - 1)), some (.int e.1), some (.int (e.2 : Int))] = [some (.ref n), some (.ref l), some (.ref r), some (.int (mi_2 : Int)), y1, y2]) := fun ok => by
            obtain ⟨rw2, mi2, g1, rfl, rfl⟩ := take ok
            refine ⟨h5', by rw [List.length_map]; exact small1000 (by omega), rw_ ++ [e.1], mi - 1, some (.int e.1), some (.int (e.2 : Int)), fun b o z => by rw [upd_ne (ne_of_none z nr)]; exact s4 _ _ z, by rw [upd_ne lr]; exact h4', by rw [upd_same, List.map_append]; rfl, by rw [List.length_append]; exact Nat.succ_le_succ hlen, g1, ?_⟩
            have : (mi : Int) - 1 = ((mi - 1 : Nat) : Int) := by omega
            rw [this]
          refine ⟨_, rfl, !(rw_.map V.int).isEmpty, .inl ⟨_, SqL.of h5', rfl⟩, ?_⟩
          refine ite2 (fun z => ?_) (fun z => ?_)
          · have er : rw_ = [] := by
              cases rw_ with
              | nil => rfl
              | cons a b => exact absurd z (by simp)
            obtain ⟨b1, b2, b3⟩ := body (by rw [er]; rfl)
            refine iteT ?_
            refine ⟨_, rfl, .inl ⟨rfl, _, SqL.of b1⟩, _, rfl, r, _, _, rfl, rfl, b1, b2, ?_⟩
            exact ⟨_, rfl, _, _, rfl, rfl, b3⟩
          · obtain ⟨ys, y, er⟩ : ∃ ys y, rw_ = ys ++ [y] := by
              rcases List.eq_nil_or_concat rw_ with h | ⟨ys, y, h⟩
              · rw [h] at z
                exact absurd rfl z
              · exact ⟨ys, y, by rw [h, List.concat_eq_append]⟩
            have hat : atI (rw_.map V.int) (-1) = some (.int y) := by
              rw [er, List.map_append]
              exact atI_last
            have ol : okL rw_.getLast? e.1 = decide (y < e.1) := by
              rw [er, List.getLast?_append]
              rfl
            refine ⟨_, rfl, _, rfl, 1, rfl, r, _, _, _, rfl, rfl, SqL.of h5', hat, _, _, rfl, rfl, _, rfl, ?_⟩
            refine ite2 (fun t => ?_) (fun t => ?_)
            · obtain ⟨b1, b2, b3⟩ := body (ol.trans t)
              refine ⟨_, rfl, .inl ⟨rfl, _, SqL.of b1⟩, _, rfl, r, _, _, rfl, rfl, b1, b2, ?_⟩
              exact ⟨_, rfl, _, _, rfl, rfl, b3⟩
            · refine ⟨rw_, mi, _, _, s4, h4', h5', Nat.le_succ_of_le hlen, ?_, rfl⟩
              rw [hg', if_neg (fun w => t (ol.symm.trans w.2))]
        · have q1 : ¬ e.2 = mi := fun w => q (by rw [w]; exact decide_eq_true rfl)
          refine iteF ?_
          refine ⟨rw_, mi, _, _, s4, h4', h5', Nat.le_succ_of_le hlen, ?_, rfl⟩
          rw [hg', if_neg (fun w => q1 w.1)]
      · rintro σ H3 ⟨rw_, mi, y1, y2, s3, h4, h5, hlen, hg, rfl⟩
        refine ⟨_, rfl, ?_⟩
        rw [← hL, List.drop_length] at hg
        have hg2 : grd none (bestL (lisg ltI ns)) (lisg ltI ns) = rw_ := by rw [hg]; exact List.append_nil _
        refine k r H3 s3 nr ?_
        rw [hg2]
        exact h5
end
end VL

set_option Elab.async false
set_option linter.all false
set_option pp.maxSteps 700
set_option maxRecDepth 100000
set_option maxHeartbeats 4000000
/-! nodes that are kept -/
namespace VL
open PySem PySem.Spec PyProof.Rows L2
def TupD (H : Hp) (p : Addr) (kk : List Dn) : Prop := ∃ xs, H p = some (.tup xs) ∧ NdAs H xs kk
theorem TupD.same {H H' : Hp} {p : Addr} {kk : List Dn} (h : TupD H p kk) (s : Same H H') : TupD H' p kk := by
  obtain ⟨xs, h1, h2⟩ := h
  exact ⟨xs, s _ _ h1, h2.same s⟩
def alkD : Dn → Dn → Bool
  | .tx _ _, .tx _ _ => true
  | .el _ t _ _, .el _ t' _ _ => decide (t = t')
  | .tx _ _, .el _ _ _ _ => false
  | .el _ _ _ _, .tx _ _ => false
theorem alkD_symm (d e : Dn) : alkD d e = alkD e d := by
  cases d <;> cases e <;> simp only [alkD]
  exact decide_eq_decide.mpr ⟨fun z => z.symm, fun z => z.symm⟩
def atN (ks : List Dn) (n : Int) : Option Dn := ks.find? fun d => decide (d.num = n)
def parD (ks : List Dn) (d : Dn) : Option Dn := ks.find? fun e => decide (e.num = d.num) && alkD e d
abbrev NumNd (ks : List Dn) : Prop := (ks.map Dn.num).Nodup
theorem atN_mem {ks : List Dn} {n : Int} {d : Dn} (h : atN ks n = some d) : d ∈ ks ∧ d.num = n := by
  have := List.find?_some h
  exact ⟨List.mem_of_find?_eq_some h, of_decide_eq_true this⟩
theorem atN_none {ks : List Dn} {n : Int} : atN ks n = none ↔ n ∉ ks.map Dn.num := by
  unfold atN
  rw [List.find?_eq_none, List.mem_map]
  constructor
  · rintro h ⟨d, hd, e⟩
    exact h d hd (decide_eq_true e)
  · intro h d hd e
    exact h ⟨d, hd, of_decide_eq_true e⟩
theorem num_inj {ks : List Dn} (nd : NumNd ks) {d e : Dn} (hd : d ∈ ks) (he : e ∈ ks) (h : d.num = e.num) : d = e := by
  obtain ⟨i, hi, rfl⟩ := List.getElem_of_mem hd
  obtain ⟨j, hj, rfl⟩ := List.getElem_of_mem he
  have : i = j := by
    refine (List.getElem?_inj (by rw [List.length_map]; exact hi) nd).mp ?_
    rw [List.getElem?_map, List.getElem?_map, List.getElem?_eq_getElem hi, List.getElem?_eq_getElem hj]
    exact congrArg some h
  subst this
  rfl
theorem atN_of {ks : List Dn} (nd : NumNd ks) {d : Dn} (hd : d ∈ ks) : atN ks d.num = some d := by
  cases h : atN ks d.num with
  | none => exact absurd (List.mem_map.mpr ⟨d, hd, rfl⟩) (atN_none.mp h)
  | some e => rw [num_inj nd (atN_mem h).1 hd (atN_mem h).2]
theorem parD_mem {ks : List Dn} {d e : Dn} (h : parD ks d = some e) : e ∈ ks ∧ e.num = d.num ∧ alkD e d = true := by
  have := List.find?_some h
  rw [Bool.and_eq_true] at this
  exact ⟨List.mem_of_find?_eq_some h, of_decide_eq_true this.1, this.2⟩
/-- where numbers differ: the one with the number, if it is alike -/
theorem parD_at {ks : List Dn} (nd : NumNd ks) (d : Dn) : parD ks d = match atN ks d.num with
    | some e => if alkD e d = true then some e else none
    | none => none := by
  cases h : parD ks d with
  | some e =>
    obtain ⟨h1, h2, h3⟩ := parD_mem h
    rw [← h2, atN_of nd h1]
    simp only [h3, if_true]
  | none =>
    cases h2 : atN ks d.num with
    | none => rfl
    | some e =>
      obtain ⟨h3, h4⟩ := atN_mem h2
      unfold parD at h
      rw [List.find?_eq_none] at h
      have := h e h3
      rw [h4] at this
      simp only [decide_true, Bool.true_and] at this
      simp only [this, Bool.false_eq_true, if_false]
/-- both ways -/
theorem parD_both {old new : List Dn} (no : NumNd old) (nn : NumNd new) {d e : Dn} (hd : d ∈ new) (h : parD old d = some e) : parD new e = some d := by
  obtain ⟨h1, h2, h3⟩ := parD_mem h
  rw [parD_at nn, h2, atN_of nn hd]
  simp only [show alkD d e = true by rw [alkD_symm]; exact h3, if_true]
/-- the old one of a kept number -/
def kepO (old new : List Dn) (n : Int) : Option Dn := (atN new n).bind (parD old)
theorem kepO_new {old new : List Dn} (nn : NumNd new) {d : Dn} (hd : d ∈ new) : kepO old new d.num = parD old d := by
  unfold kepO
  rw [atN_of nn hd]
  rfl
theorem kepO_old {old new : List Dn} (no : NumNd old) (nn : NumNd new) {d : Dn} (hd : d ∈ old) : kepO old new d.num = (parD new d).map fun _ => d := by
  unfold kepO
  rw [parD_at nn d]
  cases h : atN new d.num with
  | none => rfl
  | some e =>
    obtain ⟨h1, h2⟩ := atN_mem h
    show parD old e = _
    rw [parD_at no, h2, atN_of no hd]
    show (if alkD d e = true then some d else none) = Option.map (fun _ => d) (if alkD e d = true then some e else none)
    rw [alkD_symm d e]
    split <;> rfl
/-- a dict by numbers -/
def IdxA (H : Hp) (kvs : List (Key × V)) (f : Int → Option Dn) : Prop := ∀ n : Int, match f n with
  | none => valV kvs (Sum.inl n : Key) = none
  | some d => ∃ v, valV kvs (Sum.inl n : Key) = some v ∧ NdA H v d
theorem IdxA.same {H H' : Hp} {kvs : List (Key × V)} {f : Int → Option Dn} (h : IdxA H kvs f) (s : Same H H') : IdxA H' kvs f := fun n => by
  have := h n
  cases e : f n with
  | none =>
    rw [e] at this
    exact this
  | some d =>
    rw [e] at this
    obtain ⟨v, h1, h2⟩ := this
    exact ⟨v, h1, h2.same s⟩
theorem IdxA.no {H : Hp} {kvs : List (Key × V)} {f : Int → Option Dn} {n : Int} (h : IdxA H kvs f) (e : f n = none) : valV kvs (Sum.inl n : Key) = none := by
  have := h n
  rw [e] at this
  exact this
theorem IdxA.yes {H : Hp} {kvs : List (Key × V)} {f : Int → Option Dn} {n : Int} {d : Dn} (h : IdxA H kvs f) (e : f n = some d) : ∃ v, valV kvs (Sum.inl n : Key) = some v ∧ NdA H v d := by
  have := h n
  rw [e] at this
  exact this
theorem IdxA.put {H : Hp} {kvs : List (Key × V)} {f g : Int → Option Dn} {n : Int} {v : V} {d : Dn} (h : IdxA H kvs f) (hv : NdA H v d) (hn : g n = some d) (ho : ∀ m, m ≠ n → g m = f m) : IdxA H (putK kvs (Sum.inl n : Key) v) g := fun m => by
  rw [valV_put]
  by_cases e : m = n
  · subst e
    rw [hn, if_pos rfl]
    exact ⟨v, rfl, hv⟩
  · rw [if_neg (fun z => e (Sum.inl.inj z)), ho m e]
    exact h m
theorem IdxA.congr {H : Hp} {kvs : List (Key × V)} {f g : Int → Option Dn} (h : IdxA H kvs f) (e : ∀ n, f n = g n) : IdxA H kvs g := fun n => by
  rw [← e n]
  exact h n
theorem atN_snoc {ks : List Dn} {d : Dn} (h : d.num ∉ ks.map Dn.num) : atN (ks ++ [d]) d.num = some d ∧ ∀ m, m ≠ d.num → atN (ks ++ [d]) m = atN ks m := by
  unfold atN
  refine ⟨?_, fun m hm => ?_⟩
  · rw [List.find?_append]
    have := atN_none.mpr h
    unfold atN at this
    rw [this]
    simp
  · rw [List.find?_append]
    have : [d].find? (fun e => decide (e.num = m)) = none := by
      rw [List.find?_cons_of_neg (by simpa using fun z => hm z.symm)]
      rfl
    rw [this, Option.or_none]
/-- numbers of a row, one more -/
theorem nd_take {ks : List Dn} (nd : NumNd ks) {j : Nat} {d : Dn} (h : ks[j]? = some d) : d.num ∉ (ks.take j).map Dn.num := by
  have e : ks.take (j + 1) = ks.take j ++ [d] := by rw [List.take_add_one, h]; rfl
  have : ((ks.take (j + 1)).map Dn.num).Nodup := by
    rw [List.map_take]
    exact (List.take_sublist _ _).nodup nd
  rw [e, List.map_append, List.nodup_append] at this
  intro z
  exact this.2.2 _ z _ (by simp) rfl
end VL

set_option Elab.async false
set_option linter.all false
set_option pp.maxSteps 700
set_option maxRecDepth 100000
set_option maxHeartbeats 4000000
namespace VL
open PySem PySem.Spec PyProof.Rows L2
def intV : Option Int → V
  | none => .non
  | some m => .int m
inductive OpD where
  | rem (p n : Int)
  | ins (p : Int) (d : Dn) (ah : Option Int)
  | mov (p n : Int) (ah : Option Int)
  | txt (n : Int) (x : Str)
  | set (n : Int) (k x : Str)
  | uns (n : Int) (k : Str)
def wordD : OpD → Str
  | .rem _ _ => "remove"
  | .ins _ _ _ => "insert"
  | .mov _ _ _ => "move"
  | .txt _ _ => "text"
  | .set _ _ _ => "set"
  | .uns _ _ => "unset"
inductive OpA (H : Hp) : V → OpD → Prop
  | rem {a : Addr} {p n : Int} : H a = some (.tup [.str "remove", .int p, .int n]) → OpA H (.ref a) (.rem p n)
  | ins {a : Addr} {p : Int} {u : V} {d : Dn} {ah : Option Int} : H a = some (.tup [.str "insert", .int p, u, intV ah]) → NdA H u d → OpA H (.ref a) (.ins p d ah)
  | mov {a : Addr} {p n : Int} {ah : Option Int} : H a = some (.tup [.str "move", .int p, .int n, intV ah]) → OpA H (.ref a) (.mov p n ah)
  | txt {a : Addr} {n : Int} {x : Str} : H a = some (.tup [.str "text", .int n, .str x]) → OpA H (.ref a) (.txt n x)
  | set {a : Addr} {n : Int} {k x : Str} : H a = some (.tup [.str "set", .int n, .str k, .str x]) → OpA H (.ref a) (.set n k x)
  | uns {a : Addr} {n : Int} {k : Str} : H a = some (.tup [.str "unset", .int n, .str k]) → OpA H (.ref a) (.uns n k)
theorem OpA.same {H H' : Hp} {v : V} {o : OpD} (h : OpA H v o) (s : Same H H') : OpA H' v o := by
  cases h with
  | rem h => exact .rem (s _ _ h)
  | ins h hd => exact .ins (s _ _ h) (hd.same s)
  | mov h => exact .mov (s _ _ h)
  | txt h => exact .txt (s _ _ h)
  | set h => exact .set (s _ _ h)
  | uns h => exact .uns (s _ _ h)
theorem OpA.sames {H H' : Hp} {us : List V} {os : List OpD} (s : Same H H') (h : Paired (OpA H) us os) : Paired (OpA H') us os := Paired.mono (fun _ _ h => h.same s) h
mutual
def kepN (old : List Dn) : Dn → List Int
  | .tx n x => match parD old (.tx n x) with
    | none => []
    | some _ => [n]
  | .el n t as ks => match parD old (.el n t as ks) with
    | none => []
    | some e => n :: kepS e.kids ks
def kepS (old : List Dn) : List Dn → List Int
  | [] => []
  | d :: r => kepN old d ++ kepS old r
end
theorem kepN_eq (old : List Dn) (d : Dn) : kepN old d = match parD old d with
    | none => []
    | some e => d.num :: kepS e.kids d.kids := by
  cases d with
  | tx n x =>
    simp only [kepN, Dn.kids, Dn.num]
    cases parD old (.tx n x) with
    | none => rfl
    | some e => simp only [kepS]
  | el n t as ks =>
    simp only [kepN, Dn.kids, Dn.num]
theorem kepS_map (old : List Dn) : ∀ ks : List Dn, kepS old ks = ks.flatMap (kepN old)
  | [] => by simp only [kepS, List.flatMap_nil]
  | d :: r => by simp only [kepS, List.flatMap_cons, kepS_map old r]
mutual
def remN (par : Int) (new : List Dn) : Dn → List OpD
  | .tx n x => match parD new (.tx n x) with
    | none => [.rem par n]
    | some _ => []
  | .el n t as ks => match parD new (.el n t as ks) with
    | none => [.rem par n]
    | some e => remS n e.kids ks
def remS (par : Int) (new : List Dn) : List Dn → List OpD
  | [] => []
  | d :: r => remN par new d ++ remS par new r
end
theorem remN_eq (par : Int) (new : List Dn) (d : Dn) : remN par new d = match parD new d with
    | none => [.rem par d.num]
    | some e => remS d.num e.kids d.kids := by
  cases d with
  | tx n x =>
    simp only [remN, Dn.kids, Dn.num]
    cases parD new (.tx n x) with
    | none => rfl
    | some e => simp only [remS]
  | el n t as ks =>
    simp only [remN, Dn.kids, Dn.num]
theorem remS_map (par : Int) (new : List Dn) : ∀ ks : List Dn, remS par new ks = ks.flatMap (remN par new)
  | [] => by simp only [remS, List.flatMap_nil]
  | d :: r => by simp only [remS, List.flatMap_cons, remS_map par new r]
def ownD : Dn → Dn → List OpD
  | .tx _ x, .tx n y => if x = y then [] else [.txt n y]
  | .el _ _ as _, .el n _ bs _ => ((as.filter fun p => decide (p.1 ∉ bs.map (·.1))).map fun p => OpD.uns n p.1) ++ ((bs.filter fun p => decide (p ∉ as)).map fun p => OpD.set n p.1 p.2)
  | _, _ => []
def keptL (old new : List Dn) : List Int := (old.filter fun d => (parD new d).isSome).map Dn.num
def bestR (ns : List Int) : List Int := grd none (bestL (lisg ltI ns)) (lisg ltI ns)
def ixL (kept : List Int) (n : Int) : Int := (kept.idxOf n : Int)
def rowL (kept : List Int) (new : List Dn) : List Int := (new.filter fun d => decide (d.num ∈ kept)).map fun d => ixL kept d.num
def plcF (kept stay : List Int) (par : Int) (d : Dn) (ah : Option Int) : List OpD :=
  if d.num ∈ kept then (if ixL kept d.num ∈ stay then [] else [.mov par d.num ah]) else [.ins par d ah]
def plcA (kept : List Int) (par : Int) (new : List Dn) (k : Nat) : List OpD := match new[new.length - 1 - k]? with
  | none => []
  | some d => plcF kept (bestR (rowL kept new)) par d ((new[new.length - k]?).map Dn.num)
def plcS (kept : List Int) (par : Int) (new : List Dn) : List OpD := (List.range new.length).flatMap (plcA kept par new)
mutual
def chgN (new : List Dn) : Dn → List OpD
  | .tx n x => match parD new (.tx n x) with
    | none => []
    | some e => ownD (.tx n x) e ++ plcS [] n e.kids
  | .el n t as ks => match parD new (.el n t as ks) with
    | none => []
    | some e => ownD (.el n t as ks) e ++ (chgM e.kids ks ++ plcS (keptL ks e.kids) n e.kids)
def chgM (new : List Dn) : List Dn → List OpD
  | [] => []
  | d :: r => chgN new d ++ chgM new r
end
def chgS (par : Int) (new old : List Dn) : List OpD := chgM new old ++ plcS (keptL old new) par new
theorem chgN_eq (new : List Dn) (d : Dn) : chgN new d = match parD new d with
    | none => []
    | some e => ownD d e ++ chgS d.num e.kids d.kids := by
  cases d with
  | tx n x =>
    simp only [chgN, Dn.kids, Dn.num, chgS, chgM, keptL, List.filter_nil, List.map_nil, List.nil_append]
  | el n t as ks =>
    simp only [chgN, Dn.kids, Dn.num, chgS]
theorem chgM_map (new : List Dn) : ∀ ks : List Dn, chgM new ks = ks.flatMap (chgN new)
  | [] => by simp only [chgM, List.flatMap_nil]
  | d :: r => by simp only [chgM, List.flatMap_cons, chgM_map new r]
def patD (old new : List Dn) : List OpD := remS 0 new old ++ chgS 0 new old
theorem at_2 {x y z : V} {ys : List V} : atI (x :: y :: z :: ys) 2 = some z := by
  unfold atI ixN
  rw [if_pos (by decide), if_pos (by simp only [List.length_cons]; omega)]
  rfl
/-! ### documents -/
def NmOk (d : Dn) : Prop := (namD d).Nodup ∧ (namD d).length ≤ 100
structure Dok (ks : List Dn) : Prop where
  nd : (numS ks).Nodup
  len : (numS ks).length ≤ 400
  nm : AllS NmOk ks
theorem num_head (d : Dn) : d.num ∈ numN d := by cases d <;> simp [numN, Dn.num]
theorem numS_subl : ∀ ks : List Dn, (ks.map Dn.num).Sublist (numS ks)
  | [] => List.nil_sublist _
  | d :: r => by
    simp only [numS, List.map_cons]
    have h1 : [d.num].Sublist (numN d) := List.singleton_sublist.mpr (num_head d)
    exact h1.append (numS_subl r)
theorem Dok.top {ks : List Dn} (h : Dok ks) : NumNd ks := (numS_subl ks).nodup h.nd
theorem numN_kids (d : Dn) : (numS d.kids).Sublist (numN d) := by
  cases d with
  | tx n x => exact List.nil_sublist _
  | el n t as ks =>
    simp only [numN, Dn.kids]
    exact List.sublist_cons_self _ _
theorem numS_mem : ∀ {ks : List Dn} {d : Dn}, d ∈ ks → (numN d).Sublist (numS ks)
  | e :: r, d, h => by
    simp only [numS]
    rcases List.mem_cons.mp h with rfl | h
    · exact List.sublist_append_left _ _
    · exact (numS_mem h).trans (List.sublist_append_right _ _)
theorem AllS_iff {P : Dn → Prop} : ∀ {ks : List Dn}, AllS P ks ↔ ∀ d ∈ ks, AllD P d
  | [] => by simp [AllS]
  | d :: r => by
    simp only [AllS, List.mem_cons, forall_eq_or_imp]
    exact and_congr_right fun _ => AllS_iff
theorem AllD.own {P : Dn → Prop} {d : Dn} (h : AllD P d) : P d := by
  cases d with
  | tx n x => exact h
  | el n t as ks =>
    simp only [AllD] at h
    exact h.1
theorem AllD.kids {P : Dn → Prop} {d : Dn} (h : AllD P d) : AllS P d.kids := by
  cases d with
  | tx n x => trivial
  | el n t as ks =>
    simp only [AllD] at h
    exact h.2
theorem Dok.kids {ks : List Dn} {d : Dn} (h : Dok ks) (hd : d ∈ ks) : Dok d.kids :=
  ⟨((numN_kids d).trans (numS_mem hd)).nodup h.nd, Nat.le_trans ((numN_kids d).trans (numS_mem hd)).length_le h.len, (AllS_iff.mp h.nm d hd).kids⟩
theorem Dok.own {ks : List Dn} {d : Dn} (h : Dok ks) (hd : d ∈ ks) : NmOk d := (AllS_iff.mp h.nm d hd).own
theorem Dok.short {ks : List Dn} (h : Dok ks) : ks.length ≤ 400 := by
  have := (numS_subl ks).length_le
  rw [List.length_map] at this
  exact Nat.le_trans this h.len
end VL

set_option Elab.async false
set_option linter.all false
set_option pp.maxSteps 700
set_option maxRecDepth 100000
set_option maxHeartbeats 4000000
namespace VL
open PySem PySem.Spec PyProof.Rows L2
def spAlike : Sp := fun vs H Q _ => ∃ (u v : V) (d e : Dn), vs = [u, v] ∧ NdA H u d ∧ NdA H v e ∧ Q (.bl (alkD d e)) H
def spPart : Sp := fun vs H Q _ => ∃ (a b : Addr) (old new : List Dn) (G : Hp) (M : List (Addr × HO)), vs = [.ref a, .ref b] ∧ Sb G H M ∧ TupD G a old ∧ TupD G b new ∧ Dok old ∧ Dok new ∧ ∀ p G' H' kvs, Sb G' H' M → Same G G' → G' p = some (.dK kvs) → IdxA G' kvs (kepO old new) → Q (.ref p) H'
theorem length_putK' (kvs : List (Key × V)) (k : Key) (v : V) : (putK kvs k v).length ≤ kvs.length + 1 := by
  unfold putK
  split
  · rw [List.length_map]
    omega
  · rw [List.length_append, List.length_singleton]
    exact Nat.le_refl _
section
variable {P : Program} {w : World} {K : PySem.W.Frag} {mg : Str → Option Value} {base : Heap} {C : Ad}
theorem sc_are_alike : FnScope ["old", "new"] ["old", "new"] (defScope s_are_alike) := ⟨rfl, rfl, rfl, by decide +kernel, rfl, by decide +kernel, by decide +kernel⟩
theorem ok_alike (T : Txt K w mg C) : Cal P w K mg base 1 "are_alike" spAlike := by
  refine cal_of T.d_are_alike sc_are_alike (fun vs H Q E h => ?_) (fun f cdv A outer s H vs Q E hr h => ?_)
  · obtain ⟨u, v, d, e, rfl, _⟩ := h
    rfl
  · obtain ⟨u, v, d, e, rfl, hd, he, q⟩ := h
    refine ⟨_, (pss_one (ps_ret (pe_and (pe_cmpR op_eq (pe_ix ix_tup (pv 0) pe_int (fun _ _ => rfl)) (pe_ix ix_tup (pv 1) pe_int (fun _ _ => rfl)) (nomark _)) (pe_one (pe_or (pe_cmpR op_eq (pe_ix ix_tup (pv 0) pe_int (fun _ _ => rfl)) pe_str (nomark _)) (pe_one (pe_cmpR op_eq (pe_ix ix_tup (pv 0) pe_int (fun _ _ => rfl)) (pe_ix ix_tup (pv 1) pe_int (fun _ _ => rfl)) (nomark _)))))))), ?_⟩
    have tt : decide (V.str ("text" : Str) = V.str "text") = true := by decide
    have ee : decide (V.str ("element" : Str) = V.str "element") = true := by decide
    have te : ¬ decide (V.str ("text" : Str) = V.str "element") = true := by decide
    have et : ¬ decide (V.str ("element" : Str) = V.str "text") = true := by decide
    cases hd with
    | @tx b1 n1 x1 h1 =>
      cases he with
      | @tx b2 n2 x2 h2 =>
        exact ⟨_, rfl, b1, _, _, _, rfl, rfl, SqT.of h1, at_0, _, rfl, b2, _, _, _, rfl, rfl, SqT.of h2, at_0, rfl, _, rfl, ite2 (fun _ => ⟨_, rfl, b1, _, _, _, rfl, rfl, SqT.of h1, at_0, rfl, _, rfl, ite2 (fun _ => q) (fun c => absurd tt c)⟩) (fun c => absurd tt c)⟩
      | @el b2 pk2 n2 t2 va2 as2 vs2 ks2 h2 hA2 hk2 hs2 =>
        exact ⟨_, rfl, b1, _, _, _, rfl, rfl, SqT.of h1, at_0, _, rfl, b2, _, _, _, rfl, rfl, SqT.of h2, at_0, rfl, _, rfl, ite2 (fun c => absurd c te) (fun _ => q)⟩
    | @el b1 pk1 n1 t1 va1 as1 vs1 ks1 h1 hA1 hk1 hs1 =>
      cases he with
      | @tx b2 n2 x2 h2 =>
        exact ⟨_, rfl, b1, _, _, _, rfl, rfl, SqT.of h1, at_0, _, rfl, b2, _, _, _, rfl, rfl, SqT.of h2, at_0, rfl, _, rfl, ite2 (fun c => absurd c et) (fun _ => q)⟩
      | @el b2 pk2 n2 t2 va2 as2 vs2 ks2 h2 hA2 hk2 hs2 =>
        refine ⟨_, rfl, b1, _, _, _, rfl, rfl, SqT.of h1, at_0, _, rfl, b2, _, _, _, rfl, rfl, SqT.of h2, at_0, rfl, _, rfl, ite2 (fun _ => ⟨_, rfl, b1, _, _, _, rfl, rfl, SqT.of h1, at_0, rfl, _, rfl, ite2 (fun c => absurd c et) (fun _ => ⟨_, rfl, b1, _, _, _, rfl, rfl, SqT.of h1, at_2, _, rfl, b2, _, _, _, rfl, rfl, SqT.of h2, at_2, rfl, ?_⟩)⟩) (fun c => absurd ee c)⟩
        have : decide (V.str t1 = V.str t2) = alkD (.el n1 t1 as1 ks1) (.el n2 t2 as2 ks2) := decide_eq_decide.mpr ⟨fun z => V.str.inj z, fun z => by rw [z]⟩
        rw [this]
        exact q
theorem sc_partners_of : FnScope ["old", "new", "there", "node"] ["old", "new"] (defScope s_partners_of) := ⟨rfl, rfl, rfl, by decide +kernel, rfl, by decide +kernel, by decide +kernel⟩
theorem ok_part (T : Txt K w mg C) : Cal P w K mg base 2 "partners_of" spPart := by
  have Gare_alike := ok_alike (P := P) (base := base) T
  refine cal_of T.d_partners_of sc_partners_of (fun vs H Q E h => ?_) (fun f cdv A outer s H vs Q E hr h => ?_)
  · obtain ⟨a, b, old, new, G, M, rfl, _⟩ := h
    rfl
  · obtain ⟨a, b, old, new, G, M, rfl, S, ⟨xs, ha1, ha2⟩, ⟨ys, hb1, hb2⟩, do_, dn, q⟩ := h
    have hu := hu_of hr
    have xl := ha2.len
    have yl := hb2.len
    have ol := do_.short
    have nl := dn.short
    refine ⟨_, (pss_cons (ps_set (i := 2) sc_partners_of.nd rfl (Or.inr rfl) (pe_dc (own := [("node", 3)]) (g := gName 3) (tt := tYes) rfl sc_partners_of.nd (pi_tup (pv 0)) (blkOk_by (N := ["old", "new", "there", "node"]) (sc := (defScope s_partners_of)) (by decide +kernel)) (fun _ _ _ _ _ => pg_name (i := 3) sc_partners_of.nd rfl (Or.inl rfl)) (fun _ _ _ _ _ => pts_nil) (fun _ _ _ _ _ => (pe_ix (ix_tupS (K := K) rfl) (pv 3) pe_int (fun _ _ => rfl))) (fun _ _ _ _ _ => (pv 3)))) (pss_one (ps_ret (pe_dc (own := [("node", 3)]) (g := gName 3) (tt := _) rfl sc_partners_of.nd (pi_tup (pv 1)) (blkOk_by (N := ["old", "new", "there", "node"]) (sc := (defScope s_partners_of)) (by decide +kernel)) (fun _ _ _ _ _ => pg_name (i := 3) sc_partners_of.nd rfl (Or.inl rfl)) (fun _ _ _ _ _ => pts_one (PW.pt (pw_and (pt_cmp (pc_din hu (pe_ix (ix_tupS (K := K) rfl) (pv 3) pe_int (fun _ _ => rfl)) (pv 2))) (pw_and1 (pt_val (pe_c Gare_alike hr (by decide) (by rfl) (pa_cons (pe_dget hu (pv 2) (pe_ix (ix_tupS (K := K) rfl) (pv 3) pe_int (fun _ _ => rfl)) (fun _ _ => rfl)) (pa_cons (pv 3) pa_nil)))))))) (fun _ _ _ _ _ => (pe_ix (ix_tupS (K := K) rfl) (pv 3) pe_int (fun _ _ => rfl))) (fun _ _ _ _ _ => (pe_dget hu (pv 2) (pe_ix (ix_tupS (K := K) rfl) (pv 3) pe_int (fun _ _ => rfl)) (fun _ _ => rfl))))))), ?_⟩
    refine ⟨_, rfl, a, rfl, ⟨_, SqT.of (S.s _ _ ha1)⟩, fun D hD => ?_⟩
    refine dc_itQ (walk_tup (K := K) (a := a) (xs := xs)) (fun j H' => ∃ kvs, Sb G H' ((D, .dK kvs) :: M) ∧ kvs.length ≤ j ∧ IdxA G kvs (atN (old.take j))) ⟨[], S.add (o := .dK []) hD, Nat.le_refl _, fun n => by rw [List.take_zero]; exact valV_nil⟩ (fun j H' _ z => by obtain ⟨_, z, _⟩ := z; exact SqT.of (z.s _ _ ha1)) ?_ ?_
    · rintro j x H2 H3 hj ⟨kvs, S2, kl, ix⟩ ⟨rfl, hx⟩
      obtain ⟨d, hd, hxd⟩ := ha2.get' hx
      obtain ⟨c, ws, rfl, hc⟩ := hxd.at
      have nt := nd_take do_.top hd
      have et : old.take (j + 1) = old.take j ++ [d] := by rw [List.take_add_one, hd]; rfl
      refine ⟨rfl, _, rfl, c, _, _, _, rfl, rfl, SqT.of (S2.s _ _ hc), at_1, _, rfl, kvs, .inl d.num, rfl, S2.hd, ?_, putK kvs (.inl d.num) (.ref c), S2.put, ?_, ?_⟩
      · exact Nat.lt_of_le_of_lt (show kvs.length ≤ 400 by omega) (by decide)
      · have := length_putK' kvs (.inl d.num) (.ref c)
        omega
      · rw [et]
        exact ix.put hxd (atN_snoc nt).1 (atN_snoc nt).2
    · rintro H2 ⟨kvs, S2, kl, ix⟩
      rw [List.take_of_length_le (by omega)] at ix
      obtain ⟨S3, g3⟩ := S2.drop
      have ix3 := ix.same g3
      have hD3 : upd G D (.dK kvs) D = some (.dK kvs) := upd_same
      generalize upd G D (.dK kvs) = G3 at S3 g3 ix3 hD3
      have ha3 := ha2.same g3
      have hb3 := hb2.same g3
      refine ⟨_, rfl, b, rfl, ⟨_, SqT.of (S3.s _ _ (g3 _ _ hb1))⟩, fun D2 hD2 => ?_⟩
      refine dc_itQ (walk_tup (K := K) (a := b) (xs := ys)) (fun j H' => ∃ kv2, Sb G3 H' ((D2, .dK kv2) :: M) ∧ kv2.length ≤ j ∧ IdxA G3 kv2 (fun n => (atN (new.take j) n).bind (parD old))) ⟨[], S3.add (o := .dK []) hD2, Nat.le_refl _, fun n => by rw [List.take_zero]; exact valV_nil⟩ (fun j H' _ z => by obtain ⟨_, z, _⟩ := z; exact SqT.of (z.s _ _ (g3 _ _ hb1))) ?_ ?_
      · rintro j x H4 H5 hj ⟨kv2, S4, kl2, ix2⟩ ⟨rfl, hx⟩
        obtain ⟨d, hd, hxd⟩ := hb3.get' hx
        obtain ⟨c, ws, rfl, hc⟩ := hxd.at
        have nt := nd_take dn.top hd
        have et : new.take (j + 1) = new.take j ++ [d] := by rw [List.take_add_one, hd]; rfl
        have dk3 := DGet.k (k := .inl d.num) (S4.s _ _ hD3)
        have hc4 := S4.s _ _ hc
        have same : parD old d = none → ∀ n, (atN (new.take (j + 1)) n).bind (parD old) = (atN (new.take j) n).bind (parD old) := fun hp n => by
          rw [et]
          by_cases e : n = d.num
          · rw [e, (atN_snoc nt).1, atN_none.mpr nt]
            exact hp
          · rw [(atN_snoc nt).2 n e]
        have pe := parD_at do_.top d
        cases ea : atN old d.num with
        | none =>
          rw [ea] at pe
          rw [ix3.no ea] at dk3
          exact ⟨rfl, _, rfl, c, _, _, _, rfl, rfl, SqT.of hc4, at_1, _, rfl, D, _, rfl, dk3, _, rfl, iteF ⟨kv2, S4, by omega, ix2.congr fun n => (same pe n).symm⟩⟩
        | some e =>
          rw [ea] at pe
          have pe : parD old d = if alkD e d = true then some e else none := pe
          obtain ⟨v, hv, hve⟩ := ix3.yes ea
          rw [hv] at dk3
          refine ⟨rfl, _, rfl, c, _, _, _, rfl, rfl, SqT.of hc4, at_1, _, rfl, D, _, rfl, dk3, _, rfl, iteT ⟨_, rfl, _, rfl, c, _, _, _, rfl, rfl, SqT.of hc4, at_1, D, v, rfl, dk3, _, rfl, v, .ref c, e, d, rfl, hve.same S4.s, hxd.same S4.s, _, rfl, ?_⟩⟩
          cases ek : alkD e d with
          | false =>
            rw [ek] at pe
            exact iteF ⟨kv2, S4, by omega, ix2.congr fun n => (same pe n).symm⟩
          | true =>
            rw [ek] at pe
            refine iteT ⟨_, rfl, c, _, _, _, rfl, rfl, SqT.of hc4, at_1, _, rfl, _, rfl, c, _, _, _, rfl, rfl, SqT.of hc4, at_1, D, v, rfl, dk3, kv2, .inl d.num, rfl, S4.hd, ?_, putK kv2 (.inl d.num) v, S4.put, ?_, ?_⟩
            · exact Nat.lt_of_le_of_lt (show kv2.length ≤ 400 by omega) (by decide)
            · have := length_putK' kv2 (.inl d.num) v
              omega
            · rw [et]
              refine ix2.put (d := e) hve ?_ fun m hm => ?_
              · show (atN (new.take j ++ [d]) d.num).bind (parD old) = _
                rw [(atN_snoc nt).1]
                exact pe
              · show (atN (new.take j ++ [d]) m).bind (parD old) = _
                rw [(atN_snoc nt).2 m hm]
      · rintro H4 ⟨kv2, S4, kl2, ix2⟩
        rw [List.take_of_length_le (by omega)] at ix2
        obtain ⟨S5, g5⟩ := S4.drop
        exact q D2 _ H4 kv2 S5 (Same.trans g3 g5) upd_same (ix2.same g5)
end
end VL

set_option Elab.async false
set_option linter.all false
set_option pp.maxSteps 700
set_option maxRecDepth 100000
set_option maxHeartbeats 4000000
namespace VL
open PySem PySem.Spec PyProof.Rows L2
def spKept (N : Nat) : Sp := fun vs H Q _ => ∃ (a b : Addr) (old new : List Dn) (G : Hp) (M : List (Addr × HO)), vs = [.ref a, .ref b] ∧ Sb G H M ∧ TupD G a old ∧ TupD G b new ∧ Dok old ∧ Dok new ∧ hS new ≤ N ∧ ∀ p G' H', Sb G' H' M → Same G G' → G' p = some (.lst ((kepS old new).map V.int)) → Q (.ref p) H'
mutual
theorem kep_lenN (old : List Dn) : ∀ d : Dn, (kepN old d).length ≤ (numN d).length
  | .tx n x => by
    simp only [kepN, numN]
    cases parD old (.tx n x) <;> simp
  | .el n t as ks => by
    simp only [kepN, numN]
    cases parD old (.el n t as ks) with
    | none => simp
    | some e =>
      have := kep_lenS e.kids ks
      simp only [List.length_cons]
      omega
theorem kep_lenS (old : List Dn) : ∀ ks : List Dn, (kepS old ks).length ≤ (numS ks).length
  | [] => by simp [kepS]
  | d :: r => by
    have h1 := kep_lenN old d
    have h2 := kep_lenS old r
    simp only [kepS, numS, List.length_append]
    omega
end
theorem kepS_app (old a b : List Dn) : kepS old (a ++ b) = kepS old a ++ kepS old b := by rw [kepS_map, kepS_map, kepS_map, List.flatMap_append]
theorem kepS_one (old : List Dn) (d : Dn) : kepS old [d] = kepN old d := by simp only [kepS, List.append_nil]
theorem numS_app2 : ∀ a b : List Dn, numS (a ++ b) = numS a ++ numS b
  | [], b => by simp [numS]
  | d :: r, b => by simp only [List.cons_append, numS, numS_app2 r b, List.append_assoc]
theorem numS_take (ks : List Dn) (j : Nat) : (numS (ks.take j)).length ≤ (numS ks).length := by
  have : numS ks = numS (ks.take j) ++ numS (ks.drop j) := by rw [← numS_app2, List.take_append_drop]
  rw [this, List.length_append]
  omega
theorem Dok.mem_kids {ks : List Dn} {d e : Dn} (h : Dok ks) (hd : d ∈ ks) (he : e = d) : Dok e.kids := by
  rw [he]
  exact h.kids hd
section
variable {P : Program} {w : World} {K : PySem.W.Frag} {mg : Str → Option Value} {base : Heap} {C : Ad}
theorem ok_kidsF (T : Txt K w mg C) : Cal P w K mg base 1 "kids_in" spBelow := by
  refine cal_of T.d_kids_in sc_kids_in (fun vs H Q E h => ?_) (fun f cdv A outer s H vs Q E hr h => ?_)
  · obtain ⟨v, d, G, M, rfl, _⟩ := h
    rfl
  · obtain ⟨v, d, G, M, rfl, S, hd, q⟩ := h
    refine ⟨_, (pss_cons (ps_if (pt_cmpR op_eq (pe_ix ix_tup (pv 0) pe_int (fun _ _ => rfl)) pe_str (nomark _)) (pss_one (ps_ret (pe_ix ix_tup (pv 0) pe_int (fun _ _ => rfl)))) pss_nil) (pss_one (ps_ret (pe_tup pa_nil)))), ?_⟩
    cases hd with
    | @tx b m y h1 =>
      refine ⟨_, rfl, b, _, _, _, rfl, rfl, SqT.of (S.s _ _ h1), at_0, rfl, _, rfl, ite2 (fun c => absurd c (by decide)) (fun _ => ?_)⟩
      exact ⟨by show 0 ≤ sizeLine; decide, fun p hp => q p [] _ _ (S.alloc hp) (S.grow hp) upd_same .nil⟩
    | @el b pk m tg va as vs kk h1 hA' hk hs =>
      refine ⟨_, rfl, b, _, _, _, rfl, rfl, SqT.of (S.s _ _ h1), at_0, rfl, _, rfl, ite2 (fun _ => ?_) (fun c => absurd (by decide) c)⟩
      exact ⟨_, rfl, b, _, _, _, rfl, rfl, SqT.of (S.s _ _ h1), rfl, q pk vs G H S (Same.refl _) hk hs⟩
theorem sc_kept_ids : FnScope ["old", "new", "kept", "partners", "node"] ["old", "new"] (defScope s_kept_ids) := ⟨rfl, rfl, rfl, by decide +kernel, rfl, by decide +kernel, by decide +kernel⟩
theorem kp_0 (T : Txt K w mg C) {k : Nat} : Cal P w K mg base (k + 1) "kept_ids" spFalse := cal_of T.d_kept_ids sc_kept_ids (fun vs H Q E h => h.elim) (fun f cdv A outer s H vs Q E hr h => h.elim)
theorem kp_S (T : Txt K w mg C) {N : Nat} {sp : Sp} (hsp : ∀ m, m + 1 = N → sp = spKept m) (Gkept_ids : Cal P w K mg base (N + 2) "kept_ids" sp) : Cal P w K mg base (N + 3) "kept_ids" (spKept N) := by
  have Gpartners_of := ok_part (P := P) (base := base) T
  have Gkids_in := ok_kidsF (P := P) (base := base) T
  refine cal_of T.d_kept_ids sc_kept_ids (fun vs H Q E h => ?_) (fun f cdv A outer s H vs Q E hr h => ?_)
  · obtain ⟨a, b, old, new, G, M, rfl, _⟩ := h
    rfl
  · obtain ⟨a, b, old, new, G, M, rfl, S, hta, htb, do_, dn, hN, q⟩ := h
    have hu := hu_of hr
    have big : 10000 < sizeLine := by decide
    have nl := dn.short
    refine ⟨_, (pss_cons (ps_set (i := 2) sc_kept_ids.nd rfl (Or.inl rfl) (pe_lst pa_nil)) (pss_cons (ps_set (i := 3) sc_kept_ids.nd rfl (Or.inl rfl) (pe_c Gpartners_of hr (by omega) (by rfl) (pa_cons (pv 0) (pa_cons (pv 1) pa_nil)))) (pss_cons (ps_for PassesOwn.never rfl (pi_tup (pv 1)) (pg_name (i := 4) sc_kept_ids.nd rfl (Or.inl rfl)) (pss_one (ps_if (pt_cmp (pc_din hu (pe_ix ix_tup (pv 4) pe_int (fun _ _ => rfl)) (pv 3))) (pss_cons (ps_expr (pe_bm PySem.F.plainAttrs_list PySem.F.slot_list_append PySem.F.type_list_append mt_append (pv 2) (pa_cons (pe_ix ix_tup (pv 4) pe_int (fun _ _ => rfl)) pa_nil))) (pss_one (ps_aug (i := 2) sc_kept_ids.nd rfl (Or.inl rfl) (pe_c Gkept_ids hr (by omega) (by rfl) (pa_cons (pe_c Gkids_in hr (by omega) (by rfl) (pa_cons (pe_dget hu (pv 3) (pe_ix ix_tup (pv 4) pe_int (fun _ _ => rfl)) (fun _ _ => rfl)) pa_nil)) (pa_cons (pe_c Gkids_in hr (by omega) (by rfl) (pa_cons (pv 4) pa_nil)) pa_nil))) iop_ext))) pss_nil))) (pss_one (ps_ret (pv 2)))))), ?_⟩
    refine ⟨by show 0 ≤ sizeLine; decide, fun p hp => ?_⟩
    have S1 := S.add (o := .lst []) hp
    refine ⟨_, rfl, _, rfl, a, b, old, new, G, _, rfl, S1, hta, htb, do_, dn, fun pp G2 H2 kvs S2 g2 hpp ix => ?_⟩
    have hta2 := hta.same g2
    obtain ⟨ys, hb1, hb2⟩ := htb.same g2
    have yl := hb2.len
    refine ⟨_, rfl, b, rfl, ⟨_, SqT.of (S2.s _ _ hb1)⟩, ?_⟩
    refine for_it (walk_tup (K := K) (a := b) (xs := ys)) (fun j σ H' => ∃ (G' : Hp) (y4 : Option V), Sb G' H' ((p, .lst ((kepS old (new.take j)).map V.int)) :: M) ∧ Same G2 G' ∧ σ = [some (.ref a), some (.ref b), some (.ref p), some (.ref pp), y4]) ⟨G2, _, S2.eqo (by rw [List.take_zero]; simp only [kepS, List.map_nil]), Same.refl _, rfl⟩ (fun j σ H' _ z => by obtain ⟨_, _, z, g, _⟩ := z; exact SqT.of (z.s _ _ (g _ _ hb1))) ?_ ?_
    · rintro j x σ H3 H4 hj ⟨G3, y4, S3, g3, rfl⟩ ⟨rfl, hx⟩
      obtain ⟨d, hd, hxd⟩ := hb2.get' hx
      obtain ⟨c, ws, rfl, hc⟩ := hxd.at
      have dm := List.mem_of_getElem? hd
      have hc3 := S3.s _ _ (g3 _ _ hc)
      have et : kepS old (new.take (j + 1)) = kepS old (new.take j) ++ kepN old d := by
        rw [List.take_add_one, hd, kepS_app]
        exact congrArg _ (kepS_one old d)
      have kl1 := kep_lenS old (new.take (j + 1))
      have kl2 := numS_take new (j + 1)
      have kl3 := dn.len
      rw [et, List.length_append] at kl1
      have dk := DGet.k (k := .inl d.num) (S3.s _ _ (g3 _ _ hpp))
      have ke := kepO_new (old := old) dn.top dm
      have ka := kepN_eq old d
      cases ep : parD old d with
      | none =>
        rw [ep] at ke ka
        rw [ix.no ke] at dk
        refine ⟨_, rfl, c, _, _, _, rfl, rfl, SqT.of hc3, at_1, _, rfl, pp, _, rfl, dk, _, rfl, iteF ⟨G3, _, S3.eqo ?_, g3, rfl⟩⟩
        rw [et, ka, List.append_nil]
      | some e =>
        rw [ep] at ke ka
        obtain ⟨v, hv, hve⟩ := ix.yes ke
        rw [hv] at dk
        refine ⟨_, rfl, c, _, _, _, rfl, rfl, SqT.of hc3, at_1, _, rfl, pp, _, rfl, dk, _, rfl, iteT ?_⟩
        have hm := hS_mem dm
        rw [hN_eq] at hm
        obtain ⟨N', rfl⟩ : ∃ N', N = N' + 1 := ⟨N - 1, by omega⟩
        have esp := hsp N' rfl
        subst esp
        have pm := parD_mem ep
        have kn : (kepN old d).length = (kepS e.kids d.kids).length + 1 := by rw [ka]; rfl
        refine ⟨_, rfl, .inl ⟨rfl, _, SqL.of S3.hd⟩, _, rfl, c, _, _, _, rfl, rfl, SqT.of hc3, at_1, p, _, _, rfl, rfl, S3.hd, by rw [List.length_map]; omega, ?_⟩
        have S4 := S3.put (u := .lst ((kepS old (new.take j)).map V.int ++ [.int d.num]))
        have dk4 := DGet.k (k := .inl d.num) (S4.s _ _ (g3 _ _ hpp))
        rw [hv] at dk4
        have hc4 := S4.s _ _ (g3 _ _ hc)
        refine ⟨_, rfl, _, rfl, _, rfl, c, _, _, _, rfl, rfl, SqT.of hc4, at_1, pp, v, rfl, dk4, v, e, G3, _, rfl, S4, hve.same g3, fun p5 xs5 G5 H5 S5 g5 h5 n5 => ?_⟩
        refine ⟨_, rfl, .ref c, d, G5, _, rfl, S5, hxd.same (Same.trans g3 g5), fun p6 xs6 G6 H6 S6 g6 h6 n6 => ?_⟩
        refine ⟨p5, p6, e.kids, d.kids, G6, _, rfl, S6, ⟨xs5, g6 _ _ h5, n5.same g6⟩, ⟨xs6, h6, n6⟩, do_.mem_kids pm.1 rfl, dn.kids dm, by omega, fun p7 G7 H7 S7 g7 h7 => ?_⟩
        refine ⟨p, p7, _, _, rfl, rfl, S7.hd, S7.s _ _ h7, ?_, G7, _, (S7.put).eqo ?_, Same.trans g3 (Same.trans g5 (Same.trans g6 g7)), rfl⟩
        · simp only [List.length_append, List.length_map, List.length_singleton]
          omega
        · rw [et, ka]
          simp
    · rintro σ H3 ⟨G3, y4, S3, g3, rfl⟩
      rw [List.take_of_length_le (by omega)] at S3
      obtain ⟨S4, g4⟩ := S3.drop
      exact ⟨_, rfl, q p _ H3 S4 (Same.trans g2 (Same.trans g3 g4)) upd_same⟩
theorem kp_N (T : Txt K w mg C) : ∀ n : Nat, Cal P w K mg base (n + 3) "kept_ids" (spKept n)
  | 0 => kp_S T (N := 0) (sp := spFalse) (fun m h => by omega) (kp_0 T)
  | n + 1 => kp_S T (N := n + 1) (sp := spKept n) (fun m h => by rw [Nat.succ.inj h]) (kp_N T n)
end
end VL

set_option Elab.async false
set_option linter.all false
set_option pp.maxSteps 700
set_option maxRecDepth 100000
set_option maxHeartbeats 4000000
namespace VL
open PySem PySem.Spec PyProof.Rows L2
def spRem (N : Nat) : Sp := fun vs H Q _ => ∃ (par : Int) (a b : Addr) (old new : List Dn) (G : Hp) (M : List (Addr × HO)), vs = [.int par, .ref a, .ref b] ∧ Sb G H M ∧ TupD G a old ∧ TupD G b new ∧ Dok old ∧ Dok new ∧ hS old ≤ N ∧ ∀ p us G' H', Sb G' H' M → Same G G' → G' p = some (.lst us) → Paired (OpA G') us (remS par new old) → Q (.ref p) H'
mutual
theorem rem_lenN : ∀ (par : Int) (new : List Dn) (d : Dn), (remN par new d).length ≤ (numN d).length
  | par, new, .tx n x => by
    simp only [remN, numN]
    cases parD new (.tx n x) <;> simp
  | par, new, .el n t as ks => by
    simp only [remN, numN]
    cases parD new (.el n t as ks) with
    | none => simp
    | some e =>
      have := rem_lenS n e.kids ks
      simp only [List.length_cons]
      omega
theorem rem_lenS : ∀ (par : Int) (new : List Dn) (ks : List Dn), (remS par new ks).length ≤ (numS ks).length
  | par, new, [] => by simp [remS]
  | par, new, d :: r => by
    have h1 := rem_lenN par new d
    have h2 := rem_lenS par new r
    simp only [remS, numS, List.length_append]
    omega
end
theorem remS_app (par : Int) (new a b : List Dn) : remS par new (a ++ b) = remS par new a ++ remS par new b := by rw [remS_map, remS_map, remS_map, List.flatMap_append]
theorem remS_one (par : Int) (new : List Dn) (d : Dn) : remS par new [d] = remN par new d := by simp only [remS, List.append_nil]
theorem paired_app' {α β : Type} {G : α → β → Prop} {l₁ m₁ : List α} {l₂ m₂ : List β} (h1 : Paired G l₁ l₂) (h2 : Paired G m₁ m₂) : Paired G (l₁ ++ m₁) (l₂ ++ m₂) := paired_app h1 h2
section
variable {P : Program} {w : World} {K : PySem.W.Frag} {mg : Str → Option Value} {base : Heap} {C : Ad}
theorem sc_removals : FnScope ["parent", "old", "new", "partners", "node", "after", "found"] ["parent", "old", "new"] (defScope s_removals) := ⟨rfl, rfl, rfl, by decide +kernel, rfl, by decide +kernel, by decide +kernel⟩
theorem rm_0 (T : Txt K w mg C) {k : Nat} : Cal P w K mg base (k + 1) "removals" spFalse := cal_of T.d_removals sc_removals (fun vs H Q E h => h.elim) (fun f cdv A outer s H vs Q E hr h => h.elim)
theorem rm_S (T : Txt K w mg C) {N : Nat} {sp : Sp} (hsp : ∀ m, m + 1 = N → sp = spRem m) (Gremovals : Cal P w K mg base (N + 2) "removals" sp) : Cal P w K mg base (N + 3) "removals" (spRem N) := by
  have Gpartners_of := ok_part (P := P) (base := base) T
  have Gkids_in := ok_kidsF (P := P) (base := base) T
  refine cal_of T.d_removals sc_removals (fun vs H Q E h => ?_) (fun f cdv A outer s H vs Q E hr h => ?_)
  · obtain ⟨par, a, b, old, new, G, M, rfl, _⟩ := h
    rfl
  · obtain ⟨par, a, b, old, new, G, M, rfl, S, hta, htb, do_, dn, hN, q⟩ := h
    have hu := hu_of hr
    have big : 10000 < sizeLine := by decide
    have nl := dn.short
    have ol := do_.short
    refine ⟨_, (pss_cons (ps_set (i := 3) sc_removals.nd rfl (Or.inl rfl) (pe_c Gpartners_of hr (by omega) (by rfl) (pa_cons (pv 1) (pa_cons (pv 2) pa_nil)))) (pss_cons (ps_setDc (i := 5) (own := [("node", 4)]) (g := gName 4) (tt := tYes) rfl sc_removals.nd rfl rfl (sw_trueD rfl rfl rfl (by decide +kernel)) (pi_tup (pv 2)) (blkOk_by (N := ["parent", "old", "new", "partners", "node", "after", "found"]) (sc := (defScope s_removals)) (by decide +kernel)) (fun _ _ _ _ _ => pg_name (i := 4) sc_removals.nd rfl (Or.inl rfl)) (fun _ _ _ _ _ => pts_nil) (fun _ _ _ _ _ => (pe_ix (ix_tupS (K := K) rfl) (pv 4) pe_int (fun _ _ => rfl))) (fun _ _ _ _ _ => (pv 4))) (pss_cons (ps_set (i := 6) sc_removals.nd rfl (Or.inl rfl) (pe_lst pa_nil)) (pss_cons (ps_for PassesOwn.never rfl (pi_tup (pv 1)) (pg_name (i := 4) sc_removals.nd rfl (Or.inl rfl)) (pss_one (ps_if (pt_cmp (pc_din hu (pe_ix ix_tup (pv 4) pe_int (fun _ _ => rfl)) (pv 3))) (pss_one (ps_aug (i := 6) sc_removals.nd rfl (Or.inl rfl) (pe_c Gremovals hr (by omega) (by rfl) (pa_cons (pe_ix ix_tup (pv 4) pe_int (fun _ _ => rfl)) (pa_cons (pe_c Gkids_in hr (by omega) (by rfl) (pa_cons (pv 4) pa_nil)) (pa_cons (pe_c Gkids_in hr (by omega) (by rfl) (pa_cons (pe_dget hu (pv 5) (pe_ix ix_tup (pv 4) pe_int (fun _ _ => rfl)) (fun _ _ => rfl)) pa_nil)) pa_nil)))) iop_ext)) (pss_one (ps_expr (pe_bm PySem.F.plainAttrs_list PySem.F.slot_list_append PySem.F.type_list_append mt_append (pv 6) (pa_cons (pe_tup (pa_cons pe_str (pa_cons (pv 0) (pa_cons (pe_ix ix_tup (pv 4) pe_int (fun _ _ => rfl)) pa_nil)))) pa_nil))))))) (pss_one (ps_ret (pv 6))))))), ?_⟩
    refine ⟨_, rfl, _, rfl, a, b, old, new, G, _, rfl, S, hta, htb, do_, dn, fun pp G2 H2 kvs S2 g2 hpp ix => ?_⟩
    obtain ⟨xs, ha1, ha2⟩ := hta.same g2
    obtain ⟨ys, hb1, hb2⟩ := htb.same g2
    have xl := ha2.len
    have yl := hb2.len
    refine ⟨_, rfl, b, rfl, ⟨_, SqT.of (S2.s _ _ hb1)⟩, fun D hD => ?_⟩
    refine dc_itQ (walk_tup (K := K) (a := b) (xs := ys)) (fun j H' => ∃ kv2, Sb G2 H' ((D, .dK kv2) :: M) ∧ kv2.length ≤ j ∧ IdxA G2 kv2 (atN (new.take j))) ⟨[], S2.add (o := .dK []) hD, Nat.le_refl _, fun n => by rw [List.take_zero]; exact valV_nil⟩ (fun j H' _ z => by obtain ⟨_, z, _⟩ := z; exact SqT.of (z.s _ _ hb1)) ?_ ?_
    · rintro j x H3 H4 hj ⟨kv2, S3, kl, ix2⟩ ⟨rfl, hx⟩
      obtain ⟨d, hd, hxd⟩ := hb2.get' hx
      obtain ⟨c, ws, rfl, hc⟩ := hxd.at
      have nt := nd_take dn.top hd
      have et : new.take (j + 1) = new.take j ++ [d] := by rw [List.take_add_one, hd]; rfl
      refine ⟨rfl, _, rfl, c, _, _, _, rfl, rfl, SqT.of (S3.s _ _ hc), at_1, _, rfl, kv2, .inl d.num, rfl, S3.hd, ?_, putK kv2 (.inl d.num) (.ref c), S3.put, ?_, ?_⟩
      · exact Nat.lt_of_le_of_lt (show kv2.length ≤ 400 by omega) (by decide)
      · have := length_putK' kv2 (.inl d.num) (.ref c)
        omega
      · rw [et]
        exact ix2.put hxd (atN_snoc nt).1 (atN_snoc nt).2
    rintro H3 ⟨kv2, S3', kl, ix2'⟩
    rw [List.take_of_length_le (by omega)] at ix2'
    obtain ⟨S3, g3⟩ := S3'.drop
    have ix2 := ix2'.same g3
    have hD3 : upd G2 D (.dK kv2) D = some (.dK kv2) := upd_same
    generalize upd G2 D (.dK kv2) = G3 at S3 g3 ix2 hD3
    clear S3' ix2' S2 hD
    have ix3 := ix.same g3
    have hpp3 := g3 _ _ hpp
    have ha3 := ha2.same g3
    refine ⟨by show 0 ≤ sizeLine; decide, fun p hp => ?_⟩
    have S4 := S3.add (o := .lst []) hp
    refine ⟨_, rfl, a, rfl, ⟨_, SqT.of (S4.s _ _ (g3 _ _ ha1))⟩, ?_⟩
    refine for_it (walk_tup (K := K) (a := a) (xs := xs)) (fun j σ H' => ∃ (G' : Hp) (us : List V) (y4 : Option V), Sb G' H' ((p, .lst us) :: M) ∧ Same G3 G' ∧ Paired (OpA G') us (remS par new (old.take j)) ∧ σ = [some (.int par), some (.ref a), some (.ref b), some (.ref pp), y4, some (.ref D), some (.ref p)]) ⟨G3, [], _, S4, Same.refl _, by rw [List.take_zero]; simp only [remS]; exact .nil, rfl⟩ (fun j σ H' _ z => by obtain ⟨_, _, _, z, g, _⟩ := z; exact SqT.of (z.s _ _ (g _ _ (g3 _ _ ha1)))) ?_ ?_
    · rintro j x σ H5 H6 hj ⟨G5, us, y4, S5, g5, hus, rfl⟩ ⟨rfl, hx⟩
      obtain ⟨d, hd, hxd⟩ := ha3.get' hx
      obtain ⟨c, ws, rfl, hc⟩ := hxd.at
      have dm := List.mem_of_getElem? hd
      have hc5 := S5.s _ _ (g5 _ _ hc)
      have et : remS par new (old.take (j + 1)) = remS par new (old.take j) ++ remN par new d := by
        rw [List.take_add_one, hd, remS_app]
        exact congrArg _ (remS_one par new d)
      have kl1 := rem_lenS par new (old.take (j + 1))
      have kl2 := numS_take old (j + 1)
      have kl3 := do_.len
      have ul := Paired.length hus
      rw [et, List.length_append] at kl1
      have dk := DGet.k (k := .inl d.num) (S5.s _ _ (g5 _ _ hpp3))
      have ke := kepO_old do_.top dn.top dm
      have ra := remN_eq par new d
      cases ep : parD new d with
      | none =>
        rw [ep] at ke ra
        have ke : kepO old new d.num = none := ke
        have ra : remN par new d = [.rem par d.num] := ra
        rw [ix3.no ke] at dk
        refine ⟨_, rfl, c, _, _, _, rfl, rfl, SqT.of hc5, at_1, _, rfl, pp, _, rfl, dk, _, rfl, iteF ?_⟩
        refine ⟨_, rfl, .inl ⟨rfl, _, SqL.of S5.hd⟩, _, rfl, _, rfl, c, _, _, _, rfl, rfl, SqT.of hc5, at_1, by show 3 ≤ sizeLine; decide, fun t ht => ?_⟩
        have S6 := S5.alloc (o := .tup [.str "remove", .int par, .int d.num]) ht
        have g6 := S5.grow (o := .tup [.str "remove", .int par, .int d.num]) ht
        refine ⟨p, us, .ref t, rfl, rfl, S6.hd, by omega, _, us ++ [.ref t], _, S6.put, Same.trans g5 g6, ?_, rfl⟩
        rw [et, ra]
        exact paired_app (OpA.sames g6 hus) (.cons (.rem upd_same) .nil)
      | some e =>
        rw [ep] at ke ra
        have ke : kepO old new d.num = some d := ke
        have ra : remN par new d = remS d.num e.kids d.kids := ra
        obtain ⟨v, hv, hve⟩ := ix3.yes ke
        rw [hv] at dk
        have pm := parD_mem ep
        have ae : atN new d.num = some e := by rw [← pm.2.1]; exact atN_of dn.top pm.1
        obtain ⟨v2, hv2, hve2⟩ := ix2.yes ae
        have dk2 := DGet.k (k := .inl d.num) (S5.s _ _ (g5 _ _ hD3))
        rw [hv2] at dk2
        have hm := hS_mem dm
        rw [hN_eq] at hm
        obtain ⟨N', rfl⟩ : ∃ N', N = N' + 1 := ⟨N - 1, by omega⟩
        have esp := hsp N' rfl
        subst esp
        refine ⟨_, rfl, c, _, _, _, rfl, rfl, SqT.of hc5, at_1, _, rfl, pp, _, rfl, dk, _, rfl, iteT ?_⟩
        refine ⟨_, rfl, _, rfl, c, _, _, _, rfl, rfl, SqT.of hc5, at_1, _, rfl, .ref c, d, G5, _, rfl, S5, hxd.same g5, fun p6 xs6 G6 H6 S6 g6 h6 n6 => ?_⟩
        have hc6 := S6.s _ _ (g6 _ _ (g5 _ _ hc))
        have dk3 := DGet.k (k := .inl d.num) (S6.s _ _ (g6 _ _ (g5 _ _ hD3)))
        rw [hv2] at dk3
        refine ⟨_, rfl, _, rfl, c, _, _, _, rfl, rfl, SqT.of hc6, at_1, D, v2, rfl, dk3, v2, e, G6, _, rfl, S6, hve2.same (Same.trans g5 g6), fun p7 xs7 G7 H7 S7 g7 h7 n7 => ?_⟩
        refine ⟨d.num, p6, p7, d.kids, e.kids, G7, _, rfl, S7, ⟨xs6, g7 _ _ h6, n6.same g7⟩, ⟨xs7, h7, n7⟩, do_.kids dm, dn.kids pm.1, by omega, fun p8 us8 G8 H8 S8 g8 h8 hus8 => ?_⟩
        have ul8 := Paired.length hus8
        have g58 := Same.trans g6 (Same.trans g7 g8)
        rw [ra] at kl1
        refine ⟨p, p8, _, _, rfl, rfl, S8.hd, S8.s _ _ h8, by omega, G8, us ++ us8, _, S8.put, Same.trans g5 g58, ?_, rfl⟩
        rw [et, ra]
        exact paired_app (OpA.sames g58 hus) hus8
    · rintro σ H5 ⟨G5, us, y4, S5, g5, hus, rfl⟩
      rw [List.take_of_length_le (by omega)] at hus
      obtain ⟨S6, g6⟩ := S5.drop
      exact ⟨_, rfl, q p us _ H5 S6 (Same.trans g2 (Same.trans g3 (Same.trans g5 g6))) upd_same (OpA.sames g6 hus)⟩
theorem rm_N (T : Txt K w mg C) : ∀ n : Nat, Cal P w K mg base (n + 3) "removals" (spRem n)
  | 0 => rm_S T (N := 0) (sp := spFalse) (fun m h => by omega) (rm_0 T)
  | n + 1 => rm_S T (N := n + 1) (sp := spRem n) (fun m h => by rw [Nat.succ.inj h]) (rm_N T n)
end
end VL

set_option Elab.async false
set_option linter.all false
set_option pp.maxSteps 700
set_option maxRecDepth 100000
set_option maxHeartbeats 4000000
namespace VL
open PySem PySem.Spec PyProof.Rows L2 S2S
def spOwn : Sp := fun vs H Q _ => ∃ (u v : V) (d e : Dn) (G : Hp) (M : List (Addr × HO)), vs = [u, v] ∧ Sb G H M ∧ NdA G u d ∧ NdA G v e ∧ alkD d e = true ∧ d.num = e.num ∧ NmOk d ∧ NmOk e ∧ ∀ p us G' H', Sb G' H' M → Same G G' → G' p = some (.lst us) → Paired (OpA G') us (ownD d e) → Q (.ref p) H'
theorem ent_nd {as : List Pss} (h : (as.map (·.1)).Nodup) : ((([] : List (L2.Key × V)) ++ as.map entS).map (fun q => q.1)).Nodup := by
  rw [List.nil_append, List.map_map]
  have e : as.map ((fun x : L2.Key × V => x.1) ∘ entS) = (as.map (fun p : Pss => p.1)).map (Sum.inr : Str → L2.Key) := by
    rw [List.map_map]
    rfl
  rw [e]
  exact List.Pairwise.map _ (fun a b z e => z (Sum.inr.inj e)) h
theorem pair_ent {K : PySem.W.Frag} {H : Hp} {ps : List Addr} {as : List Pss} (h : Paired (fun p (x : Str × Str) => H p = some (.tup [.str x.1, .str x.2])) ps as) : Paired (fun p (kv : L2.Key × V) => SqT K H p [kV kv.1, kv.2]) ps (as.map entS) := by
  induction h with
  | nil => exact .nil
  | cons a b ih => exact .cons (SqT.of a) ih
theorem iteT' {b : Bool} {A B : Prop} (h : b = true) (a : A) : if b = true then A else B := by rw [if_pos h]; exact a
theorem iteF' {b : Bool} {A B : Prop} (h : b = false) (a : B) : if b = true then A else B := by rw [if_neg (by rw [h]; decide)]; exact a
theorem valE_no {as : List Pss} {k : Str} (h : k ∉ as.map (·.1)) : valV (as.map entS) (Sum.inr k : L2.Key) = none := by
  refine valV_out fun z => ?_
  rw [List.map_map] at z
  obtain ⟨q, hq, e⟩ := List.mem_map.mp z
  exact h (List.mem_map.mpr ⟨q, hq, Sum.inr.inj e⟩)
theorem valE_yes {as : List Pss} (nd : (as.map (·.1)).Nodup) {p : Pss} (h : p ∈ as) : valV (as.map entS) (Sum.inr p.1 : L2.Key) = some (.str p.2) := by
  obtain ⟨i, hi, e⟩ := List.getElem_of_mem h
  have := ent_nd nd
  rw [List.nil_append] at this
  refine valV_nd (i := i) this ?_
  rw [List.getElem?_map, List.getElem?_eq_getElem hi, e]
  rfl
theorem Sb.hd4 {G H : Hp} {M : List (Addr × HO)} {p q r t : Addr × HO} (S : Sb G H (p :: q :: r :: t :: M)) : H t.1 = some t.2 := (S.m t (by simp)).2
section
variable {P : Program} {w : World} {K : PySem.W.Frag} {mg : Str → Option Value} {base : Heap} {C : Ad}
theorem sc_own_changes : FnScope ["old", "new", "before", "after", "unsets", "name"] ["old", "new"] (defScope s_own_changes) := ⟨rfl, rfl, rfl, by decide +kernel, rfl, by decide +kernel, by decide +kernel⟩
theorem ok_own (T : Txt K w mg C) : Cal P w K mg base 1 "own_changes" spOwn := by
  refine cal_of T.d_own_changes sc_own_changes (fun vs H Q E h => ?_) (fun f cdv A outer s H vs Q E hr h => ?_)
  · obtain ⟨u, v, d, e, G, M, rfl, _⟩ := h
    rfl
  · obtain ⟨u, v, d, e, G, M, rfl, S, hd, he, ak, en, nd, ne, q⟩ := h
    have hu := hu_of hr
    refine ⟨_, (pss_cons (ps_if (pt_cmpR op_eq (pe_ix ix_tup (pv 0) pe_int (fun _ _ => rfl)) pe_str (nomark _)) (pss_one (ps_ret (pe_ifExp (pt_cmpR op_eq (pe_ix ix_tup (pv 0) pe_int (fun _ _ => rfl)) (pe_ix ix_tup (pv 1) pe_int (fun _ _ => rfl)) (nomark _)) (pe_lst pa_nil) (pe_lst (pa_cons (pe_tup (pa_cons pe_str (pa_cons (pe_ix ix_tup (pv 1) pe_int (fun _ _ => rfl)) (pa_cons (pe_ix ix_tup (pv 1) pe_int (fun _ _ => rfl)) pa_nil)))) pa_nil))))) pss_nil) (pss_cons (ps_set (i := 2) sc_own_changes.nd rfl (Or.inr rfl) (pe_callTy (call_dictT rfl) (by rfl) T.z_dict (by decide +kernel) (pa_cons (pe_ix ix_tup (pv 0) pe_int (fun _ _ => rfl)) pa_nil))) (pss_cons (ps_set (i := 3) sc_own_changes.nd rfl (Or.inr rfl) (pe_callTy (call_dictT rfl) (by rfl) T.z_dict (by decide +kernel) (pa_cons (pe_ix ix_tup (pv 1) pe_int (fun _ _ => rfl)) pa_nil))) (pss_cons (ps_lock (ps_setLc (i := 4) (own := [("name", 5)]) (g := gName 5) (tt := _) rfl sc_own_changes.nd rfl rfl (sw_true rfl rfl rfl (by decide +kernel)) (pi_keys (pv 2)) (blkOk_by (N := ["old", "new", "before", "after", "unsets", "name"]) (sc := (defScope s_own_changes)) (by decide +kernel)) (fun _ _ _ _ _ => pg_name (i := 5) sc_own_changes.nd rfl (Or.inl rfl)) (fun _ _ _ _ _ => pts_one (pt_cmp (pc_dnotin hu (pv 5) (pv 3)))) (fun _ _ _ _ _ => (pe_tup (pa_cons pe_str (pa_cons (pe_ix (ix_tupS (K := K) rfl) (pv 1) pe_int (fun _ _ => rfl)) (pa_cons (pv 5) pa_nil))))))) (pss_one (ps_ret (pe_op op_cat (pv 4) (pe_lock (pe_lc (own := [("name", 5)]) (g := gName 5) (tt := _) rfl sc_own_changes.nd (pi_keys (pv 3)) (blkOk_by (N := ["old", "new", "before", "after", "unsets", "name"]) (sc := (defScope s_own_changes)) (by decide +kernel)) (fun _ _ _ _ _ => pg_name (i := 5) sc_own_changes.nd rfl (Or.inl rfl)) (fun _ _ _ _ _ => pts_one (pt_cmpR op_ne (pe_dget1 hu (pv 2) (pv 5) ⟨rfl, rfl, rfl, rfl⟩) (pe_dget hu (pv 3) (pv 5) (fun _ _ => rfl)) (nomark _))) (fun _ _ _ _ _ => (pe_tup (pa_cons pe_str (pa_cons (pe_ix (ix_tupS (K := K) rfl) (pv 1) pe_int (fun _ _ => rfl)) (pa_cons (pv 5) (pa_cons (pe_dget hu (pv 3) (pv 5) (fun _ _ => rfl)) pa_nil))))))))))))))), ?_⟩
    have tt : decide (V.str ("text" : Str) = V.str "text") = true := by decide
    have et : ¬ decide (V.str ("element" : Str) = V.str "text") = true := by decide
    cases hd with
    | @tx b1 n1 x1 h1 =>
      cases he with
      | @el b2 pk2 n2 t2 va2 as2 vs2 ks2 h2 hA2 hk2 hs2 => cases ak
      | @tx b2 n2 x2 h2 =>
        refine ⟨_, rfl, b1, _, _, _, rfl, rfl, SqT.of (S.s _ _ h1), at_0, rfl, _, rfl, ite2 (fun _ => ?_) (fun c => absurd tt c)⟩
        refine ⟨_, rfl, b1, _, _, _, rfl, rfl, SqT.of (S.s _ _ h1), at_2, _, rfl, b2, _, _, _, rfl, rfl, SqT.of (S.s _ _ h2), at_2, rfl, _, rfl, ite2 (fun c => ?_) (fun c => ?_)⟩
        · have c' : x1 = x2 := V.str.inj (of_decide_eq_true c)
          refine ⟨by show 0 ≤ sizeLine; decide, fun p hp => q p [] _ _ (S.alloc hp) (S.grow hp) upd_same ?_⟩
          simp only [ownD, c', if_true]
          exact .nil
        · have c' : ¬ x1 = x2 := fun z => c (decide_eq_true (by rw [z]))
          refine ⟨_, rfl, b2, _, _, _, rfl, rfl, SqT.of (S.s _ _ h2), at_1, _, rfl, b2, _, _, _, rfl, rfl, SqT.of (S.s _ _ h2), at_2, by show 3 ≤ sizeLine; decide, fun t ht => ⟨by show 1 ≤ sizeLine; decide, fun p hp => ?_⟩⟩
          have S1 := S.alloc (o := .tup [.str "text", .int n2, .str x2]) ht
          have g1 := S.grow (o := .tup [.str "text", .int n2, .str x2]) ht
          refine q p [.ref t] _ _ (S1.alloc hp) (Same.trans g1 (S1.grow hp)) upd_same ?_
          simp only [ownD, c', if_false]
          exact .cons (.txt (S1.grow hp _ _ upd_same)) .nil
    | @el b1 pk1 n1 t1 va1 as1 vs1 ks1 h1 hA1 hk1 hs1 =>
      cases he with
      | @tx b2 n2 x2 h2 => cases ak
      | @el b2 pk2 n2 t2 va2 as2 vs2 ks2 h2 hA2 hk2 hs2 =>
        refine ⟨_, rfl, b1, _, _, _, rfl, rfl, SqT.of (S.s _ _ h1), at_0, rfl, _, rfl, ite2 (fun c => absurd c et) (fun _ => ?_)⟩
        obtain ⟨at1, o1, ps1, rfl, ha1, hb1, hc1⟩ := hA1
        obtain ⟨at2, o2, ps2, rfl, ha2, hb2, hc2⟩ := hA2
        have nd1 : (as1.map (·.1)).Nodup := nd.1
        have nd2 : (as2.map (·.1)).Nodup := ne.1
        have l1 : (as1.map (·.1)).length ≤ 100 := nd.2
        have l2 : (as2.map (·.1)).length ≤ 100 := ne.2
        rw [List.length_map] at l1 l2
        refine ⟨_, rfl, b1, _, _, _, rfl, rfl, SqT.of (S.s _ _ h1), rfl, at1, o1, ps1, as1.map entS, rfl, S.s _ _ ha1, hb1, pair_ent (Paired.mono (fun _ _ z => S.s _ _ z) hc1), fun D1 hD1 => ?_⟩
        rw [mergeK_nd _ [] (ent_nd nd1), List.nil_append]
        have S1 := S.add (o := .dK (as1.map entS)) hD1
        refine ⟨_, rfl, b2, _, _, _, rfl, rfl, SqT.of (S1.s _ _ h2), rfl, at2, o2, ps2, as2.map entS, rfl, S1.s _ _ ha2, hb2, pair_ent (Paired.mono (fun _ _ z => S1.s _ _ z) hc2), fun D2 hD2 => ?_⟩
        rw [mergeK_nd _ [] (ent_nd nd2), List.nil_append]
        have S2 := S1.add (o := .dK (as2.map entS)) hD2
        have hn1 : n1 = n2 := en
        subst hn1
        refine ⟨D1, _, S2.hd2, trivial, fun od => ?_⟩
        have S3 := S2.put2 (u := .frz od (.dK (as1.map entS)))
        refine ⟨_, rfl, D1, od, rfl, .inl ⟨_, S3.hd2, fun U hU => ?_⟩⟩
        refine lc_it (walk_keys (d := D1) (o := od) (kvs := as1.map entS)) (fun j H' => ∃ us G', Sb G' H' ((U, .lst us) :: (D2, .dK (as2.map entS)) :: (D1, .frz od (.dK (as1.map entS))) :: M) ∧ Same G G' ∧ Paired (OpA G') us (((as1.take j).filter fun p => decide (p.1 ∉ as2.map (·.1))).map fun p => OpD.uns n1 p.1)) ⟨[], G, S3.add (o := .lst []) hU, Same.refl _, by rw [List.take_zero]; exact .nil⟩ (fun j H' _ z => by obtain ⟨_, _, z, _⟩ := z; exact z.hd3) ?_ ?_
        · rintro j x H4 H5 hj ⟨us, G4, S4, g4, hus⟩ ⟨rfl, k, v, hk, rfl⟩
          rw [List.getElem?_map] at hk
          obtain ⟨y, hy, ey⟩ := Option.map_eq_some_iff.mp hk
          cases ey
          have ef : ((as1.take (j + 1)).filter fun p => decide (p.1 ∉ as2.map (·.1))) = ((as1.take j).filter fun p => decide (p.1 ∉ as2.map (·.1))) ++ [y].filter fun p => decide (p.1 ∉ as2.map (·.1)) := by
            rw [List.take_add_one, hy, List.filter_append]
            rfl
          have ul := Paired.length hus
          rw [List.length_map] at ul
          have fl := List.length_filter_le (fun p : Pss => decide (p.1 ∉ as2.map (·.1))) (as1.take j)
          rw [List.length_take] at fl
          have dk := DGet.k (k := .inr y.1) S4.hd2
          by_cases hc : y.1 ∈ as2.map (·.1)
          · obtain ⟨z, hz, ez⟩ := List.mem_map.mp hc
            have hv := valE_yes nd2 hz
            rw [show z.1 = y.1 from ez] at hv
            rw [hv] at dk
            refine ⟨rfl, _, rfl, _, rfl, D2, _, rfl, dk, _, rfl, iteF ⟨us, G4, S4, g4, ?_⟩⟩
            rw [ef]
            simp only [List.filter_cons, hc, not_true_eq_false, decide_false, Bool.false_eq_true, if_false, List.filter_nil, List.append_nil]
            exact hus
          · rw [valE_no hc] at dk
            refine ⟨rfl, _, rfl, _, rfl, D2, _, rfl, dk, _, rfl, iteT ⟨_, rfl, b2, _, _, _, rfl, rfl, SqT.of (S4.s _ _ (g4 _ _ h2)), at_1, _, rfl, by show 3 ≤ sizeLine; decide, fun t ht => ?_⟩⟩
            have S5 := S4.alloc (o := .tup [.str "unset", .int n1, .str y.1]) ht
            have g5 := S4.grow (o := .tup [.str "unset", .int n1, .str y.1]) ht
            refine ⟨us, S5.hd, Nat.lt_of_le_of_lt (by rw [ul]; exact Nat.le_trans (List.length_filter_le _ _) (by rw [List.length_take]; show min j as1.length ≤ 100; omega)) (show 100 < sizeLine by decide), us ++ [.ref t], _, S5.put, Same.trans g4 g5, ?_⟩
            rw [ef, List.map_append]
            refine paired_app (OpA.sames g5 hus) ?_
            simp only [List.filter_cons, hc, not_false_eq_true, decide_true, if_true, List.filter_nil, List.map_cons, List.map_nil]
            exact .cons (.uns upd_same) .nil
        · rintro H4 ⟨us, G4, S4, g4, hus⟩
          rw [List.take_of_length_le (by rw [List.length_map]; exact Nat.le_refl _)] at hus
          have ul := Paired.length hus
          rw [List.length_map] at ul
          have fl := List.length_filter_le (fun p : Pss => decide (p.1 ∉ as2.map (·.1))) as1
          refine ⟨S4.hd3, ?_⟩
          have S5 := S4.put3 (u := .dK (as1.map entS))
          refine ⟨_, rfl, D2, _, S5.hd2, trivial, fun od2 => ?_⟩
          have S6 := S5.put2 (u := .frz od2 (.dK (as2.map entS)))
          refine ⟨_, rfl, D2, od2, rfl, .inl ⟨_, S6.hd2, fun W hW => ?_⟩⟩
          refine lc_it (walk_keys (d := D2) (o := od2) (kvs := as2.map entS)) (fun j H' => ∃ ws G', Sb G' H' ((W, .lst ws) :: (U, .lst us) :: (D2, .frz od2 (.dK (as2.map entS))) :: (D1, .dK (as1.map entS)) :: M) ∧ Same G4 G' ∧ Paired (OpA G') ws (((as2.take j).filter fun p => decide (p ∉ as1)).map fun p => OpD.set n1 p.1 p.2)) ⟨[], G4, S6.add (o := .lst []) hW, Same.refl _, by rw [List.take_zero]; exact .nil⟩ (fun j H' _ z => by obtain ⟨_, _, z, _⟩ := z; exact z.hd3) ?_ ?_
          · rintro j x H5 H6 hj ⟨ws, G5, S7, g5, hws⟩ ⟨rfl, k, v, hk, rfl⟩
            rw [List.getElem?_map] at hk
            obtain ⟨y, hy, ey⟩ := Option.map_eq_some_iff.mp hk
            cases ey
            have ef : ((as2.take (j + 1)).filter fun p => decide (p ∉ as1)) = ((as2.take j).filter fun p => decide (p ∉ as1)) ++ [y].filter fun p => decide (p ∉ as1) := by
              rw [List.take_add_one, hy, List.filter_append]
              rfl
            have wl := Paired.length hws
            rw [List.length_map] at wl
            have fl2 := List.length_filter_le (fun p : Pss => decide (p ∉ as1)) (as2.take j)
            rw [List.length_take] at fl2
            have dk1 := DGet.k (k := .inr y.1) S7.hd4
            have dk2 := dget_fz (k := .inr y.1) S7.hd3
            rw [valE_yes nd2 (List.mem_of_getElem? hy)] at dk2
            obtain ⟨ov, hov, hcmp, hsc⟩ : ∃ ov, valV (as1.map entS) (Sum.inr y.1 : L2.Key) = ov ∧ ((ov.getD .non = V.str y.2) ↔ y ∈ as1) ∧ scal (ov.getD .non) (.str y.2) = true := by
              refine ⟨_, rfl, ?_, ?_⟩
              · by_cases hc : y.1 ∈ as1.map (·.1)
                · obtain ⟨z, hz, ez⟩ := List.mem_map.mp hc
                  have ez : z.1 = y.1 := ez
                  have hv := valE_yes nd1 hz
                  rw [ez] at hv
                  rw [hv]
                  constructor
                  · intro h
                    have h : z.2 = y.2 := V.str.inj h
                    rw [← show z = y from Prod.ext ez h]
                    exact hz
                  · intro h
                    have hv2 := valE_yes nd1 h
                    rw [hv2] at hv
                    have := Option.some.inj hv
                    exact this.symm
                · rw [valE_no hc]
                  constructor
                  · intro h
                    cases h
                  · intro h
                    exact absurd (List.mem_map.mpr ⟨y, h, rfl⟩) hc
              · by_cases hc : y.1 ∈ as1.map (·.1)
                · obtain ⟨z, hz, ez⟩ := List.mem_map.mp hc
                  have ez : z.1 = y.1 := ez
                  have hv := valE_yes nd1 hz
                  rw [ez] at hv
                  rw [hv]
                  rfl
                · rw [valE_no hc]
                  rfl
            rw [hov] at dk1
            refine ⟨rfl, _, rfl, D1, rfl, .inl ⟨_, .inl S7.hd4⟩, _, rfl, ov, dk1, _, rfl, _, rfl, D2, _, rfl, dk2, hsc, _, rfl, ?_⟩
            by_cases hc : y ∈ as1
            · refine iteF' (by rw [decide_eq_true (hcmp.mpr hc)]; rfl) ⟨ws, G5, S7, g5, ?_⟩
              rw [ef]
              simp only [List.filter_cons, hc, not_true_eq_false, decide_false, Bool.false_eq_true, if_false, List.filter_nil, List.append_nil]
              exact hws
            · refine iteT' (by rw [decide_eq_false (fun z => hc (hcmp.mp z))]; rfl) ⟨_, rfl, b2, _, _, _, rfl, rfl, SqT.of (S7.s _ _ (g5 _ _ (g4 _ _ h2))), at_1, _, rfl, _, rfl, _, rfl, D2, _, rfl, dk2, by show 4 ≤ sizeLine; decide, fun t ht => ?_⟩
              have S8 := S7.alloc (o := .tup [.str "set", .int n1, .str y.1, .str y.2]) ht
              have g8 := S7.grow (o := .tup [.str "set", .int n1, .str y.1, .str y.2]) ht
              refine ⟨ws, S8.hd, Nat.lt_of_le_of_lt (by rw [wl]; exact Nat.le_trans (List.length_filter_le _ _) (by rw [List.length_take]; show min j as2.length ≤ 100; omega)) (show 100 < sizeLine by decide), ws ++ [.ref t], _, S8.put, Same.trans g5 g8, ?_⟩
              rw [ef, List.map_append]
              refine paired_app (OpA.sames g8 hws) ?_
              simp only [List.filter_cons, hc, not_false_eq_true, decide_true, if_true, List.filter_nil, List.map_cons, List.map_nil]
              exact .cons (.set upd_same) .nil
          · rintro H5 ⟨ws, G5, S7, g5, hws⟩
            rw [List.take_of_length_le (by rw [List.length_map]; exact Nat.le_refl _)] at hws
            have wl := Paired.length hws
            rw [List.length_map] at wl
            refine ⟨S7.hd3, ?_⟩
            have S8 := S7.put3 (u := .dK (as2.map entS))
            refine ⟨U, W, us, ws, rfl, rfl, S8.hd2, S8.hd, ?_, fun p hp => ?_⟩
            · rw [ul, wl]
              exact Nat.le_trans (Nat.add_le_add (List.length_filter_le _ _) (List.length_filter_le _ _)) (Nat.le_trans (Nat.add_le_add l1 l2) (show 100 + 100 ≤ sizeLine by decide))
            obtain ⟨T1, j1⟩ := S8.drop
            obtain ⟨T2, j2⟩ := T1.drop
            obtain ⟨T3, j3⟩ := T2.drop
            obtain ⟨T4, j4⟩ := T3.drop
            have j5 := T4.grow (o := .lst (us ++ ws)) hp
            have j15 := Same.trans j1 (Same.trans j2 (Same.trans j3 (Same.trans j4 j5)))
            exact q p (us ++ ws) _ _ (T4.alloc hp) (Same.trans g4 (Same.trans g5 j15)) upd_same (paired_app (OpA.sames (Same.trans g5 j15) hus) (OpA.sames j15 hws))
end
end VL

set_option Elab.async false
set_option linter.all false
set_option pp.maxSteps 700
set_option maxRecDepth 100000
set_option maxHeartbeats 4000000
namespace VL
open PySem PySem.Spec PyProof.Rows L2
def spPlc : Sp := fun vs H Q _ => ∃ (par : Int) (kp b : Addr) (kept : List Int) (new : List Dn) (G : Hp) (M : List (Addr × HO)), vs = [.int par, .ref kp, .ref b] ∧ Sb G H M ∧ G kp = some (.lst (kept.map V.int)) ∧ kept.Nodup ∧ kept.length ≤ 400 ∧ TupD G b new ∧ Dok new ∧ ∀ p us G' H', Sb G' H' M → Same G G' → G' p = some (.lst us) → Paired (OpA G') us (plcS kept par new) → Q (.ref p) H'
def NumA (kvs : List (Key × V)) (kept : List Int) (j : Nat) : Prop := ∀ n : Int, valV kvs (Sum.inl n : Key) = if n ∈ kept.take j then some (.int (ixL kept n)) else none
def StyA (kvs : List (Key × V)) (kept row : List Int) : Prop := ∀ n : Int, (valV kvs (Sum.inl n : Key)).isSome = decide (n ∈ kept ∧ ixL kept n ∈ row)
theorem at_ix {kept : List Int} {n : Int} (h : n ∈ kept) : kept[kept.idxOf n]? = some n := by
  have hl := List.idxOf_lt_length_of_mem h
  rw [List.getElem?_eq_getElem hl]
  exact congrArg some (List.getElem_idxOf hl)
theorem ix_at {kept : List Int} {j : Nat} {n : Int} (kn : kept.Nodup) (h : kept[j]? = some n) : ixL kept n = (j : Int) := by
  have hm := List.mem_of_getElem? h
  have h2 := at_ix hm
  have : kept.idxOf n = j := (List.getElem?_inj (List.idxOf_lt_length_of_mem hm) kn).mp (h2.trans h.symm)
  unfold ixL
  rw [this]
theorem ix_inj {kept : List Int} {n m : Int} (hn : n ∈ kept) (hm : m ∈ kept) (h : ixL kept n = ixL kept m) : n = m := by
  have h1 := at_ix hn
  have h2 := at_ix hm
  have : kept.idxOf n = kept.idxOf m := Int.ofNat.inj h
  rw [this, h2] at h1
  exact (Option.some.inj h1).symm
theorem rowL_app (kept : List Int) (a b : List Dn) : rowL kept (a ++ b) = rowL kept a ++ rowL kept b := by
  unfold rowL
  rw [List.filter_append, List.map_append]
theorem rowL_len (kept : List Int) (a : List Dn) : (rowL kept a).length ≤ a.length := by
  unfold rowL
  rw [List.length_map]
  exact List.length_filter_le _ _
theorem row_ix {kept : List Int} {new : List Dn} {i : Int} (h : i ∈ bestR (rowL kept new)) : ∃ m ∈ kept, ixL kept m = i := by
  have h1 := (grd_sub (lisg ltI (rowL kept new)) none (bestL (lisg ltI (rowL kept new)))).subset h
  rw [lisg_fst] at h1
  obtain ⟨d, hd, e⟩ := List.mem_map.mp h1
  exact ⟨d.num, of_decide_eq_true (List.mem_filter.mp hd).2, e⟩
theorem best_len (ns : List Int) : (bestR ns).length ≤ ns.length := by
  have := (grd_sub (lisg ltI ns) none (bestL (lisg ltI ns))).length_le
  rwa [lisg_fst] at this
theorem plcF_len (kept stay : List Int) (par : Int) (d : Dn) (ah : Option Int) : (plcF kept stay par d ah).length ≤ 1 := by
  unfold plcF
  split
  · split
    · exact Nat.zero_le _
    · exact Nat.le_refl _
  · exact Nat.le_refl _
theorem plcA_len (kept : List Int) (par : Int) (new : List Dn) (k : Nat) : (plcA kept par new k).length ≤ 1 := by
  unfold plcA
  split
  · exact Nat.zero_le _
  · exact plcF_len _ _ _ _ _
theorem plcR_len (kept : List Int) (par : Int) (new : List Dn) : ∀ i : Nat, ((List.range i).flatMap (plcA kept par new)).length ≤ i
  | 0 => Nat.le_refl _
  | i + 1 => by
    have h1 := plcR_len kept par new i
    have h2 := plcA_len kept par new i
    rw [List.range_succ, List.flatMap_append, List.length_append]
    simp only [List.flatMap_cons, List.flatMap_nil, List.append_nil]
    omega
theorem plcS_len (kept : List Int) (par : Int) (new : List Dn) : (plcS kept par new).length ≤ new.length := plcR_len kept par new new.length
section
variable {P : Program} {w : World} {K : PySem.W.Frag} {mg : Str → Option Value} {base : Heap} {C : Ad}
theorem sc_placings : FnScope ["parent", "kept", "new", "numbers", "node", "row", "staying", "found", "ahead", "index", "number"] ["parent", "kept", "new"] (defScope s_placings) := ⟨rfl, rfl, rfl, by decide +kernel, rfl, by decide +kernel, by decide +kernel⟩
theorem ok_plc (T : Txt K w mg C) : Cal P w K mg base 4 "placings" spPlc := by
  have Gbest_row := ok_best (P := P) (base := base) T
  refine cal_of T.d_placings sc_placings (fun vs H Q E h => ?_) (fun f cdv A outer s H vs Q E hr h => ?_)
  · obtain ⟨par, kp, b, kept, new, G, M, rfl, _⟩ := h
    rfl
  · obtain ⟨par, kp, b, kept, new, G, M, rfl, S, hk, kn, kl, ⟨ys, hb1, hb2⟩, dn, q⟩ := h
    have hu := hu_of hr
    have yl := hb2.len
    have nl := dn.short
    have big : 10000 < sizeLine := by decide
    refine ⟨_, (pss_cons (ps_set (i := 3) sc_placings.nd rfl (Or.inr rfl) (pe_dc (own := [("index", 9), ("number", 10)]) (g := gTup K 2 (gCons (gName 9) (gCons (gName 10) (gNil)))) (tt := tYes) rfl sc_placings.nd (pi_enum (by rfl) T.z_enumerate (pa_cons (pv 1) pa_nil)) (blkOk_by (N := ["parent", "kept", "new", "numbers", "node", "row", "staying", "found", "ahead", "index", "number"]) (sc := (defScope s_placings)) (by decide +kernel)) (fun _ _ _ _ _ => pg_tupS (K := K) rfl rfl (pgs_cons (pg_name (i := 9) sc_placings.nd rfl (Or.inl rfl)) (pgs_cons (pg_name (i := 10) sc_placings.nd rfl (Or.inl rfl)) pgs_nil))) (fun _ _ _ _ _ => pts_nil) (fun _ _ _ _ _ => (pv 10)) (fun _ _ _ _ _ => (pv 9)))) (pss_cons (ps_set (i := 5) sc_placings.nd rfl (Or.inl rfl) (pe_c Gbest_row hr (by decide) (by rfl) (pa_cons (pe_lc (own := [("node", 4)]) (g := gName 4) (tt := _) rfl sc_placings.nd (pi_tup (pv 2)) (blkOk_by (N := ["parent", "kept", "new", "numbers", "node", "row", "staying", "found", "ahead", "index", "number"]) (sc := (defScope s_placings)) (by decide +kernel)) (fun _ _ _ _ _ => pg_name (i := 4) sc_placings.nd rfl (Or.inl rfl)) (fun _ _ _ _ _ => pts_one (pt_cmp (pc_din hu (pe_ix (ix_tupS (K := K) rfl) (pv 4) pe_int (fun _ _ => rfl)) (pv 3)))) (fun _ _ _ _ _ => (pe_dget hu (pv 3) (pe_ix (ix_tupS (K := K) rfl) (pv 4) pe_int (fun _ _ => rfl)) (fun _ _ => rfl)))) pa_nil))) (pss_cons (ps_setDc (i := 6) (own := [("index", 9)]) (g := gName 9) (tt := tYes) rfl sc_placings.nd rfl rfl (sw_trueD rfl rfl rfl (by decide +kernel)) (pi_list (pv 5)) (blkOk_by (N := ["parent", "kept", "new", "numbers", "node", "row", "staying", "found", "ahead", "index", "number"]) (sc := (defScope s_placings)) (by decide +kernel)) (fun _ _ _ _ _ => pg_name (i := 9) sc_placings.nd rfl (Or.inl rfl)) (fun _ _ _ _ _ => pts_nil) (fun _ _ _ _ _ => (pe_ix (ix_listS (K := K) rfl) (pv 1) (pv 9) (fun _ _ => rfl))) (fun _ _ _ _ _ => pe_bl)) (pss_cons (ps_set (i := 7) sc_placings.nd rfl (Or.inl rfl) (pe_lst pa_nil)) (pss_cons (ps_set (i := 8) sc_placings.nd rfl (Or.inl rfl) pe_non) (pss_cons (ps_for PassesOwn.never rfl (RT.pi_revA (by rfl) T.z_reversed (pv 2)) (pg_name (i := 4) sc_placings.nd rfl (Or.inl rfl)) (pss_cons (ps_if (pt_cmp (pc_dnotin hu (pe_ix ix_tup (pv 4) pe_int (fun _ _ => rfl)) (pv 3))) (pss_one (ps_expr (pe_bm PySem.F.plainAttrs_list PySem.F.slot_list_append PySem.F.type_list_append mt_append (pv 7) (pa_cons (pe_tup (pa_cons pe_str (pa_cons (pv 0) (pa_cons (pv 4) (pa_cons (pv 8) pa_nil))))) pa_nil)))) (pss_one (ps_if (pt_cmp (pc_dnotin hu (pe_ix ix_tup (pv 4) pe_int (fun _ _ => rfl)) (pv 6))) (pss_one (ps_expr (pe_bm PySem.F.plainAttrs_list PySem.F.slot_list_append PySem.F.type_list_append mt_append (pv 7) (pa_cons (pe_tup (pa_cons pe_str (pa_cons (pv 0) (pa_cons (pe_ix ix_tup (pv 4) pe_int (fun _ _ => rfl)) (pa_cons (pv 8) pa_nil))))) pa_nil)))) pss_nil))) (pss_one (ps_set (i := 8) sc_placings.nd rfl (Or.inl rfl) (pe_ix ix_tup (pv 4) pe_int (fun _ _ => rfl)))))) (pss_one (ps_ret (pv 7))))))))), ?_⟩
    refine ⟨_, rfl, kp, _, rfl, SqL.of (S.s _ _ hk), fun D hD => ?_⟩
    refine dc_itQ (walk_enum (K := K) (a := kp) (xs := kept.map V.int)) (fun j H' => ∃ kvs G', Sb G' H' ((D, .dK kvs) :: M) ∧ Same G G' ∧ kvs.length ≤ j ∧ NumA kvs kept j) ⟨[], G, S.add (o := .dK []) hD, Same.refl _, Nat.le_refl _, fun n => by rw [List.take_zero]; rfl⟩ (fun j H' _ z => by obtain ⟨_, _, z, g, _⟩ := z; exact SqL.of (z.s _ _ (g _ _ hk))) ?_ ?_
    · rintro j v H2 H3 hj ⟨kvs, G2, S2, g2, l2, na⟩ ⟨T0, x, y, rfl, hT, rfl, hy1, hy2⟩
      cases hy1
      have hj' : j < kept.length := by rw [List.length_map] at hj; exact hj
      have hy2 : (kept.map V.int)[j]? = some y := hy2
      rw [List.getElem?_map] at hy2
      obtain ⟨n, hn, rfl⟩ := Option.map_eq_some_iff.mp hy2
      have S3 := S2.alloc (o := .tup [V.int (j : Int), V.int n]) hT
      have g3 := S2.grow (o := .tup [V.int (j : Int), V.int n]) hT
      refine ⟨_, _, rfl, SqT.of upd_same, rfl, _, _, rfl, _, _, rfl, rfl, rfl, _, rfl, _, rfl, kvs, .inl n, rfl, S3.hd, ?_, putK kvs (.inl n) (.int (j : Int)), _, S3.put, Same.trans g2 g3, ?_, fun m => ?_⟩
      · exact Nat.lt_of_le_of_lt (show kvs.length ≤ 400 by omega) (by decide)
      · have := length_putK' kvs (.inl n) (.int (j : Int))
        omega
      · rw [valV_put, List.take_add_one, hn]
        by_cases e : m = n
        · subst e
          rw [if_pos rfl, if_pos (by simp), ix_at kn hn]
        · rw [if_neg (fun z => e (Sum.inl.inj z)), na m]
          by_cases c : m ∈ kept.take j
          · rw [if_pos c, if_pos (List.mem_append_left _ c)]
          · rw [if_neg c, if_neg (fun z => by
              rcases List.mem_append.mp z with z | z
              · exact c z
              · exact e (by simpa using z))]
    · rintro H2 ⟨kvs, G2', S2', g2', l2, na⟩
      rw [List.length_map] at na
      have na : ∀ n : Int, valV kvs (Sum.inl n : Key) = if n ∈ kept then some (.int (ixL kept n)) else none := fun n => by
        have := na n
        rwa [List.take_length] at this
      obtain ⟨S2, g2''⟩ := S2'.drop
      have g2 := Same.trans g2' g2''
      have hD2 : upd G2' D (.dK kvs) D = some (.dK kvs) := upd_same
      generalize upd G2' D (.dK kvs) = G2 at S2 g2 hD2
      clear S2' g2' g2'' hD
      have hb3 := hb2.same g2
      refine ⟨_, rfl, b, rfl, ⟨_, SqT.of (S2.s _ _ (g2 _ _ hb1))⟩, fun R0 hR0 => ?_⟩
      refine lc_it (walk_tup (K := K) (a := b) (xs := ys)) (fun j H' => Sb G2 H' ((R0, .lst ((rowL kept (new.take j)).map V.int)) :: M)) (S2.add (o := .lst []) hR0) (fun j H' _ z => SqT.of (z.s _ _ (g2 _ _ hb1))) ?_ ?_
      · rintro j x H3 H4 hj S3 ⟨rfl, hx⟩
        obtain ⟨d, hd, hxd⟩ := hb3.get' hx
        obtain ⟨c, ws, rfl, hc⟩ := hxd.at
        have dk := DGet.k (k := .inl d.num) (S3.s _ _ hD2)
        have et : rowL kept (new.take (j + 1)) = rowL kept (new.take j) ++ rowL kept [d] := by
          rw [List.take_add_one, hd, rowL_app]
          rfl
        have rl := rowL_len kept (new.take j)
        rw [List.length_take] at rl
        rw [na] at dk
        by_cases hc2 : d.num ∈ kept
        · rw [if_pos hc2] at dk
          refine ⟨rfl, _, rfl, c, _, _, _, rfl, rfl, SqT.of (S3.s _ _ hc), at_1, _, rfl, D, _, rfl, dk, _, rfl, iteT ⟨_, rfl, _, rfl, c, _, _, _, rfl, rfl, SqT.of (S3.s _ _ hc), at_1, D, _, rfl, dk, _, S3.hd, ?_, S3.put.eqo ?_⟩⟩
          · rw [List.length_map]
            exact Nat.lt_of_le_of_lt (show (rowL kept (new.take j)).length ≤ 400 by omega) (by decide)
          · rw [et, List.map_append]
            simp [rowL, hc2]
        · rw [if_neg hc2] at dk
          refine ⟨rfl, _, rfl, c, _, _, _, rfl, rfl, SqT.of (S3.s _ _ hc), at_1, _, rfl, D, _, rfl, dk, _, rfl, iteF (S3.eqo ?_)⟩
          rw [et]
          simp [rowL, hc2]
      rintro H3 S3'
      rw [List.take_of_length_le (by omega)] at S3'
      obtain ⟨S3, g3⟩ := S3'.drop
      have rl := rowL_len kept new
      refine ⟨R0, rowL kept new, rfl, S3'.hd, by omega, fun R H4 s4 hr0 hr1 => ?_⟩
      have hr1 : H4 R = some (.lst ((bestR (rowL kept new)).map V.int)) := hr1
      have S4' := S3.call s4
      have hR4 : joinH (upd G2 R0 (.lst ((rowL kept new).map V.int))) (newer H3 H4) R = some (.lst ((bestR (rowL kept new)).map V.int)) := joinH_r S3.s _ _ (newer_mk hr0 hr1)
      have g4' : Same (upd G2 R0 (.lst ((rowL kept new).map V.int))) (joinH (upd G2 R0 (.lst ((rowL kept new).map V.int))) (newer H3 H4)) := joinH_l
      generalize joinH (upd G2 R0 (.lst ((rowL kept new).map V.int))) (newer H3 H4) = G4 at S4' hR4 g4'
      have g24 := Same.trans g3 g4'
      have g4 := Same.trans g2 g24
      have hD4 := g24 _ _ hD2
      have S4 := S4'
      clear S3' S3 g3 S4' g4'
      have hk4 := g4 _ _ hk
      have bl := best_len (rowL kept new)
      refine ⟨_, rfl, R, rfl, ⟨_, SqL.of (S4.s _ _ hR4)⟩, fun ST hST => ?_⟩
      refine dc_itQ (walk_list (K := K) (a := R) (xs := (bestR (rowL kept new)).map V.int)) (fun j H' => ∃ kv2, Sb G4 H' ((ST, .dK kv2) :: M) ∧ kv2.length ≤ j ∧ StyA kv2 kept ((bestR (rowL kept new)).take j)) ⟨[], S4.add (o := .dK []) hST, Nat.le_refl _, fun n => by rw [List.take_zero]; simp [valV_nil]⟩ (fun j H' _ z => by obtain ⟨_, z, _⟩ := z; exact SqL.of (z.s _ _ hR4)) ?_ ?_
      · rintro j x H5 H6 hj ⟨kv2, S5, kl2, sa⟩ ⟨rfl, hx⟩
        rw [List.getElem?_map] at hx
        obtain ⟨i, hi, rfl⟩ := Option.map_eq_some_iff.mp hx
        rw [List.length_map] at hj
        obtain ⟨m, hm, em⟩ := row_ix (List.mem_of_getElem? hi)
        have hat : atI (kept.map V.int) i = some (.int m) := by
          have h1 := at_ix hm
          have hl := List.idxOf_lt_length_of_mem hm
          rw [← em]
          unfold ixL atI ixN
          rw [if_pos (by omega), if_pos (by rw [List.length_map]; omega)]
          show (kept.map V.int)[((kept.idxOf m : Nat) : Int).toNat]? = _
          rw [Int.toNat_natCast, List.getElem?_map, h1]
          rfl
        refine ⟨rfl, _, rfl, _, rfl, kp, _, i, .int m, rfl, rfl, SqL.of (S5.s _ _ hk4), hat, kv2, .inl m, rfl, S5.hd, ?_, putK kv2 (.inl m) (.bl true), S5.put, ?_, fun n => ?_⟩
        · exact Nat.lt_of_le_of_lt (show kv2.length ≤ 400 by omega) (by decide)
        · have := length_putK' kv2 (.inl m) (.bl true)
          omega
        · rw [valV_put, List.take_add_one, hi]
          by_cases e : n = m
          · subst e
            rw [if_pos rfl]
            refine (decide_eq_true ⟨hm, List.mem_append_right _ ?_⟩).symm
            simp [em]
          · rw [if_neg (fun z => e (Sum.inl.inj z)), sa n]
            refine decide_eq_decide.mpr ⟨fun ⟨z1, z2⟩ => ⟨z1, List.mem_append_left _ z2⟩, fun ⟨z1, z2⟩ => ⟨z1, ?_⟩⟩
            rcases List.mem_append.mp z2 with z2 | z2
            · exact z2
            · have z2 : ixL kept n = i := by simpa using z2
              exact absurd (ix_inj z1 hm (z2.trans em.symm)) e
      rintro H5 ⟨kv2, S5', kl2, sa⟩
      rw [List.take_of_length_le (by rw [List.length_map]; exact Nat.le_refl _)] at sa
      obtain ⟨S5, g5'⟩ := S5'.drop
      have hST5 : upd G4 ST (.dK kv2) ST = some (.dK kv2) := upd_same
      have g5 := Same.trans g4 g5'
      have hD5 := g5' _ _ hD4
      generalize upd G4 ST (.dK kv2) = G5 at S5 g5' hST5 g5 hD5
      clear S5'
      have hb5 := hb2.same g5
      refine ⟨by show 0 ≤ sizeLine; decide, fun F hF => ?_⟩
      have S6 := S5.add (o := .lst []) hF
      have hF5 : upd H5 F (.lst []) b = some (.tup ys) := S6.s _ _ (g5 _ _ hb1)
      refine ⟨_, rfl, b, ys, rfl, .inr ⟨SqT.of hF5, ?_⟩⟩
      refine for_it walk_revT (fun i σ H' => ∃ (us : List V) (G' : Hp) (y4 : Option V), Sb G' H' ((F, .lst us) :: M) ∧ Same G5 G' ∧ Paired (OpA G') us ((List.range i).flatMap (plcA kept par new)) ∧ σ = [some (.int par), some (.ref kp), some (.ref b), some (.ref D), y4, some (.ref R), some (.ref ST), some (.ref F), some (intV ((new[new.length - i]?).map Dn.num)), none, none]) ⟨[], G5, _, S6, Same.refl _, .nil, by rw [Nat.sub_zero, List.getElem?_eq_none (Nat.le_refl _)]; rfl⟩ (fun j σ H' _ z => by obtain ⟨_, _, _, z, g, _⟩ := z; exact SqT.of (z.s _ _ (g _ _ (g5 _ _ hb1)))) ?_ ?_
      · rintro i x σ H6 H7 hi ⟨us, G7, y4, S7, g7, pu, rfl⟩ ⟨rfl, hx⟩
        have hb7 := hb5.same g7
        obtain ⟨d, hd, hxd⟩ := hb7.get' hx
        obtain ⟨c, ws, rfl, hc⟩ := hxd.at
        rw [yl] at hi hd
        have e1 : (List.range (i + 1)).flatMap (plcA kept par new) = (List.range i).flatMap (plcA kept par new) ++ plcF kept (bestR (rowL kept new)) par d ((new[new.length - i]?).map Dn.num) := by
          rw [List.range_succ, List.flatMap_append]
          simp only [List.flatMap_cons, List.flatMap_nil, List.append_nil]
          unfold plcA
          rw [hd]
        have e2 : (new[new.length - (i + 1)]?).map Dn.num = some d.num := by
          rw [show new.length - (i + 1) = new.length - 1 - i by omega, hd]
          rfl
        have ul := pu.length
        have rl := plcR_len kept par new i
        have hc7 := S7.s _ _ hc
        have hD7 := S7.s _ _ (g7 _ _ hD5)
        have hST7 := S7.s _ _ (g7 _ _ hST5)
        have dk := DGet.k (k := .inl d.num) hD7
        have dk2 := DGet.k (k := .inl d.num) hST7
        rw [na d.num] at dk
        have fin : ∀ (us' : List V) (G' H' : Hp), Sb G' H' ((F, .lst us') :: M) → Same G5 G' → Paired (OpA G') us' ((List.range (i + 1)).flatMap (plcA kept par new)) → ∃ (us : List V) (G' : Hp) (y4 : Option V), Sb G' H' ((F, .lst us) :: M) ∧ Same G5 G' ∧ Paired (OpA G') us ((List.range (i + 1)).flatMap (plcA kept par new)) ∧ ([some (V.int par), some (.ref kp), some (.ref b), some (.ref D), some (.ref c), some (.ref R), some (.ref ST), some (.ref F), some (.int d.num), none, none] : List (Option V)) = [some (.int par), some (.ref kp), some (.ref b), some (.ref D), y4, some (.ref R), some (.ref ST), some (.ref F), some (intV ((new[new.length - (i + 1)]?).map Dn.num)), none, none] := fun us' G' H' z1 z2 z3 => ⟨us', G', _, z1, z2, z3, by rw [e2]; rfl⟩
        by_cases ck : d.num ∈ kept
        · rw [if_pos ck] at dk
          refine ⟨_, rfl, c, _, _, _, rfl, rfl, SqT.of hc7, at_1, _, rfl, D, _, rfl, dk, _, rfl, iteF ?_⟩
          have sd := sa d.num
          by_cases cs : ixL kept d.num ∈ bestR (rowL kept new)
          · rw [decide_eq_true ⟨ck, cs⟩] at sd
            obtain ⟨v, hv⟩ := Option.isSome_iff_exists.mp sd
            rw [hv] at dk2
            refine ⟨_, rfl, c, _, _, _, rfl, rfl, SqT.of hc7, at_1, _, rfl, ST, _, rfl, dk2, _, rfl, iteF ?_⟩
            refine ⟨_, rfl, c, _, _, _, rfl, rfl, SqT.of hc7, at_1, fin us G7 _ S7 g7 ?_⟩
            rw [e1]
            unfold plcF
            rw [if_pos ck, if_pos cs, List.append_nil]
            exact pu
          · rw [decide_eq_false (fun z => cs z.2)] at sd
            have hv : valV kv2 (Sum.inl d.num : Key) = none := by
              cases h : (valV kv2 (Sum.inl d.num : Key)) with
              | none => rfl
              | some v => rw [h] at sd; cases sd
            rw [hv] at dk2
            refine ⟨_, rfl, c, _, _, _, rfl, rfl, SqT.of hc7, at_1, _, rfl, ST, _, rfl, dk2, _, rfl, iteT ?_⟩
            refine ⟨_, rfl, .inl ⟨rfl, _, SqL.of S7.hd⟩, _, rfl, _, rfl, c, _, _, _, rfl, rfl, SqT.of hc7, at_1, _, rfl, by show 4 ≤ sizeLine; decide, fun t ht => ?_⟩
            have S8 := S7.alloc (o := .tup [.str "move", .int par, .int d.num, intV ((new[new.length - i]?).map Dn.num)]) ht
            have g8 := S7.grow (o := .tup [.str "move", .int par, .int d.num, intV ((new[new.length - i]?).map Dn.num)]) ht
            refine ⟨F, us, .ref t, rfl, rfl, S8.hd, by show us.length < sizeLine; omega, _, rfl, c, _, _, _, rfl, rfl, SqT.of (S8.put.s _ _ (g8 _ _ hc)), at_1, fin (us ++ [.ref t]) _ _ S8.put (Same.trans g7 g8) ?_⟩
            rw [e1]
            unfold plcF
            rw [if_pos ck, if_neg cs]
            exact paired_app (OpA.sames g8 pu) (.cons (.mov upd_same) .nil)
        · rw [if_neg ck] at dk
          refine ⟨_, rfl, c, _, _, _, rfl, rfl, SqT.of hc7, at_1, _, rfl, D, _, rfl, dk, _, rfl, iteT ?_⟩
          refine ⟨_, rfl, .inl ⟨rfl, _, SqL.of S7.hd⟩, _, rfl, _, rfl, _, rfl, by show 4 ≤ sizeLine; decide, fun t ht => ?_⟩
          have S8 := S7.alloc (o := .tup [.str "insert", .int par, .ref c, intV ((new[new.length - i]?).map Dn.num)]) ht
          have g8 := S7.grow (o := .tup [.str "insert", .int par, .ref c, intV ((new[new.length - i]?).map Dn.num)]) ht
          refine ⟨F, us, .ref t, rfl, rfl, S8.hd, by show us.length < sizeLine; omega, _, rfl, c, _, _, _, rfl, rfl, SqT.of (S8.put.s _ _ (g8 _ _ hc)), at_1, fin (us ++ [.ref t]) _ _ S8.put (Same.trans g7 g8) ?_⟩
          rw [e1]
          unfold plcF
          rw [if_neg ck]
          exact paired_app (OpA.sames g8 pu) (.cons (.ins upd_same (hxd.same g8)) .nil)
      · rintro σ H6 ⟨us, G7, y4, S7, g7, pu, rfl⟩
        rw [yl] at pu
        obtain ⟨S8, g8⟩ := S7.drop
        exact ⟨_, rfl, q F us _ _ S8 (Same.trans g5 (Same.trans g7 g8)) upd_same (OpA.sames g8 pu)⟩
end
end VL

set_option Elab.async false
set_option linter.all false
set_option pp.maxSteps 700
set_option maxRecDepth 100000
set_option maxHeartbeats 4000000
namespace VL
open PySem PySem.Spec PyProof.Rows L2
def spChg (N : Nat) : Sp := fun vs H Q _ => ∃ (par : Int) (a b : Addr) (old new : List Dn) (G : Hp) (M : List (Addr × HO)), vs = [.int par, .ref a, .ref b] ∧ Sb G H M ∧ TupD G a old ∧ TupD G b new ∧ Dok old ∧ Dok new ∧ hS old ≤ N ∧ ∀ p us G' H', Sb G' H' M → Same G G' → G' p = some (.lst us) → Paired (OpA G') us (chgS par new old) → Q (.ref p) H'
theorem own_len {d e : Dn} (nd : NmOk d) (ne : NmOk e) : (ownD d e).length ≤ 201 := by
  have h1 := nd.2
  have h2 := ne.2
  cases d <;> cases e <;> simp only [ownD, namD, List.length_map, List.length_append, List.length_nil] at h1 h2 ⊢ <;> try omega
  · split
    · exact Nat.zero_le _
    · exact Nat.succ_le_succ (Nat.zero_le _)
  · rename_i as _ _ _ bs _
    have l1 := List.length_filter_le (fun p : Str × Str => decide (p.1 ∉ bs.map (·.1))) as
    have l2 := List.length_filter_le (fun p : Str × Str => decide (p ∉ as)) bs
    omega
mutual
theorem chg_lenN : ∀ (new : List Dn) (d : Dn), Dok new → AllD NmOk d → (chgN new d).length ≤ 601 * (numN d).length
  | new, .tx n x, h, nd => by
    simp only [chgN, numN]
    cases hp : parD new (.tx n x) with
    | none => simp
    | some e =>
      have pm := parD_mem hp
      have h1 := own_len nd.own (h.own pm.1)
      have h2 := plcS_len [] n e.kids
      have h3 := (h.kids pm.1).short
      simp only [List.length_append, List.length_cons, List.length_nil]
      omega
  | new, .el n t as ks, h, nd => by
    simp only [chgN, numN]
    cases hp : parD new (.el n t as ks) with
    | none => simp
    | some e =>
      have pm := parD_mem hp
      have h1 := own_len nd.own (h.own pm.1)
      have h2 := plcS_len (keptL ks e.kids) n e.kids
      have h3 := (h.kids pm.1).short
      have h4 := chg_lenS e.kids ks (h.kids pm.1) nd.kids
      simp only [List.length_append, List.length_cons]
      omega
theorem chg_lenS : ∀ (new : List Dn) (ks : List Dn), Dok new → AllS NmOk ks → (chgM new ks).length ≤ 601 * (numS ks).length
  | new, [], h, nd => by simp [chgM]
  | new, d :: r, h, nd => by
    simp only [AllS] at nd
    have h1 := chg_lenN new d h nd.1
    have h2 := chg_lenS new r h nd.2
    simp only [chgM, numS, List.length_append]
    omega
end
theorem chgM_app (new a b : List Dn) : chgM new (a ++ b) = chgM new a ++ chgM new b := by rw [chgM_map, chgM_map, chgM_map, List.flatMap_append]
theorem chgM_one (new : List Dn) (d : Dn) : chgM new [d] = chgN new d := by simp only [chgM, List.append_nil]
section
variable {P : Program} {w : World} {K : PySem.W.Frag} {mg : Str → Option Value} {base : Heap} {C : Ad}
theorem sc_changes : FnScope ["parent", "old", "new", "partners", "node", "after", "found"] ["parent", "old", "new"] (defScope s_changes) := ⟨rfl, rfl, rfl, by decide +kernel, rfl, by decide +kernel, by decide +kernel⟩
theorem chg_0 (T : Txt K w mg C) {k : Nat} : Cal P w K mg base (k + 1) "changes" spFalse := cal_of T.d_changes sc_changes (fun vs H Q E h => h.elim) (fun f cdv A outer s H vs Q E hr h => h.elim)
theorem chg_S (T : Txt K w mg C) {N : Nat} {sp : Sp} (hsp : ∀ m, m + 1 = N → sp = spChg m) (Gchanges : Cal P w K mg base (N + 4) "changes" sp) : Cal P w K mg base (N + 5) "changes" (spChg N) := by
  have Gpartners_of := ok_part (P := P) (base := base) T
  have Gkids_in := ok_kidsF (P := P) (base := base) T
  have Gown_changes := ok_own (P := P) (base := base) T
  have Gplacings := ok_plc (P := P) (base := base) T
  refine cal_of T.d_changes sc_changes (fun vs H Q E h => ?_) (fun f cdv A outer s H vs Q E hr h => ?_)
  · obtain ⟨par, a, b, old, new, G, M, rfl, _⟩ := h
    rfl
  · obtain ⟨par, a, b, old, new, G, M, rfl, S, hta, htb, do_, dn, hN, q⟩ := h
    have hu := hu_of hr
    have big : 600000 < sizeLine := by decide
    have nl := dn.short
    have ol := do_.short
    refine ⟨_, (pss_cons (ps_set (i := 3) sc_changes.nd rfl (Or.inr rfl) (pe_c Gpartners_of hr (by omega) (by rfl) (pa_cons (pv 1) (pa_cons (pv 2) pa_nil)))) (pss_cons (ps_setDc (i := 5) (own := [("node", 4)]) (g := gName 4) (tt := tYes) rfl sc_changes.nd rfl rfl (sw_trueD rfl rfl rfl (by decide +kernel)) (pi_tup (pv 2)) (blkOk_by (N := ["parent", "old", "new", "partners", "node", "after", "found"]) (sc := (defScope s_changes)) (by decide +kernel)) (fun _ _ _ _ _ => pg_name (i := 4) sc_changes.nd rfl (Or.inl rfl)) (fun _ _ _ _ _ => pts_nil) (fun _ _ _ _ _ => (pe_ix (ix_tupS (K := K) rfl) (pv 4) pe_int (fun _ _ => rfl))) (fun _ _ _ _ _ => (pv 4))) (pss_cons (ps_set (i := 6) sc_changes.nd rfl (Or.inl rfl) (pe_lst pa_nil)) (pss_cons (ps_for PassesOwn.never rfl (pi_tup (pv 1)) (pg_name (i := 4) sc_changes.nd rfl (Or.inl rfl)) (pss_one (ps_if (pt_cmp (pc_din hu (pe_ix ix_tup (pv 4) pe_int (fun _ _ => rfl)) (pv 3))) (pss_cons (ps_aug (i := 6) sc_changes.nd rfl (Or.inl rfl) (pe_c Gown_changes hr (by omega) (by rfl) (pa_cons (pv 4) (pa_cons (pe_dget hu (pv 5) (pe_ix ix_tup (pv 4) pe_int (fun _ _ => rfl)) (fun _ _ => rfl)) pa_nil))) iop_ext) (pss_one (ps_aug (i := 6) sc_changes.nd rfl (Or.inl rfl) (pe_c Gchanges hr (by omega) (by rfl) (pa_cons (pe_ix ix_tup (pv 4) pe_int (fun _ _ => rfl)) (pa_cons (pe_c Gkids_in hr (by omega) (by rfl) (pa_cons (pv 4) pa_nil)) (pa_cons (pe_c Gkids_in hr (by omega) (by rfl) (pa_cons (pe_dget hu (pv 5) (pe_ix ix_tup (pv 4) pe_int (fun _ _ => rfl)) (fun _ _ => rfl)) pa_nil)) pa_nil)))) iop_ext))) pss_nil))) (pss_one (ps_ret (pe_op op_cat (pv 6) (pe_c Gplacings hr (by omega) (by rfl) (pa_cons (pv 0) (pa_cons (pe_lc (own := [("node", 4)]) (g := gName 4) (tt := _) rfl sc_changes.nd (pi_tup (pv 1)) (blkOk_by (N := ["parent", "old", "new", "partners", "node", "after", "found"]) (sc := (defScope s_changes)) (by decide +kernel)) (fun _ _ _ _ _ => pg_name (i := 4) sc_changes.nd rfl (Or.inl rfl)) (fun _ _ _ _ _ => pts_one (pt_cmp (pc_din hu (pe_ix (ix_tupS (K := K) rfl) (pv 4) pe_int (fun _ _ => rfl)) (pv 3)))) (fun _ _ _ _ _ => (pe_ix (ix_tupS (K := K) rfl) (pv 4) pe_int (fun _ _ => rfl)))) (pa_cons (pv 2) pa_nil))))))))))), ?_⟩
    refine ⟨_, rfl, _, rfl, a, b, old, new, G, _, rfl, S, hta, htb, do_, dn, fun pp G2 H2 kvs S2 g2 hpp ix => ?_⟩
    obtain ⟨xs, ha1, ha2⟩ := hta.same g2
    obtain ⟨ys, hb1, hb2⟩ := htb.same g2
    have xl := ha2.len
    have yl := hb2.len
    refine ⟨_, rfl, b, rfl, ⟨_, SqT.of (S2.s _ _ hb1)⟩, fun D hD => ?_⟩
    refine dc_itQ (walk_tup (K := K) (a := b) (xs := ys)) (fun j H' => ∃ kv2, Sb G2 H' ((D, .dK kv2) :: M) ∧ kv2.length ≤ j ∧ IdxA G2 kv2 (atN (new.take j))) ⟨[], S2.add (o := .dK []) hD, Nat.le_refl _, fun n => by rw [List.take_zero]; exact valV_nil⟩ (fun j H' _ z => by obtain ⟨_, z, _⟩ := z; exact SqT.of (z.s _ _ hb1)) ?_ ?_
    · rintro j x H3 H4 hj ⟨kv2, S3, kl, ix2⟩ ⟨rfl, hx⟩
      obtain ⟨d, hd, hxd⟩ := hb2.get' hx
      obtain ⟨c, ws, rfl, hc⟩ := hxd.at
      have nt := nd_take dn.top hd
      have et : new.take (j + 1) = new.take j ++ [d] := by rw [List.take_add_one, hd]; rfl
      refine ⟨rfl, _, rfl, c, _, _, _, rfl, rfl, SqT.of (S3.s _ _ hc), at_1, _, rfl, kv2, .inl d.num, rfl, S3.hd, ?_, putK kv2 (.inl d.num) (.ref c), S3.put, ?_, ?_⟩
      · exact Nat.lt_of_le_of_lt (show kv2.length ≤ 400 by omega) (by decide)
      · have := length_putK' kv2 (.inl d.num) (.ref c)
        omega
      · rw [et]
        exact ix2.put hxd (atN_snoc nt).1 (atN_snoc nt).2
    rintro H3 ⟨kv2, S3', kl, ix2'⟩
    rw [List.take_of_length_le (by omega)] at ix2'
    obtain ⟨S3, g3⟩ := S3'.drop
    have ix2 := ix2'.same g3
    have hD3 : upd G2 D (.dK kv2) D = some (.dK kv2) := upd_same
    generalize upd G2 D (.dK kv2) = G3 at S3 g3 ix2 hD3
    clear S3' ix2' S2 hD
    have ix3 := ix.same g3
    have hpp3 := g3 _ _ hpp
    have ha3 := ha2.same g3
    refine ⟨by show 0 ≤ sizeLine; decide, fun p hp => ?_⟩
    have S4 := S3.add (o := .lst []) hp
    refine ⟨_, rfl, a, rfl, ⟨_, SqT.of (S4.s _ _ (g3 _ _ ha1))⟩, ?_⟩
    refine for_it (walk_tup (K := K) (a := a) (xs := xs)) (fun j σ H' => ∃ (G' : Hp) (us : List V) (y4 : Option V), Sb G' H' ((p, .lst us) :: M) ∧ Same G3 G' ∧ Paired (OpA G') us (chgM new (old.take j)) ∧ σ = [some (.int par), some (.ref a), some (.ref b), some (.ref pp), y4, some (.ref D), some (.ref p)]) ⟨G3, [], _, S4, Same.refl _, by rw [List.take_zero]; simp only [chgM]; exact .nil, rfl⟩ (fun j σ H' _ z => by obtain ⟨_, _, _, z, g, _⟩ := z; exact SqT.of (z.s _ _ (g _ _ (g3 _ _ ha1)))) ?_ ?_
    · rintro j x σ H5 H6 hj ⟨G5, us, y4, S5, g5, hus, rfl⟩ ⟨rfl, hx⟩
      obtain ⟨d, hd, hxd⟩ := ha3.get' hx
      obtain ⟨c, ws, rfl, hc⟩ := hxd.at
      have dm := List.mem_of_getElem? hd
      have hc5 := S5.s _ _ (g5 _ _ hc)
      have et : chgM new (old.take (j + 1)) = chgM new (old.take j) ++ chgN new d := by
        rw [List.take_add_one, hd, chgM_app]
        exact congrArg _ (chgM_one new d)
      have kl1 := chg_lenS new (old.take (j + 1)) dn (AllS_iff.mpr fun e he => AllS_iff.mp do_.nm e (List.mem_of_mem_take he))
      have kl2 := numS_take old (j + 1)
      have kl3 := do_.len
      have ul := Paired.length hus
      rw [et, List.length_append] at kl1
      have dk := DGet.k (k := .inl d.num) (S5.s _ _ (g5 _ _ hpp3))
      have ke := kepO_old do_.top dn.top dm
      have ra := chgN_eq new d
      cases ep : parD new d with
      | none =>
        rw [ep] at ke ra
        have ke : kepO old new d.num = none := ke
        have ra : chgN new d = [] := ra
        rw [ix3.no ke] at dk
        refine ⟨_, rfl, c, _, _, _, rfl, rfl, SqT.of hc5, at_1, _, rfl, pp, _, rfl, dk, _, rfl, iteF ⟨G5, us, _, S5, g5, ?_, rfl⟩⟩
        rw [et, ra, List.append_nil]
        exact hus
      | some e =>
        rw [ep] at ke ra
        have ke : kepO old new d.num = some d := ke
        have ra : chgN new d = ownD d e ++ chgS d.num e.kids d.kids := ra
        obtain ⟨v, hv, hve⟩ := ix3.yes ke
        rw [hv] at dk
        have pm := parD_mem ep
        have ae : atN new d.num = some e := by rw [← pm.2.1]; exact atN_of dn.top pm.1
        obtain ⟨v2, hv2, hve2⟩ := ix2.yes ae
        have dk2 := DGet.k (k := .inl d.num) (S5.s _ _ (g5 _ _ hD3))
        rw [hv2] at dk2
        have hm := hS_mem dm
        rw [hN_eq] at hm
        obtain ⟨N', rfl⟩ : ∃ N', N = N' + 1 := ⟨N - 1, by omega⟩
        have esp := hsp N' rfl
        subst esp
        rw [ra, List.length_append] at kl1
        refine ⟨_, rfl, c, _, _, _, rfl, rfl, SqT.of hc5, at_1, _, rfl, pp, _, rfl, dk, _, rfl, iteT ?_⟩
        refine ⟨_, rfl, _, rfl, _, rfl, _, rfl, c, _, _, _, rfl, rfl, SqT.of hc5, at_1, D, v2, rfl, dk2, .ref c, v2, d, e, G5, _, rfl, S5, hxd.same g5, hve2.same g5, by rw [alkD_symm]; exact pm.2.2, pm.2.1.symm, do_.own dm, dn.own pm.1, fun p8 us8 G8 H8 S8 g8 h8 hus8 => ?_⟩
        have ul8 := Paired.length hus8
        refine ⟨p, p8, _, _, rfl, rfl, S8.hd, S8.s _ _ h8, by omega, ?_⟩
        have S9 := S8.put (u := .lst (us ++ us8))
        have g58 := Same.trans g5 g8
        have hus9 := paired_app (OpA.sames g8 hus) hus8
        have hc9 := S9.s _ _ (g58 _ _ hc)
        have ul9 := Paired.length hus9
        rw [List.length_append, List.length_append] at ul9
        refine ⟨_, rfl, _, rfl, c, _, _, _, rfl, rfl, SqT.of hc9, at_1, _, rfl, .ref c, d, G8, _, rfl, S9, hxd.same g58, fun p6 xs6 G6 H6 S6 g6 h6 n6 => ?_⟩
        have hc6 := S6.s _ _ (g6 _ _ (g58 _ _ hc))
        have dk3 := DGet.k (k := .inl d.num) (S6.s _ _ (g6 _ _ (g58 _ _ hD3)))
        rw [hv2] at dk3
        refine ⟨_, rfl, _, rfl, c, _, _, _, rfl, rfl, SqT.of hc6, at_1, D, v2, rfl, dk3, v2, e, G6, _, rfl, S6, hve2.same (Same.trans g58 g6), fun p7 xs7 G7 H7 S7 g7 h7 n7 => ?_⟩
        refine ⟨d.num, p6, p7, d.kids, e.kids, G7, _, rfl, S7, ⟨xs6, g7 _ _ h6, n6.same g7⟩, ⟨xs7, h7, n7⟩, do_.kids dm, dn.kids pm.1, by omega, fun p10 us10 G10 H10 S10 g10 h10 hus10 => ?_⟩
        have ul10 := Paired.length hus10
        have g80 := Same.trans g6 (Same.trans g7 g10)
        refine ⟨p, p10, _, _, rfl, rfl, S10.hd, S10.s _ _ h10, by rw [List.length_append]; omega, G10, us ++ us8 ++ us10, _, S10.put, Same.trans g58 g80, ?_, rfl⟩
        rw [et, ra, ← List.append_assoc]
        exact paired_app (OpA.sames g80 hus9) hus10
    · rintro σ H5 ⟨G5, us, y4, S5, g5, hus, rfl⟩
      rw [List.take_of_length_le (by omega)] at hus
      have ul := Paired.length hus
      have kl1 := chg_lenS new old dn do_.nm
      have kl3 := do_.len
      refine ⟨_, rfl, _, rfl, _, rfl, a, rfl, ⟨_, SqT.of (S5.s _ _ (g5 _ _ (g3 _ _ ha1)))⟩, fun L hL => ?_⟩
      have ha5 := ha3.same g5
      have hpp5 := g5 _ _ hpp3
      refine lc_it (walk_tup (K := K) (a := a) (xs := xs)) (fun j H' => Sb G5 H' ((L, .lst ((keptL (old.take j) new).map V.int)) :: (p, .lst us) :: M)) (S5.add (o := .lst []) hL) (fun j H' _ z => SqT.of (z.s _ _ (g5 _ _ (g3 _ _ ha1)))) ?_ ?_
      · rintro j x H6 H7 hj S6 ⟨rfl, hx⟩
        obtain ⟨d, hd, hxd⟩ := ha5.get' hx
        obtain ⟨c, ws, rfl, hc⟩ := hxd.at
        have dm := List.mem_of_getElem? hd
        have hc6 := S6.s _ _ hc
        have dk := DGet.k (k := .inl d.num) (S6.s _ _ hpp5)
        have ke := kepO_old do_.top dn.top dm
        have et : keptL (old.take (j + 1)) new = keptL (old.take j) new ++ keptL [d] new := by
          rw [List.take_add_one, hd]
          unfold keptL
          rw [List.filter_append, List.map_append]
          rfl
        have tl : (keptL (old.take j) new).length ≤ j := by
          unfold keptL
          rw [List.length_map]
          exact Nat.le_trans (List.length_filter_le _ _) (by rw [List.length_take]; exact Nat.min_le_left _ _)
        cases ep : parD new d with
        | none =>
          rw [ep] at ke
          have ke : kepO old new d.num = none := ke
          rw [ix3.no ke] at dk
          have ek : keptL [d] new = [] := by simp [keptL, ep]
          refine ⟨rfl, _, rfl, c, _, _, _, rfl, rfl, SqT.of hc6, at_1, _, rfl, pp, _, rfl, dk, _, rfl, iteF ?_⟩
          rw [et, ek, List.append_nil]
          exact S6
        | some e =>
          rw [ep] at ke
          have ke : kepO old new d.num = some d := ke
          obtain ⟨v, hv, hve⟩ := ix3.yes ke
          rw [hv] at dk
          have ek : keptL [d] new = [d.num] := by simp [keptL, ep]
          refine ⟨rfl, _, rfl, c, _, _, _, rfl, rfl, SqT.of hc6, at_1, _, rfl, pp, _, rfl, dk, _, rfl, iteT ?_⟩
          refine ⟨_, rfl, c, _, _, _, rfl, rfl, SqT.of hc6, at_1, _, S6.hd, by rw [List.length_map]; omega, ?_⟩
          rw [et, ek, List.map_append]
          exact S6.put
      · intro H6 S6
        rw [List.take_of_length_le (by omega)] at S6
        obtain ⟨S7, g7⟩ := S6.drop
        have hL7 : upd G5 L (.lst ((keptL old new).map V.int)) L = some (.lst ((keptL old new).map V.int)) := upd_same
        have kn : (keptL old new).Nodup := (List.Sublist.map Dn.num List.filter_sublist).nodup do_.top
        have kll : (keptL old new).length ≤ 400 := by
          unfold keptL
          rw [List.length_map]
          exact Nat.le_trans (List.length_filter_le _ _) do_.short
        have g27 := Same.trans g3 (Same.trans g5 g7)
        refine ⟨_, rfl, par, L, b, keptL old new, new, _, _, rfl, S7, hL7, kn, kll, ⟨ys, g27 _ _ hb1, hb2.same g27⟩, dn, fun p8 us8 G8 H8 S8 g8 h8 hus8 => ?_⟩
        have ul8 := Paired.length hus8
        have pl := plcS_len (keptL old new) par new
        have nl2 := dn.short
        refine ⟨p, p8, us, us8, rfl, rfl, S8.hd, S8.s _ _ h8, by omega, fun R hR => ?_⟩
        obtain ⟨S9, g9⟩ := S8.drop
        have g10 := S9.grow (o := .lst (us ++ us8)) hR
        have g38 := Same.trans g5 (Same.trans g7 g8)
        exact q R (us ++ us8) _ _ (S9.alloc hR) (Same.trans g2 (Same.trans g3 (Same.trans g38 (Same.trans g9 g10)))) upd_same (paired_app (OpA.sames (Same.trans g7 (Same.trans g8 (Same.trans g9 g10))) hus) (OpA.sames (Same.trans g9 g10) hus8))
theorem chg_N (T : Txt K w mg C) : ∀ n : Nat, Cal P w K mg base (n + 5) "changes" (spChg n)
  | 0 => chg_S T (N := 0) (sp := spFalse) (fun m h => by omega) (chg_0 T)
  | n + 1 => chg_S T (N := n + 1) (sp := spChg n) (fun m h => by rw [Nat.succ.inj h]) (chg_N T n)
end
end VL

set_option Elab.async false
set_option linter.all false
set_option pp.maxSteps 700
set_option maxRecDepth 100000
set_option maxHeartbeats 4000000
namespace VL
open PySem PySem.Spec PyProof.Rows L2
def spPat : Sp := fun vs H Q _ => ∃ (a b : Addr) (old new : List Dn) (G : Hp) (M : List (Addr × HO)), vs = [.ref a, .ref b] ∧ Sb G H M ∧ TupD G a old ∧ TupD G b new ∧ Dok old ∧ Dok new ∧ hS old ≤ 8 ∧ ∀ p us G' H', Sb G' H' M → Same G G' → G' p = some (.lst us) → Paired (OpA G') us (patD old new) → Q (.ref p) H'
theorem chgS_len (par : Int) {old new : List Dn} (ho : Dok old) (hn : Dok new) : (chgS par new old).length ≤ 240800 := by
  have h1 := chg_lenS new old hn ho.nm
  have h2 := plcS_len (keptL old new) par new
  have h3 := hn.short
  have h4 := ho.len
  unfold chgS
  rw [List.length_append]
  omega
section
variable {P : Program} {w : World} {K : PySem.W.Frag} {mg : Str → Option Value} {base : Heap} {C : Ad}
theorem sc_patch : FnScope ["old", "new"] ["old", "new"] (defScope s_patch) := ⟨rfl, rfl, rfl, by decide +kernel, rfl, by decide +kernel, by decide +kernel⟩
theorem ok_patch (T : Txt K w mg C) : Cal P w K mg base 14 "patch" spPat := by
  have Gremovals := rm_N (P := P) (base := base) T 8
  have Gchanges := chg_N (P := P) (base := base) T 8
  refine cal_of T.d_patch sc_patch (fun vs H Q E h => ?_) (fun f cdv A outer s H vs Q E hr h => ?_)
  · obtain ⟨a, b, old, new, G, M, rfl, _⟩ := h
    rfl
  · obtain ⟨a, b, old, new, G, M, rfl, S, hta, htb, do_, dn, hN, q⟩ := h
    have hu := hu_of hr
    have big : 600000 < sizeLine := by decide
    refine ⟨_, (pss_one (ps_ret (pe_op op_cat (pe_c Gremovals hr (by decide) (by rfl) (pa_cons pe_int (pa_cons (pv 0) (pa_cons (pv 1) pa_nil)))) (pe_c Gchanges hr (by decide) (by rfl) (pa_cons pe_int (pa_cons (pv 0) (pa_cons (pv 1) pa_nil))))))), ?_⟩
    refine ⟨_, rfl, _, rfl, 0, a, b, old, new, G, _, rfl, S, hta, htb, do_, dn, hN, fun p1 us1 G1 H1 S1 g1 h1 n1 => ?_⟩
    refine ⟨_, rfl, _, rfl, 0, a, b, old, new, G1, _, rfl, S1, hta.same g1, htb.same g1, do_, dn, hN, fun p2 us2 G2 H2 S2 g2 h2 n2 => ?_⟩
    have l1 := Paired.length n1
    have l2 := Paired.length n2
    have l3 := rem_lenS 0 new old
    have l4 := do_.len
    have l5 := chgS_len 0 do_ dn
    refine ⟨p1, p2, us1, us2, rfl, rfl, S2.s _ _ (g2 _ _ h1), S2.s _ _ h2, by omega, fun R hR => ?_⟩
    have g3 := S2.grow (o := .lst (us1 ++ us2)) hR
    exact q R (us1 ++ us2) _ _ (S2.alloc hR) (Same.trans g1 (Same.trans g2 g3)) upd_same (paired_app (OpA.sames (Same.trans g2 g3) n1) (OpA.sames g3 n2))
end
end VL

set_option Elab.async false
set_option linter.all false
set_option pp.maxSteps 700
set_option maxRecDepth 100000
set_option maxHeartbeats 4000000
namespace VL
open PySem PySem.Spec PyProof.Rows L2
def PrtA (G : Hp) (u : V) : Option Dn → Prop
  | none => u = .non
  | some e => NdA G u e
def spLPar : Sp := fun vs H Q _ => ∃ (a : Addr) (v : V) (ks : List Dn) (d : Dn) (G : Hp) (M : List (Addr × HO)), vs = [.ref a, v] ∧ Sb G H M ∧ TupD G a ks ∧ NdA G v d ∧ ∀ u, PrtA G u (parD ks d) → Q u H
section
variable {P : Program} {w : World} {K : PySem.W.Frag} {mg : Str → Option Value} {base : Heap} {C : Ad}
theorem sc__law_partner : FnScope ["kids", "node", "kid"] ["kids", "node"] (defScope s__law_partner) := ⟨rfl, rfl, rfl, by decide +kernel, rfl, by decide +kernel, by decide +kernel⟩
theorem ok_lpar (T : Txt K w mg C) : Cal P w K mg base 1 "_law_partner" spLPar := by
  refine cal_of T.d__law_partner sc__law_partner (fun vs H Q E h => ?_) (fun f cdv A outer s H vs Q E hr h => ?_)
  · obtain ⟨a, v, ks, d, G, M, rfl, _⟩ := h
    rfl
  · obtain ⟨a, v, ks, d, G, M, rfl, S, ⟨xs, ha1, ha2⟩, hv, q⟩ := h
    have hu := hu_of hr
    have xl := ha2.len
    refine ⟨_, (pss_cons (ps_for PassesOwn.never rfl (pi_tup (pv 0)) (pg_name (i := 2) sc__law_partner.nd rfl (Or.inl rfl)) (pss_one (ps_if (PW.pt (pw_and (pt_cmpR op_eq (pe_ix ix_tup (pv 2) pe_int (fun _ _ => rfl)) (pe_ix ix_tup (pv 1) pe_int (fun _ _ => rfl)) (nomark _)) (pw_and (pt_cmpR op_eq (pe_ix ix_tup (pv 2) pe_int (fun _ _ => rfl)) (pe_ix ix_tup (pv 1) pe_int (fun _ _ => rfl)) (nomark _)) (pw_and1 (PW.pt (pw_or (pt_cmpR op_eq (pe_ix ix_tup (pv 1) pe_int (fun _ _ => rfl)) pe_str (nomark _)) (pw_or1 (pt_cmpR op_eq (pe_ix ix_tup (pv 2) pe_int (fun _ _ => rfl)) (pe_ix ix_tup (pv 1) pe_int (fun _ _ => rfl)) (nomark _))))))))) (pss_one (ps_ret (pv 2))) pss_nil))) (pss_one (ps_ret pe_non))), ?_⟩
    refine ⟨_, rfl, a, rfl, ⟨_, SqT.of (S.s _ _ ha1)⟩, ?_⟩
    refine for_it (walk_tup (K := K) (a := a) (xs := xs)) (fun j σ H' => H' = H ∧ (∃ y2, σ = [some (.ref a), some v, y2]) ∧ parD (ks.take j) d = none) ⟨rfl, ⟨_, rfl⟩, by rw [List.take_zero]; rfl⟩ (fun j σ H' _ z => by rw [z.1]; exact SqT.of (S.s _ _ ha1)) ?_ ?_
    · rintro j x σ H5 H6 hj ⟨rfl, ⟨y2, rfl⟩, pn⟩ ⟨rfl, hx⟩
      obtain ⟨e, he, hxe⟩ := ha2.get' hx
      have et : parD (ks.take (j + 1)) d = parD [e] d := by
        unfold parD at pn ⊢
        rw [List.take_add_one, he, List.find?_append, pn]
        rfl
      have em := List.mem_of_getElem? he
      have ef : parD [e] d = some e → parD ks d = some e := fun z => by
        unfold parD at z et ⊢
        rw [← List.take_append_drop (j + 1) ks, List.find?_append, et, z]
        rfl
      have yes : (decide (e.num = d.num) && alkD e d) = true → Q x H6 := fun z => q x (by rw [ef (by unfold parD; simp only [List.find?_cons, z])]; exact hxe)
      have no : (decide (e.num = d.num) && alkD e d) = false → parD (ks.take (j + 1)) d = none := fun z => by
        rw [et]
        unfold parD
        simp only [List.find?_cons, z, List.find?_nil]
      have tt : decide (V.str ("text" : Str) = V.str "text") = true := by decide
      have ee : decide (V.str ("element" : Str) = V.str "element") = true := by decide
      have te : ¬ decide (V.str ("text" : Str) = V.str "element") = true := by decide
      have et' : ¬ decide (V.str ("element" : Str) = V.str "text") = true := by decide
      have hxe' := hxe.same S.s
      have hv' := hv.same S.s
      cases hxe' with
      | @tx b1 n1 x1 h1 =>
        cases hv' with
        | @tx b2 n2 x2 h2 =>
          refine ⟨_, rfl, b1, _, _, _, rfl, rfl, SqT.of h1, at_1, _, rfl, b2, _, _, _, rfl, rfl, SqT.of h2, at_1, rfl, _, rfl, ite2 (fun c1 => ⟨_, rfl, b1, _, _, _, rfl, rfl, SqT.of h1, at_0, _, rfl, b2, _, _, _, rfl, rfl, SqT.of h2, at_0, rfl, _, rfl, ite2 (fun _ => ⟨_, rfl, b2, _, _, _, rfl, rfl, SqT.of h2, at_0, rfl, _, rfl, ite2 (fun _ => ⟨_, rfl, yes ?_⟩) (fun c => absurd tt c)⟩) (fun c => absurd tt c)⟩) (fun c1 => ⟨rfl, ⟨_, rfl⟩, no ?_⟩)⟩
          · have c1 : n1 = n2 := V.int.inj (of_decide_eq_true c1)
            simp [Dn.num, alkD, c1]
          · have c1 : ¬ n1 = n2 := fun z => c1 (decide_eq_true (by rw [z]))
            simp [Dn.num, c1]
        | @el b2 pk2 n2 t2 va2 as2 vs2 ks2 h2 hA2 hk2 hs2 =>
          refine ⟨_, rfl, b1, _, _, _, rfl, rfl, SqT.of h1, at_1, _, rfl, b2, _, _, _, rfl, rfl, SqT.of h2, at_1, rfl, _, rfl, ite2 (fun c1 => ⟨_, rfl, b1, _, _, _, rfl, rfl, SqT.of h1, at_0, _, rfl, b2, _, _, _, rfl, rfl, SqT.of h2, at_0, rfl, _, rfl, ite2 (fun c => absurd c te) (fun _ => ⟨rfl, ⟨_, rfl⟩, no ?_⟩)⟩) (fun c1 => ⟨rfl, ⟨_, rfl⟩, no ?_⟩)⟩
          · simp [alkD]
          · simp [alkD]
      | @el b1 pk1 n1 t1 va1 as1 vs1 ks1 h1 hA1 hk1 hs1 =>
        cases hv' with
        | @tx b2 n2 x2 h2 =>
          refine ⟨_, rfl, b1, _, _, _, rfl, rfl, SqT.of h1, at_1, _, rfl, b2, _, _, _, rfl, rfl, SqT.of h2, at_1, rfl, _, rfl, ite2 (fun c1 => ⟨_, rfl, b1, _, _, _, rfl, rfl, SqT.of h1, at_0, _, rfl, b2, _, _, _, rfl, rfl, SqT.of h2, at_0, rfl, _, rfl, ite2 (fun c => absurd c et') (fun _ => ⟨rfl, ⟨_, rfl⟩, no ?_⟩)⟩) (fun c1 => ⟨rfl, ⟨_, rfl⟩, no ?_⟩)⟩
          · simp [alkD]
          · simp [alkD]
        | @el b2 pk2 n2 t2 va2 as2 vs2 ks2 h2 hA2 hk2 hs2 =>
          refine ⟨_, rfl, b1, _, _, _, rfl, rfl, SqT.of h1, at_1, _, rfl, b2, _, _, _, rfl, rfl, SqT.of h2, at_1, rfl, _, rfl, ite2 (fun c1 => ⟨_, rfl, b1, _, _, _, rfl, rfl, SqT.of h1, at_0, _, rfl, b2, _, _, _, rfl, rfl, SqT.of h2, at_0, rfl, _, rfl, ite2 (fun _ => ⟨_, rfl, b2, _, _, _, rfl, rfl, SqT.of h2, at_0, rfl, _, rfl, ite2 (fun c => absurd c et') (fun _ => ⟨_, rfl, b1, _, _, _, rfl, rfl, SqT.of h1, at_2, _, rfl, b2, _, _, _, rfl, rfl, SqT.of h2, at_2, rfl, _, rfl, ite2 (fun c2 => ⟨_, rfl, yes ?_⟩) (fun c2 => ⟨rfl, ⟨_, rfl⟩, no ?_⟩)⟩)⟩) (fun c => absurd ee c)⟩) (fun c1 => ⟨rfl, ⟨_, rfl⟩, no ?_⟩)⟩
          · have c1 : n1 = n2 := V.int.inj (of_decide_eq_true c1)
            have c2 : t1 = t2 := V.str.inj (of_decide_eq_true c2)
            simp [Dn.num, alkD, c1, c2]
          · have c2 : ¬ t1 = t2 := fun z => c2 (decide_eq_true (by rw [z]))
            simp [alkD, c2]
          · have c1 : ¬ n1 = n2 := fun z => c1 (decide_eq_true (by rw [z]))
            simp [Dn.num, c1]
    · rintro σ H5 ⟨rfl, ⟨y2, rfl⟩, pn⟩
      rw [List.take_of_length_le (by omega)] at pn
      exact q .non (by rw [pn]; rfl)
end
end VL

set_option Elab.async false
set_option linter.all false
set_option pp.maxSteps 700
set_option maxRecDepth 100000
set_option maxHeartbeats 4000000
namespace VL
open PySem PySem.Spec PyProof.Rows L2
def spLKept (N : Nat) : Sp := fun vs H Q _ => ∃ (a b : Addr) (old new : List Dn) (G : Hp) (M : List (Addr × HO)), vs = [.ref a, .ref b] ∧ Sb G H M ∧ TupD G a old ∧ TupD G b new ∧ (numS new).length ≤ 400 ∧ hS new ≤ N ∧ ∀ p G' H', Sb G' H' M → Same G G' → G' p = some (.lst ((kepS old new).map V.int)) → Q (.ref p) H'
def spLRem (N : Nat) : Sp := fun vs H Q _ => ∃ (par : Int) (a b : Addr) (old new : List Dn) (G : Hp) (M : List (Addr × HO)), vs = [.int par, .ref a, .ref b] ∧ Sb G H M ∧ TupD G a old ∧ TupD G b new ∧ (numS old).length ≤ 400 ∧ hS old ≤ N ∧ ∀ p us G' H', Sb G' H' M → Same G G' → G' p = some (.lst us) → Paired (OpA G') us (remS par new old) → Q (.ref p) H'
theorem numK_le {ks : List Dn} {d : Dn} (h : d ∈ ks) : (numS d.kids).length + 1 ≤ (numS ks).length := by
  have h1 := (numS_mem h).length_le
  have h2 : (numS d.kids).length + 1 = (numN d).length := by cases d <;> simp [numN, numS, Dn.kids]
  omega
section
variable {P : Program} {w : World} {K : PySem.W.Frag} {mg : Str → Option Value} {base : Heap} {C : Ad}
theorem sc__law_kept : FnScope ["old", "new", "found", "node", "other"] ["old", "new"] (defScope s__law_kept) := ⟨rfl, rfl, rfl, by decide +kernel, rfl, by decide +kernel, by decide +kernel⟩
theorem lk_0 (T : Txt K w mg C) {k : Nat} : Cal P w K mg base (k + 1) "_law_kept" spFalse := cal_of T.d__law_kept sc__law_kept (fun vs H Q E h => h.elim) (fun f cdv A outer s H vs Q E hr h => h.elim)
theorem lk_S (T : Txt K w mg C) {N : Nat} {sp : Sp} (hsp : ∀ m, m + 1 = N → sp = spLKept m) (G_law_kept : Cal P w K mg base (N + 1) "_law_kept" sp) : Cal P w K mg base (N + 2) "_law_kept" (spLKept N) := by
  have G_law_partner := ok_lpar (P := P) (base := base) T
  have G_law_below := ok_below (P := P) (base := base) T
  refine cal_of T.d__law_kept sc__law_kept (fun vs H Q E h => ?_) (fun f cdv A outer s H vs Q E hr h => ?_)
  · obtain ⟨a, b, old, new, G, M, rfl, _⟩ := h
    rfl
  · obtain ⟨a, b, old, new, G, M, rfl, S, hta, ⟨ys, hb1, hb2⟩, len, hN, q⟩ := h
    have hu := hu_of hr
    have big : 10000 < sizeLine := by decide
    have yl := hb2.len
    refine ⟨_, (pss_cons (ps_set (i := 2) sc__law_kept.nd rfl (Or.inl rfl) (pe_lst pa_nil)) (pss_cons (ps_for PassesOwn.never rfl (pi_tup (pv 1)) (pg_name (i := 3) sc__law_kept.nd rfl (Or.inl rfl)) (pss_cons (ps_set (i := 4) sc__law_kept.nd rfl (Or.inl rfl) (pe_c G_law_partner hr (by omega) (by rfl) (pa_cons (pv 0) (pa_cons (pv 3) pa_nil)))) (pss_one (ps_if (pt_cmp (pc_notN (pv 4))) (pss_one (ps_set (i := 2) sc__law_kept.nd rfl (Or.inl rfl) (pe_op op_cat (pe_op op_cat (pv 2) (pe_lst (pa_cons (pe_ix ix_tup (pv 3) pe_int (fun _ _ => rfl)) pa_nil))) (pe_c G_law_kept hr (by omega) (by rfl) (pa_cons (pe_c G_law_below hr (by omega) (by rfl) (pa_cons (pv 4) pa_nil)) (pa_cons (pe_c G_law_below hr (by omega) (by rfl) (pa_cons (pv 3) pa_nil)) pa_nil)))))) pss_nil)))) (pss_one (ps_ret (pv 2))))), ?_⟩
    refine ⟨by show 0 ≤ sizeLine; decide, fun p0 hp0 => ?_⟩
    have S1 := S.alloc (o := .lst []) hp0
    have g1 := S.grow (o := .lst []) hp0
    refine ⟨_, rfl, b, rfl, ⟨_, SqT.of (S1.s _ _ (g1 _ _ hb1))⟩, ?_⟩
    refine for_it (walk_tup (K := K) (a := b) (xs := ys)) (fun j σ H' => ∃ (G' : Hp) (p : Addr) (y3 y4 : Option V), Sb G' H' M ∧ Same G G' ∧ G' p = some (.lst ((kepS old (new.take j)).map V.int)) ∧ σ = [some (.ref a), some (.ref b), some (.ref p), y3, y4]) ⟨_, p0, _, _, S1, g1, by rw [List.take_zero]; simp only [kepS, List.map_nil]; exact upd_same, rfl⟩ (fun j σ H' _ z => by obtain ⟨_, _, _, _, z, g, _⟩ := z; exact SqT.of (z.s _ _ (g _ _ hb1))) ?_ ?_
    · rintro j x σ H5 H6 hj ⟨G5, p, y3, y4, S5, g5, hp, rfl⟩ ⟨rfl, hx⟩
      obtain ⟨d, hd, hxd⟩ := hb2.get' hx
      obtain ⟨c, ws, rfl, hc⟩ := hxd.at
      have dm := List.mem_of_getElem? hd
      have et : kepS old (new.take (j + 1)) = kepS old (new.take j) ++ kepN old d := by
        rw [List.take_add_one, hd, kepS_app]
        exact congrArg _ (kepS_one old d)
      have kl1 := kep_lenS old (new.take (j + 1))
      have kl2 := numS_take new (j + 1)
      rw [et, List.length_append] at kl1
      have ra := kepN_eq old d
      refine ⟨_, rfl, _, rfl, a, .ref c, old, d, G5, _, rfl, S5, hta.same g5, hxd.same g5, fun u hu' => ?_⟩
      cases ep : parD old d with
      | none =>
        rw [ep] at hu' ra
        have hu' : u = .non := hu'
        subst hu'
        have ra : kepN old d = [] := ra
        refine ⟨_, rfl, _, rfl, iteF ⟨G5, p, _, _, S5, g5, ?_, rfl⟩⟩
        rw [et, ra, List.append_nil]
        exact hp
      | some e =>
        rw [ep] at hu' ra
        have hu' : NdA G5 u e := hu'
        have ra : kepN old d = d.num :: kepS e.kids d.kids := ra
        obtain ⟨c2, ws2, rfl, hc2⟩ := hu'.at
        have hm := hS_mem dm
        rw [hN_eq] at hm
        obtain ⟨N', rfl⟩ : ∃ N', N = N' + 1 := ⟨N - 1, by omega⟩
        have esp := hsp N' rfl
        subst esp
        rw [ra, List.length_cons] at kl1
        have hc5 := S5.s _ _ (g5 _ _ hc)
        refine ⟨_, rfl, _, rfl, iteT ?_⟩
        refine ⟨_, rfl, _, rfl, c, _, _, _, rfl, rfl, SqT.of hc5, at_1, by show 1 ≤ sizeLine; decide, fun l hl => ?_⟩
        have S6 := S5.alloc (o := .lst [.int d.num]) hl
        have g6 := S5.grow (o := .lst [.int d.num]) hl
        refine ⟨p, l, _, _, rfl, rfl, S6.s _ _ (g6 _ _ hp), S6.s _ _ upd_same, by simp only [List.length_map, List.length_cons, List.length_nil]; omega, fun p2 hp2 => ?_⟩
        have S7 := S6.alloc (o := .lst ((kepS old (new.take j)).map V.int ++ [.int d.num])) hp2
        have g7 := S6.grow (o := .lst ((kepS old (new.take j)).map V.int ++ [.int d.num])) hp2
        have g57 := Same.trans g6 g7
        refine ⟨_, rfl, .ref c2, e, _, _, rfl, S7, hu'.same g57, fun p8 xs8 G8 H8 S8 g8 h8 n8 => ?_⟩
        refine ⟨_, rfl, .ref c, d, G8, _, rfl, S8, hxd.same (Same.trans g5 (Same.trans g57 g8)), fun p9 xs9 G9 H9 S9 g9 h9 n9 => ?_⟩
        have nk := numK_le dm
        refine ⟨p8, p9, e.kids, d.kids, G9, _, rfl, S9, ⟨xs8, g9 _ _ h8, n8.same g9⟩, ⟨xs9, h9, n9⟩, by omega, by omega, fun p10 G10 H10 S10 g10 h10 => ?_⟩
        have hp2' := g10 _ _ (g9 _ _ (g8 _ _ (show upd _ p2 _ p2 = _ from upd_same)))
        refine ⟨p2, p10, _, _, rfl, rfl, S10.s _ _ hp2', S10.s _ _ h10, by simp only [List.length_map, List.length_cons, List.length_nil, List.length_append]; omega, fun R hR => ?_⟩
        refine ⟨_, R, _, _, S10.alloc hR, Same.trans g5 (Same.trans g57 (Same.trans g8 (Same.trans g9 (Same.trans g10 (S10.grow hR))))), ?_, rfl⟩
        rw [et, ra]
        refine upd_same.trans ?_
        simp only [List.map_append, List.map_cons, List.append_assoc, List.cons_append, List.nil_append]
    · rintro σ H5 ⟨G5, p, y3, y4, S5, g5, hp, rfl⟩
      rw [List.take_of_length_le (by omega)] at hp
      exact ⟨_, rfl, q p _ H5 S5 g5 hp⟩
theorem lk_N (T : Txt K w mg C) : ∀ n : Nat, Cal P w K mg base (n + 2) "_law_kept" (spLKept n)
  | 0 => lk_S T (N := 0) (sp := spFalse) (fun m h => by omega) (lk_0 T)
  | n + 1 => lk_S T (N := n + 1) (sp := spLKept n) (fun m h => by rw [Nat.succ.inj h]) (lk_N T n)
end
end VL

set_option Elab.async false
set_option linter.all false
set_option pp.maxSteps 700
set_option maxRecDepth 100000
set_option maxHeartbeats 4000000
namespace VL
open PySem PySem.Spec PyProof.Rows L2 S2S
mutual
def enN : Dn → PyData
  | .tx n x => .tuple [.str "text", .int n, .str x]
  | .el n t as ks => .tuple [.str "element", .int n, .str t, .tuple (as.map pairP), .tuple (enS ks)]
def enS : List Dn → List PyData
  | [] => []
  | d :: r => enN d :: enS r
end
theorem plain_pairs : ∀ as : List (Str × Str), PyData.plainAll (as.map pairP) = true
  | [] => rfl
  | a :: as => by
    have := plain_pairs as
    simp [pairP, PyData.plain, PyData.plainAll, this]
theorem depth_pairs : ∀ (as : List (Str × Str)), PyData.depthAll (as.map pairP) ≤ 1
  | [] => by simp [PyData.depthAll]
  | a :: as => by
    have := depth_pairs as
    simp [pairP, PyData.depth, PyData.depthAll]
    omega
mutual
theorem plain_N : ∀ d : Dn, PyData.plain (enN d) = true
  | .tx n x => by simp only [enN]; rfl
  | .el n t as ks => by
    have h1 := plain_pairs as
    have h2 := plain_S ks
    simp [enN, PyData.plain, PyData.plainAll, h1, h2]
theorem plain_S : ∀ ks : List Dn, PyData.plainAll (enS ks) = true
  | [] => by simp only [enS]; rfl
  | d :: r => by simp only [enS, PyData.plainAll, plain_N d, plain_S r]; rfl
end
mutual
theorem dpt_N : ∀ d : Dn, PyData.depth (enN d) ≤ 2 * hN d + 2
  | .tx n x => by simp [enN, PyData.depth, PyData.depthAll, hN]
  | .el n t as ks => by
    have h1 := depth_pairs as
    have h2 := dpt_S ks
    simp only [enN, PyData.depth, PyData.depthAll, hN]
    omega
theorem dpt_S : ∀ ks : List Dn, PyData.depthAll (enS ks) ≤ 2 * hS ks + 2
  | [] => by simp [enS, PyData.depthAll]
  | d :: r => by
    have h1 := dpt_N d
    have h2 := dpt_S r
    simp only [enS, PyData.depthAll, hS]
    omega
end
theorem dp_pairs {K : PySem.W.Frag} {H : Hp} {ps : List Addr} {as : List (Str × Str)} (h : Paired (fun p (x : Str × Str) => H p = some (.tup [.str x.1, .str x.2])) ps as) : DpAll K H (ps.map V.ref) (as.map pairP) := by
  induction h with
  | nil => exact .nil
  | cons h _ ih => exact .cons (.tup (SqT.of h) (.cons (.str _) (.cons (.str _) .nil))) ih
mutual
theorem dp_N {K : PySem.W.Frag} {H : Hp} : ∀ {v : V} {d : Dn}, NdA H v d → Dp K H v (enN d)
  | _, _, .tx h => by
    simp only [enN]
    exact .tup (SqT.of h) (.cons (.str _) (.cons (.int _) (.cons (.str _) .nil)))
  | _, _, .el h ha hp hs => by
    obtain ⟨at_, ps, rfl, hsq, hps⟩ := ha.sq (K := K)
    simp only [enN]
    exact .tup (SqT.of h) (.cons (.str _) (.cons (.int _) (.cons (.str _) (.cons (.tup hsq (dp_pairs hps)) (.cons (.tup (SqT.of hp) (dp_S hs)) .nil)))))
theorem dp_S {K : PySem.W.Frag} {H : Hp} : ∀ {vs : List V} {ds : List Dn}, NdAs H vs ds → DpAll K H vs (enS ds)
  | _, _, .nil => by simp only [enS]; exact .nil
  | _, _, .cons h t => by simp only [enS]; exact .cons (dp_N h) (dp_S t)
end
theorem dpth_mem {ds : List PyData} {n : Nat} (h : ∀ d ∈ ds, PyData.depth d ≤ n) : PyData.depthAll ds ≤ n := by
  induction ds with
  | nil => simp [PyData.depthAll]
  | cons d ds ih =>
    have h1 := h d List.mem_cons_self
    have h2 := ih fun e he => h e (List.mem_cons_of_mem _ he)
    simp only [PyData.depthAll]
    omega
theorem plain_mem {ds : List PyData} (h : ∀ d ∈ ds, PyData.plain d = true) : PyData.plainAll ds = true := by
  induction ds with
  | nil => rfl
  | cons d ds ih =>
    have h1 := h d List.mem_cons_self
    have h2 := ih fun e he => h e (List.mem_cons_of_mem _ he)
    simp only [PyData.plainAll, h1, h2]
    rfl
mutual
/-- what stands in a document is no deeper than it -/
theorem hN_in (l : Int) : ∀ d : Dn, ∀ p ∈ it l d, hN p.2 ≤ hN d
  | .tx n x, p, h => by
    simp only [it, List.mem_singleton] at h
    rw [h]
    exact Nat.le_refl _
  | .el n t as ks, p, h => by
    simp only [it, List.mem_cons] at h
    rcases h with rfl | h
    · exact Nat.le_refl _
    · have := hS_in (l + 1) ks p h
      simp only [hN]
      omega
theorem hS_in (l : Int) : ∀ ks : List Dn, ∀ p ∈ itS l ks, hN p.2 ≤ hS ks
  | [], p, h => by simp [itS] at h
  | d :: r, p, h => by
    simp only [itS, List.mem_append] at h
    simp only [hS]
    rcases h with h | h
    · have := hN_in l d p h
      omega
    · have := hS_in l r p h
      omega
end
theorem dp_ints {K : PySem.W.Frag} {H : Hp} : ∀ ns : List Int, DpAll K H (ns.map V.int) (ns.map PyData.int)
  | [] => .nil
  | n :: ns => .cons (.int n) (dp_ints ns)
def ahE : Option Int → PyData
  | none => .none
  | some m => .int m
def encO : OpD → PyData
  | .rem p n => .tuple [.str "remove", .int p, .int n]
  | .ins p d ah => .tuple [.str "insert", .int p, enN d, ahE ah]
  | .mov p n ah => .tuple [.str "move", .int p, .int n, ahE ah]
  | .txt n x => .tuple [.str "text", .int n, .str x]
  | .set n k x => .tuple [.str "set", .int n, .str k, .str x]
  | .uns n k => .tuple [.str "unset", .int n, .str k]
theorem dp_ah {K : PySem.W.Frag} {H : Hp} (ah : Option Int) : Dp K H (intV ah) (ahE ah) := by
  cases ah with
  | none => exact .non
  | some m => exact .int m
theorem dp_O {K : PySem.W.Frag} {H : Hp} {u : V} {o : OpD} (h : OpA H u o) : Dp K H u (encO o) := by
  cases h with
  | rem h => exact .tup (SqT.of h) (.cons (.str _) (.cons (.int _) (.cons (.int _) .nil)))
  | ins h hd => exact .tup (SqT.of h) (.cons (.str _) (.cons (.int _) (.cons (dp_N hd) (.cons (dp_ah _) .nil))))
  | mov h => exact .tup (SqT.of h) (.cons (.str _) (.cons (.int _) (.cons (.int _) (.cons (dp_ah _) .nil))))
  | txt h => exact .tup (SqT.of h) (.cons (.str _) (.cons (.int _) (.cons (.str _) .nil)))
  | set h => exact .tup (SqT.of h) (.cons (.str _) (.cons (.int _) (.cons (.str _) (.cons (.str _) .nil))))
  | uns h => exact .tup (SqT.of h) (.cons (.str _) (.cons (.int _) (.cons (.str _) .nil)))

theorem eqv_pair (p q : Str × Str) : PyData.eqv (pairP p) (pairP q) = decide (p = q) := by
  obtain ⟨a, b⟩ := p
  obtain ⟨c, d⟩ := q
  simp only [pairP, PyData.eqv, PyData.eqvAll, Bool.and_true, Prod.mk.injEq, Bool.decide_and]
  by_cases h1 : a = c <;> by_cases h2 : b = d <;> simp [h1, h2]
theorem any_pair (q : Str × Str) : ∀ ps : List (Str × Str), (ps.map pairP).any (fun z => PyData.eqv z (pairP q)) = decide (q ∈ ps)
  | [] => by simp
  | p :: ps => by
    rw [List.map_cons, List.any_cons, any_pair q ps, eqv_pair]
    by_cases h : p = q
    · simp [h]
    · have h' : ¬ q = p := fun z => h z.symm
      simp [h, h']
open Classical in
noncomputable def eqOf (h : PySem.Heap) (p : PyData) (y : Value) : Bool := decide (∃ d as, Reads h y d as ∧ d.plain = true ∧ PyData.eqv d p = true)
open Classical in
theorem eqOf_eq {h : PySem.Heap} {p d : PyData} {y : Value} {as : List Addr} (r : Reads h y d as) (pl : d.plain = true) : eqOf h p y = PyData.eqv d p := by
  unfold eqOf
  cases hc : PyData.eqv d p with
  | true => exact decide_eq_true ⟨d, as, r, pl, hc⟩
  | false =>
    refine decide_eq_false ?_
    rintro ⟨d', as', r', pl', h'⟩
    rw [SeqAt.plain_unique d d' y _ _ pl r r', h'] at hc
    cases hc
theorem reads_memP {h : PySem.Heap} : ∀ (xs : List PyData) (vs : List Value) (as : List Addr), PyData.plainAll xs = true → ReadsAll h vs xs as → ∀ y ∈ vs, ∃ d bs, Reads h y d bs ∧ d.plain = true
  | [], _, _, _, r, y, hy => by cases r; cases hy
  | x :: xs, _, _, hc, r, y, hy => by
    have hc' : x.plain = true ∧ PyData.plainAll xs = true := by simpa [PyData.plainAll] using hc
    cases r with
    | cons r1 r2 =>
      rcases List.mem_cons.mp hy with rfl | hy
      · exact ⟨x, _, r1, hc'.1⟩
      · exact reads_memP xs _ _ hc'.2 r2 y hy
theorem any_readsP {h : PySem.Heap} {p : PyData} : ∀ (xs : List PyData) (vs : List Value) (as : List Addr), PyData.plainAll xs = true → ReadsAll h vs xs as → vs.any (eqOf h p) = xs.any fun z => PyData.eqv z p
  | [], _, _, _, r => by cases r; rfl
  | x :: xs, _, _, hc, r => by
    have hc' : x.plain = true ∧ PyData.plainAll xs = true := by simpa [PyData.plainAll] using hc
    cases r with
    | cons r1 r2 => rw [List.any_cons, List.any_cons, eqOf_eq r1 hc'.1, any_readsP xs _ _ hc'.2 r2]
section
variable {X : Cx}
def rNotInP (K : PySem.W.Frag) : R2 := fun x y H Q => ∃ (q : Str × Str) (ps : List (Str × Str)), Dp K H x (pairP q) ∧ Dp K H y (.tuple (ps.map pairP)) ∧ Q (.bl (decide (q ∉ ps))) H
theorem op_notInP {K : PySem.W.Frag} (hK : X.K = K) (hu : X.A.units + 65 < cLine) : OpR X (compareOp .NotIn) (rNotInP K) := by
  subst hK
  intro pins s σ H x y v u Q I rx ry h
  obtain ⟨p, ps, hd, he, q⟩ := h
  obtain ⟨as, r1⟩ := Dp.reads I _ x v hd rx
  obtain ⟨bs, r2⟩ := Dp.reads I (.tuple (ps.map pairP)) y u he ry
  have pp := plain_pairs ps
  have p1 : PyData.plain (pairP p) = true := by simp [pairP, PyData.plain, PyData.plainAll]
  cases r2 with
  | tuple h1 h2 h3 h4 =>
    refine SeqAt.notIn_tupleAt (eqOf s.heap (pairP p)) ⟨_, h1, h2, _, h3⟩ (fun y hy => ?_) ⟨.bl _, H, I, rfl, ?_⟩
    · obtain ⟨dy, cs, ry, py⟩ := reads_memP _ _ _ pp h4 y (by simpa using hy)
      rw [eqOf_eq ry py]
      refine SeqAt.eqAt_plain dy (pairP p) _ s y v _ _ ry r1 py p1 ?_
      have h1 : PyData.depth (pairP p) ≤ 60 := by simp [pairP, PyData.depth, PyData.depthAll]
      have h2 : min dy.depth (PyData.depth (pairP p)) ≤ PyData.depth (pairP p) := Nat.min_le_right _ _
      show X.A.units + 1 + min dy.depth (PyData.depth (pairP p)) < cLine
      omega
    · rw [← Array.any_toList, any_readsP _ _ _ pp h4, any_pair]
      have : (!decide (p ∈ ps)) = decide (p ∉ ps) := by by_cases c : p ∈ ps <;> simp [c]
      rw [this]
      exact q
end
end VL

set_option Elab.async false
set_option linter.all false
set_option pp.maxSteps 700
set_option maxRecDepth 100000
set_option maxHeartbeats 4000000
namespace VL
open PySem PySem.Spec PyProof.Rows L2
theorem inV_s (x : Str) : ∀ l : List Str, inV (.str x) (l.map V.str) = decide (x ∈ l)
  | [] => rfl
  | y :: l => by
    have ih := inV_s x l
    unfold inV at ih ⊢
    rw [List.map_cons, List.any_cons, ih]
    by_cases e : y = x
    · subst e
      simp [eqV]
    · have e2 : ¬ x = y := fun z => e z.symm
      simp [eqV, e, e2]
theorem flat_strsW : ∀ l : List Str, (l.map V.str).all flatV = true
  | [] => rfl
  | a :: l => by
    show (true && (l.map V.str).all flatV) = true
    rw [flat_strsW l]
    rfl
theorem pget {α β : Type} {F : α → β → Prop} {xs : List α} {ys : List β} (h : Paired F xs ys) : ∀ {i : Nat} {x : α}, xs[i]? = some x → ∃ y, ys[i]? = some y ∧ F x y := by
  induction h with
  | nil => intro i x h; cases h
  | cons h _ ih =>
    intro i x e
    cases i with
    | zero => cases e; exact ⟨_, rfl, h⟩
    | succ i => exact ih e
theorem sqt_same {K : PySem.W.Frag} {H H' : Hp} {a : Addr} {xs : List V} (h : SqT K H a xs) (s : Same H H') : SqT K H' a xs := by
  rcases h with (h | ⟨o, h⟩) | h
  · exact .inl (.inl (s _ _ h))
  · exact .inl (.inr ⟨o, s _ _ h⟩)
  · exact .inr h
theorem at_3' {x y z u : V} {ys : List V} : atI (x :: y :: z :: u :: ys) 3 = some u := by
  unfold atI ixN
  rw [if_pos (by decide), if_pos (by simp only [List.length_cons]; omega)]
  rfl
theorem inV_i (n : Int) : ∀ l : List Int, inV (.int n) (l.map V.int) = decide (n ∈ l)
  | [] => rfl
  | y :: l => by
    have ih := inV_i n l
    unfold inV at ih ⊢
    rw [List.map_cons, List.any_cons, ih]
    by_cases e : y = n
    · subst e
      simp [eqV]
    · have e2 : ¬ n = y := fun z => e z.symm
      simp [eqV, e, e2]
theorem flat_intsW : ∀ l : List Int, (l.map V.int).all flatV = true
  | [] => rfl
  | _ :: l => by
    rw [List.map_cons, List.all_cons, flat_intsW l]
    rfl
end VL

set_option Elab.async false
set_option linter.all false
set_option pp.maxSteps 700
set_option maxRecDepth 100000
set_option maxHeartbeats 4000000
namespace VL
open PySem PySem.Spec PyProof.Rows L2
structure SubN (l m : List Int) : Prop where
  nd : l.Nodup
  sub : ∀ x ∈ l, x ∈ m
  len : l.length ≤ m.length
def spTurn (N : Nat) : Sp := fun vs H Q _ => ∃ (sa : Addr) (s : Int) (a : Addr) (lv : Int) (ks : List Dn) (G : Hp) (M : List (Addr × HO)), vs = [.ref sa, .ref a, .int lv] ∧ Sb G H ((sa, .lst [.int s]) :: M) ∧ TupD G a ks ∧ AllS NamOk ks ∧ (numS ks).Nodup ∧ (numS ks).length ≤ 100 ∧ hS ks ≤ N ∧
  ∀ p ks' s' G' H', Sb G' H' ((sa, .lst [.int s']) :: M) → Same G G' → TupD G' p ks' → AllS NamOk ks' → SubN (numS ks') (numS ks) → hS ks' ≤ hS ks → Q (.ref p) H'
mutual
theorem flN_len (par lv : Int) : ∀ d : Dn, (flN par lv d).length = (numN d).length
  | .tx n x => by simp only [flN, numN, List.length_singleton]
  | .el n t as ks => by
    simp only [flN, numN, List.length_cons]
    rw [flP_len n (lv + 1) ks]
theorem flP_len (par lv : Int) : ∀ ks : List Dn, (flP par lv ks).length = (numS ks).length
  | [] => by simp only [flP, numS, List.length_nil]
  | d :: r => by
    simp only [flP, numS, List.length_append]
    rw [flN_len par lv d, flP_len par lv r]
end
theorem numS_subS : ∀ {a b : List Dn}, a.Sublist b → (numS a).Sublist (numS b) := by
  intro a b h
  induction h with
  | slnil => exact List.Sublist.refl _
  | cons d _ ih =>
    simp only [numS]
    exact ih.trans (List.sublist_append_right _ _)
  | cons_cons d _ ih =>
    simp only [numS]
    exact (List.Sublist.refl _).append ih
theorem hS_subS {a b : List Dn} {n : Nat} (h : ∀ d ∈ a, d ∈ b) (hb : hS b ≤ n) : hS a ≤ n := by
  induction a with
  | nil => simp only [hS]; omega
  | cons d r ih =>
    have h1 := hS_mem (h d List.mem_cons_self)
    have h2 := ih fun e he => h e (List.mem_cons_of_mem _ he)
    simp only [hS]
    omega
theorem nds_take {H : Hp} : ∀ (k : Nat) {vs : List V} {ds : List Dn}, NdAs H vs ds → NdAs H (vs.take k) (ds.take k)
  | 0, _, _, _ => by simp only [List.take_zero]; exact .nil
  | k + 1, _, _, .nil => .nil
  | k + 1, _, _, .cons h t => .cons h (nds_take k t)
theorem nds_drop {H : Hp} : ∀ (k : Nat) {vs : List V} {ds : List Dn}, NdAs H vs ds → NdAs H (vs.drop k) (ds.drop k)
  | 0, _, _, h => h
  | k + 1, _, _, .nil => .nil
  | k + 1, _, _, .cons h t => nds_drop k t
theorem hS_le {n : Nat} : ∀ {ks : List Dn}, (∀ d ∈ ks, hN d ≤ n) → hS ks ≤ n
  | [], _ => by simp only [hS]; omega
  | d :: r, h => by
    have h1 := h d List.mem_cons_self
    have h2 := hS_le fun e he => h e (List.mem_cons_of_mem _ he)
    simp only [hS]
    omega
theorem numS_put (k : Nat) (nds : List Dn) (e : Dn) : (numS (nds.take k ++ [e] ++ nds.drop k)).Perm (numS nds ++ numN e) := by
  rw [numS_app, numS_app, numS_one]
  have h1 : numS nds = numS (nds.take k) ++ numS (nds.drop k) := by rw [← numS_app, List.take_append_drop]
  rw [h1, List.append_assoc, List.append_assoc]
  exact List.Perm.append_left _ List.perm_append_comm
theorem subN_ins {nds : List Dn} {e : Dn} {A B : List Int} {k : Nat} (h1 : SubN (numS nds) A) (h2 : SubN (numN e) B) (d : ∀ x ∈ A, x ∉ B) : SubN (numS (nds.take k ++ [e] ++ nds.drop k)) (A ++ B) := by
  have p := numS_put k nds e
  refine ⟨p.nodup_iff.mpr (List.nodup_append.mpr ⟨h1.nd, h2.nd, fun x hx y hy z => d x (h1.sub x hx) (h2.sub x (z ▸ hy))⟩), fun x hx => ?_, ?_⟩
  · rcases List.mem_append.mp (p.subset hx) with hx | hx
    · exact List.mem_append_left _ (h1.sub x hx)
    · exact List.mem_append_right _ (h2.sub x hx)
  · rw [p.length_eq, List.length_append, List.length_append]
    have := h1.len
    have := h2.len
    omega
theorem at_4' {x y z u v : V} {ys : List V} : atI (x :: y :: z :: u :: v :: ys) 4 = some v := by
  unfold atI ixN
  rw [if_pos (by decide), if_pos (by simp only [List.length_cons]; omega)]
  rfl
section
variable {P : Program} {w : World} {K : PySem.W.Frag} {mg : Str → Option Value} {base : Heap} {C : Ad}
theorem sc__law_turned : FnScope ["state", "document", "levels", "rows", "node", "kept", "nodes", "place", "changed", "tag", "attributes"] ["state", "document", "levels"] (defScope s__law_turned) := ⟨rfl, rfl, rfl, by decide +kernel, rfl, by decide +kernel, by decide +kernel⟩
theorem lt_0 (T : Txt K w mg C) {k : Nat} : Cal P w K mg base (k + 1) "_law_turned" spFalse := cal_of T.d__law_turned sc__law_turned (fun vs H Q E h => h.elim) (fun f cdv A outer s H vs Q E hr h => h.elim)
theorem lt_S (T : Txt K w mg C) {N : Nat} {sp : Sp} (hsp : ∀ m, m + 1 = N → sp = spTurn m) (G_law_turned : Cal P w K mg base (N + 3) "_law_turned" sp) : Cal P w K mg base (N + 4) "_law_turned" (spTurn N) := by
  have G_law_flat := lf_N (P := P) (base := base) T N
  have G_law_digit := ok_dig (P := P) (base := base) T
  have G_law_word := ok_word (P := P) (base := base) T
  have G_law_attributes := ok_atts (P := P) (base := base) T
  refine cal_of T.d__law_turned sc__law_turned (fun vs H Q E h => ?_) (fun f cdv A outer s H vs Q E hr h => ?_)
  · obtain ⟨sa, s0, a, lv, ks, G, M, rfl, _⟩ := h
    rfl
  · obtain ⟨sa, s0, a, lv, ks, G, M, rfl, S, ⟨xs, ha1, ha2⟩, nk, nd, len, hNN, q⟩ := h
    have hu := hu_of hr
    have big : 100000 < sizeLine := by decide
    have xl := ha2.len
    have kl0 : ks.length ≤ (numS ks).length := by
      have := (numS_subl ks).length_le
      rwa [List.length_map] at this
    refine ⟨_, (pss_cons (ps_set (i := 3) sc__law_turned.nd rfl (Or.inl rfl) (pe_c G_law_flat hr (by omega) (by rfl) (pa_cons (pv 1) (pa_cons pe_int (pa_cons pe_int pa_nil))))) (pss_cons (ps_setLc (i := 5) (own := [("node", 4)]) (g := gName 4) (tt := _) rfl sc__law_turned.nd rfl rfl (sw_true rfl rfl rfl (by decide +kernel)) (pi_tup (pv 1)) (blkOk_by (N := ["state", "document", "levels", "rows", "node", "kept", "nodes", "place", "changed", "tag", "attributes"]) (sc := (defScope s__law_turned)) (by decide +kernel)) (fun _ _ _ _ _ => pg_name (i := 4) sc__law_turned.nd rfl (Or.inl rfl)) (fun _ _ _ _ _ => pts_one (pt_cmpR op_gt (pe_c G_law_digit hr (by omega) (by rfl) (pa_cons (pv 0) (pa_cons pe_int pa_nil))) pe_int (nomark _))) (fun _ _ _ _ _ => (pv 4))) (pss_cons (ps_set (i := 6) sc__law_turned.nd rfl (Or.inl rfl) (pe_lst pa_nil)) (pss_cons (ps_for PassesOwn.never rfl (pi_list (pv 5)) (pg_name (i := 4) sc__law_turned.nd rfl (Or.inl rfl)) (pss_cons (ps_set (i := 7) sc__law_turned.nd rfl (Or.inl rfl) (pe_c G_law_digit hr (by omega) (by rfl) (pa_cons (pv 0) (pa_cons (pe_op op_add (pe_callB call_len_seq (by rfl) T.z_len PySem.boot_len (pa_cons (pv 6) pa_nil)) pe_int) pa_nil)))) (pss_cons (ps_if (pt_cmpR op_eq (pe_c G_law_digit hr (by omega) (by rfl) (pa_cons (pv 0) (pa_cons pe_int pa_nil))) pe_int (nomark _)) (pss_one (ps_set (i := 7) sc__law_turned.nd rfl (Or.inl rfl) (pe_callB call_len_seq (by rfl) T.z_len PySem.boot_len (pa_cons (pv 6) pa_nil)))) pss_nil) (pss_cons (ps_if (pt_cmpR op_eq (pe_ix ix_tup (pv 4) pe_int (fun _ _ => rfl)) pe_str (nomark _)) (pss_one (ps_set (i := 8) sc__law_turned.nd rfl (Or.inl rfl) (pe_tup (pa_cons pe_str (pa_cons (pe_ix ix_tup (pv 4) pe_int (fun _ _ => rfl)) (pa_cons (pe_ix ix_tup (pe_tup (pa_cons (pe_ix ix_tup (pv 4) pe_int (fun _ _ => rfl)) (pa_cons (pe_c G_law_word hr (by omega) (by rfl) (pa_cons (pv 0) pa_nil)) pa_nil))) (pe_callTy call_int1 (by rfl) T.z_int (by decide +kernel) (pa_cons (pe_cmpR op_eq (pe_c G_law_digit hr (by omega) (by rfl) (pa_cons (pv 0) (pa_cons pe_int pa_nil))) pe_int (nomark _)) pa_nil)) (fun _ _ => rfl)) pa_nil)))))) (pss_cons (ps_set (i := 9) sc__law_turned.nd rfl (Or.inl rfl) (pe_ix ix_tup (pe_tup (pa_cons (pe_ix ix_tup (pv 4) pe_int (fun _ _ => rfl)) (pa_cons pe_str pa_nil))) (pe_callTy call_int1 (by rfl) T.z_int (by decide +kernel) (pa_cons (pe_cmpR op_eq (pe_c G_law_digit hr (by omega) (by rfl) (pa_cons (pv 0) (pa_cons pe_int pa_nil))) pe_int (nomark _)) pa_nil)) (fun _ _ => rfl))) (pss_cons (ps_set (i := 10) sc__law_turned.nd rfl (Or.inl rfl) (pe_ix ix_tup (pe_tup (pa_cons (pe_ix ix_tup (pv 4) pe_int (fun _ _ => rfl)) (pa_cons (pe_c G_law_attributes hr (by omega) (by rfl) (pa_cons (pv 0) pa_nil)) pa_nil))) (pe_callTy call_int1 (by rfl) T.z_int (by decide +kernel) (pa_cons (pe_cmpR op_eq (pe_c G_law_digit hr (by omega) (by rfl) (pa_cons (pv 0) (pa_cons pe_int pa_nil))) pe_int (nomark _)) pa_nil)) (fun _ _ => rfl))) (pss_one (ps_set (i := 8) sc__law_turned.nd rfl (Or.inl rfl) (pe_tup (pa_cons pe_str (pa_cons (pe_ix ix_tup (pv 4) pe_int (fun _ _ => rfl)) (pa_cons (pv 9) (pa_cons (pv 10) (pa_cons (pe_c G_law_turned hr (by omega) (by rfl) (pa_cons (pv 0) (pa_cons (pe_ix ix_tup (pv 4) pe_int (fun _ _ => rfl)) (pa_cons (pe_op op_add (pv 2) pe_int) pa_nil)))) pa_nil))))))))))) (pss_one (ps_set (i := 6) sc__law_turned.nd rfl (Or.inl rfl) (pe_op op_cat (pe_op op_cat (pe_slice sl_list (pv 6) po_none (po_some (pv 7))) (pe_lst (pa_cons (pv 8) pa_nil))) (pe_slice sl_list (pv 6) (po_some (pv 7)) po_none)))))))) (pss_one (ps_ret (pe_callTy call_tuple_of (by rfl) T.z_tuple (by decide +kernel) (pa_cons (pv 6) pa_nil)))))))), ?_⟩
    refine ⟨_, rfl, a, 0, 1, xs, ks, G, _, rfl, S, ha1, ha2, hNN, by rw [flP_len]; omega, fun rp rs G1 H1 S1 g1 _ _ => ?_⟩
    have hb1 := g1 _ _ ha1
    have hb2 := ha2.same g1
    refine ⟨_, rfl, a, rfl, ⟨_, SqT.of (S1.s _ _ hb1)⟩, fun L hL => ?_⟩
    refine lc_it (walk_tup (K := K) (a := a) (xs := xs)) (fun j H' => ∃ (s' : Int) (kxs : List V) (kk : List Dn), Sb G1 H' ((L, .lst kxs) :: (sa, .lst [.int s']) :: M) ∧ NdAs G1 kxs kk ∧ kk.Sublist (ks.take j)) ⟨s0, [], [], S1.add (o := .lst []) hL, .nil, List.nil_sublist _⟩ (fun j H' _ z => by obtain ⟨_, _, _, z, _⟩ := z; exact SqT.of (z.s _ _ hb1)) ?_ ?_
    · rintro j x H3 H4 hj ⟨s', kxs, kk, S3, hk, sub⟩ ⟨rfl, hx⟩
      obtain ⟨d, hd, hxd⟩ := hb2.get' hx
      have et : ks.take (j + 1) = ks.take j ++ [d] := by rw [List.take_add_one, hd]; rfl
      have kl := hk.len
      have sl := sub.length_le
      rw [List.length_take] at sl
      refine ⟨rfl, _, rfl, sa, s', 6, rfl, S3.hd2, by decide, by decide, fun z s2 z0 z1 => ?_⟩
      have S4 := S3.put2 (u := .lst [.int s2])
      refine ⟨_, _, rfl, rfl, _, rfl, ite2 (fun c => ?_) (fun c => ?_)⟩
      · refine ⟨_, rfl, _, S4.hd, by omega, s2, kxs ++ [x], kk ++ [d], S4.put, hk.app (.cons hxd .nil), ?_⟩
        rw [et]
        exact sub.append (List.Sublist.refl _)
      · refine ⟨s2, kxs, kk, S4, hk, ?_⟩
        rw [et]
        exact sub.trans (List.sublist_append_left _ _)
    · rintro H3 ⟨s1, kxs, kk, S3', hk', sub⟩
      have sub : kk.Sublist ks := sub.trans (List.take_sublist _ _)
      obtain ⟨S3, g3⟩ := S3'.drop
      have hL3 : upd G1 L (.lst kxs) L = some (.lst kxs) := upd_same
      have hk := hk'.same g3
      generalize upd G1 L (.lst kxs) = G2 at S3 g3 hL3 hk
      clear S3' hk'
      have g02 := Same.trans g1 g3
      have kl := hk.len
      have sl := sub.length_le
      have nsub := numS_subS sub
      have ndk : (numS kk).Nodup := nsub.nodup nd
      refine ⟨by show 0 ≤ sizeLine; decide, fun n0 hn0 => ?_⟩
      have S4 := S3.alloc (o := .lst []) hn0
      have g4 := S3.grow (o := .lst []) hn0
      refine ⟨_, rfl, L, rfl, ⟨_, SqL.of (S4.s _ _ (g4 _ _ hL3))⟩, ?_⟩
      refine for_it (walk_list (K := K) (a := L) (xs := kxs)) (fun j σ H' => ∃ (s' : Int) (np : Addr) (nxs : List V) (nds : List Dn) (G' : Hp) (y4 y7 y8 y9 y10 : Option V), Sb G' H' ((sa, .lst [.int s']) :: M) ∧ Same G2 G' ∧ G' np = some (.lst nxs) ∧ NdAs G' nxs nds ∧ AllS NamOk nds ∧ SubN (numS nds) (numS (kk.take j)) ∧ hS nds ≤ hS ks ∧ nds.length ≤ j ∧ σ = [some (.ref sa), some (.ref a), some (.int lv), some (.ref rp), y4, some (.ref L), some (.ref np), y7, y8, y9, y10]) ⟨s1, n0, [], [], _, _, _, _, _, _, S4, g4, upd_same, .nil, trivial, ⟨List.nodup_nil, fun x h => absurd h (by simp [numS]), Nat.zero_le _⟩, Nat.zero_le _, Nat.le_refl _, rfl⟩ (fun j σ H' _ z => by obtain ⟨_, _, _, _, _, _, _, _, _, _, z, g, _⟩ := z; exact SqL.of (z.s _ _ (g _ _ hL3))) ?_ ?_
      · rintro j x σ H5 H6 hj ⟨s', np, nxs, nds, G5, y4, y7, y8, y9, y10, S5, g5, hnp, hnk, nak, nsb, nhS, nl, rfl⟩ ⟨rfl, hx⟩
        obtain ⟨d, hd, hxd'⟩ := hk.get' hx
        have hxd := hxd'.same g5
        have dm : d ∈ ks := sub.subset (List.mem_of_getElem? hd)
        have nxl := hnk.len
        have hnp5 := S5.s _ _ hnp
        refine ⟨_, rfl, _, rfl, np, _, rfl, .inl (SqL.of hnp5), _, _, rfl, rfl, sa, s', _, rfl, S5.hd, by omega, by omega, fun z s2 z0 z1 => ?_⟩
        have S6 := S5.put (u := .lst [.int s2])
        refine ⟨_, rfl, sa, s2, 2, rfl, S6.hd, by decide, by decide, fun z2 s3 _ _ => ?_⟩
        have S7 := S6.put (u := .lst [.int s3])
        have hnp7 := S7.s _ _ hnp
        refine ⟨rfl, _, rfl, ?_⟩
        obtain ⟨k, rfl⟩ := Int.eq_ofNat_of_zero_le z0
        have sl2 := nl
        refine ite2 (fun c => ?_) (fun c => ?_)
        · refine ⟨_, rfl, np, _, rfl, .inl (SqL.of hnp7), ?_⟩
          cases hxd with
          | @tx b1 n1 x1 h1 =>
            have h17 := S7.s _ _ h1
            refine ⟨_, rfl, b1, _, _, _, rfl, rfl, SqT.of h17, at_0, rfl, _, rfl, ite2 (fun _ => ?_) (fun c => absurd (by decide) c)⟩
            refine ⟨_, rfl, b1, _, _, _, rfl, rfl, SqT.of h17, at_1, _, rfl, b1, _, _, _, rfl, rfl, SqT.of h17, at_2, _, rfl, sa, s3, G5, M, rfl, S7, fun x2 s4 G8 H8 S8 g8 xl2 => ?_⟩
            refine ⟨by show 2 ≤ sizeLine; decide, fun t1 ht1 => ?_⟩
            have S81 := S8.alloc (o := .tup [.str x1, .str x2]) ht1
            have g81 := S8.grow (o := .tup [.str x1, .str x2]) ht1
            have ht81 := S81.s _ _ (show upd G8 t1 (.tup [.str x1, .str x2]) t1 = _ from upd_same)
            refine ⟨_, rfl, sa, s4, 3, rfl, S81.hd, by decide, by decide, fun z3 s5 _ _ => ?_⟩
            have S82 := S81.put (u := .lst [.int s5])
            have ht82 := S82.s _ _ (show upd G8 t1 (.tup [.str x1, .str x2]) t1 = _ from upd_same)
            obtain ⟨y, hy, hyl⟩ : ∃ y, atI [V.str x1, V.str x2] (if decide (V.int z3 = V.int 0) = true then 1 else 0) = some (V.str y) ∧ (reprText y).length ≤ 20 := by
              have o1 : (reprText x1).length ≤ 20 := ((AllS_iff.mp nk _ dm).own).2
              split
              · exact ⟨x2, rfl, xl2⟩
              · exact ⟨x1, rfl, o1⟩
            refine ⟨rfl, .inr ⟨_, rfl, t1, _, _, _, rfl, rfl, SqT.of ht82, hy, by show 3 ≤ sizeLine; decide, fun t ht => ?_⟩⟩
            have S9 := S82.alloc (o := .tup [.str "text", .int n1, .str y]) ht
            have g59 := Same.trans g8 (Same.trans g81 (S82.grow (o := .tup [.str "text", .int n1, .str y]) ht))
            have hnp9 := g59 _ _ hnp
            have hv9 : NdA _ (.ref t) (.tx n1 y) := NdA.tx (show upd (upd G8 t1 (.tup [.str x1, .str x2])) t (.tup [.str "text", .int n1, .str y]) t = _ from upd_same)
            have ae : AllD NamOk (.tx n1 y) := by
              simp only [AllD]
              exact ⟨List.nil_sublist _, hyl⟩
            have sbe : SubN (numN (.tx n1 y)) (numN (.tx n1 x1)) := ⟨by simp [numN], fun x h => h, Nat.le_refl _⟩
            have hNe : hN (.tx n1 y) ≤ hN (.tx n1 x1) := Nat.le_refl _
            refine ⟨_, rfl, _, rfl, _, rfl, np, _, rfl, SqL.of (S9.s _ _ hnp9), fun q1 hq1 => ?_⟩
            rw [show cutV nxs none (some ((nxs.length : Nat) : Int)) = nxs.take nxs.length from cut_take]
            have T5 := S9.alloc (o := .lst (nxs.take nxs.length)) hq1
            have t5 := S9.grow (o := .lst (nxs.take nxs.length)) hq1
            refine ⟨_, rfl, by show 1 ≤ sizeLine; decide, fun q2 hq2 => ?_⟩
            have T6 := T5.alloc (o := .lst [.ref t]) hq2
            have t6 := T5.grow (o := .lst [.ref t]) hq2
            refine ⟨q1, q2, nxs.take nxs.length, [.ref t], rfl, rfl, T6.s _ _ (t6 _ _ upd_same), T6.s _ _ upd_same, ?_, fun q3 hq3 => ?_⟩
            · rw [List.length_take]
              exact Nat.le_trans (show min nxs.length nxs.length + 1 ≤ 1000 by omega) (by decide)
            have T7 := T6.alloc (o := .lst (nxs.take nxs.length ++ [.ref t])) hq3
            have t7 := T6.grow (o := .lst (nxs.take nxs.length ++ [.ref t])) hq3
            have t57 := Same.trans t5 (Same.trans t6 t7)
            refine ⟨_, rfl, _, rfl, _, rfl, np, _, rfl, SqL.of (T7.s _ _ (t57 _ _ hnp9)), fun q4 hq4 => ?_⟩
            rw [show cutV nxs (some ((nxs.length : Nat) : Int)) none = nxs.drop nxs.length from cut_drop']
            have T8 := T7.alloc (o := .lst (nxs.drop nxs.length)) hq4
            have t8 := T7.grow (o := .lst (nxs.drop nxs.length)) hq4
            refine ⟨q3, q4, nxs.take nxs.length ++ [.ref t], nxs.drop nxs.length, rfl, rfl, T8.s _ _ (t8 _ _ upd_same), T8.s _ _ upd_same, ?_, fun q5 hq5 => ?_⟩
            · rw [List.length_append, List.length_take, List.length_drop]
              exact Nat.le_trans (show min nxs.length nxs.length + 1 + (nxs.length - nxs.length) ≤ 1000 by omega) (by decide)
            have t9 := T8.grow (o := .lst (nxs.take nxs.length ++ [.ref t] ++ nxs.drop nxs.length)) hq5
            have t59 := Same.trans t57 (Same.trans t8 t9)
            have e1 : kk.take (j + 1) = kk.take j ++ [.tx n1 x1] := by rw [List.take_add_one, hd]; rfl
            refine ⟨s5, q5, nxs.take nxs.length ++ [.ref t] ++ nxs.drop nxs.length, nds.take nxs.length ++ [.tx n1 y] ++ nds.drop nxs.length, _, _, _, _, _, _, T8.alloc hq5, Same.trans g5 (Same.trans g59 t59), upd_same, ((nds_take nxs.length (hnk.same (Same.trans g59 t59))).app (.cons (hv9.same t59) .nil)).app (nds_drop nxs.length (hnk.same (Same.trans g59 t59))), ?_, ?_, ?_, ?_, rfl⟩
            · exact AllS_app (AllS_app (AllS_iff.mpr fun e he => AllS_iff.mp nak e (List.mem_of_mem_take he)) (AllS_one ae)) (AllS_iff.mpr fun e he => AllS_iff.mp nak e (List.mem_of_mem_drop he))
            · have e2 : numS (kk.take (j + 1)) = numS (kk.take j) ++ numN (.tx n1 x1) := by rw [e1, numS_app, numS_one]
              rw [e2]
              refine subN_ins nsb sbe fun x hx hx2 => ?_
              have : (numS (kk.take (j + 1))).Nodup := (numS_subS (List.take_sublist _ _)).nodup ndk
              rw [e1, numS_app, numS_one] at this
              exact (List.nodup_append.mp this).2.2 x hx x hx2 rfl
            · refine hS_le fun x hx => ?_
              rcases List.mem_append.mp hx with hx | hx
              · rcases List.mem_append.mp hx with hx | hx
                · exact Nat.le_trans (hS_mem (List.mem_of_mem_take hx)) nhS
                · rw [List.mem_singleton.mp hx]
                  exact Nat.le_trans hNe (hS_mem dm)
              · exact Nat.le_trans (hS_mem (List.mem_of_mem_drop hx)) nhS
            · rw [List.length_append, List.length_append, List.length_take, List.length_drop]
              show min nxs.length nds.length + 1 + (nds.length - nxs.length) ≤ j + 1
              omega
          | @el b1 pk1 n1 t1 va1 as1 vs1 ks1 h1 hA1 hk1 hs1 =>
            have h17 := S7.s _ _ h1
            have nk1 := AllS_iff.mp nk _ dm
            have nk2 := nk1.own
            refine ⟨_, rfl, b1, _, _, _, rfl, rfl, SqT.of h17, at_0, rfl, _, rfl, ite2 (fun c => absurd c (by decide)) (fun _ => ?_)⟩
            refine ⟨_, rfl, b1, _, _, _, rfl, rfl, SqT.of h17, at_2, by show 2 ≤ sizeLine; decide, fun t4 ht4 => ?_⟩
            have S81 := S7.alloc (o := .tup [.str t1, .str "i"]) ht4
            have g81 := S7.grow (o := .tup [.str t1, .str "i"]) ht4
            refine ⟨_, rfl, sa, s3, 9, rfl, S81.hd, by decide, by decide, fun z3 s5 _ _ => ?_⟩
            have S82 := S81.put (u := .lst [.int s5])
            have ht82 := S82.s _ _ (show upd G5 t4 (.tup [.str t1, .str "i"]) t4 = _ from upd_same)
            obtain ⟨y, hy, hyl⟩ : ∃ y, atI [V.str t1, V.str "i"] (if decide (V.int z3 = V.int 0) = true then 1 else 0) = some (V.str y) ∧ (reprText y).length ≤ 20 := by
              have o1 : (reprText t1).length ≤ 20 := nk2.2.1
              split
              · exact ⟨_, rfl, by decide +kernel⟩
              · exact ⟨t1, rfl, o1⟩
            refine ⟨rfl, .inr ⟨_, rfl, t4, _, _, _, rfl, rfl, SqT.of ht82, hy, ?_⟩⟩
            have h18 := S82.s _ _ (g81 _ _ h1)
            refine ⟨_, rfl, b1, _, _, _, rfl, rfl, SqT.of h18, at_3', _, rfl, sa, s5, _, M, rfl, S82, fun va2 as2 s6 G8 H8 S8 g8 hA2 nm2 sh2 => ?_⟩
            refine ⟨by show 2 ≤ sizeLine; decide, fun t5 ht5 => ?_⟩
            have S83 := S8.alloc (o := .tup [va1, va2]) ht5
            have g83 := S8.grow (o := .tup [va1, va2]) ht5
            refine ⟨_, rfl, sa, s6, 3, rfl, S83.hd, by decide, by decide, fun z4 s7 _ _ => ?_⟩
            have S84 := S83.put (u := .lst [.int s7])
            have ht84 := S84.s _ _ (show upd G8 t5 (.tup [va1, va2]) t5 = _ from upd_same)
            have g584 := Same.trans g81 (Same.trans g8 g83)
            obtain ⟨vu, bs, hvu, hAu, nmu, shu⟩ : ∃ vu bs, atI [va1, va2] (if decide (V.int z4 = V.int 0) = true then 1 else 0) = some vu ∧ AtA (upd G8 t5 (.tup [va1, va2])) vu bs ∧ (bs.map (·.1)).Sublist lNames ∧ ∀ p ∈ bs, (reprText p.2).length ≤ 20 := by
              split
              · exact ⟨va2, as2, rfl, hA2.same g83, nm2, sh2⟩
              · exact ⟨va1, as1, rfl, hA1.same g584, nk2.1, nk2.2.2⟩
            refine ⟨rfl, .inr ⟨_, rfl, t5, _, _, _, rfl, rfl, SqT.of ht84, hvu, ?_⟩⟩
            have h19 := S84.s _ _ (g584 _ _ h1)
            have nl1 := numS_mem dm
            have hm := hS_mem dm
            rw [hN_eq] at hm
            obtain ⟨N', rfl⟩ : ∃ N', N = N' + 1 := ⟨N - 1, by omega⟩
            have esp := hsp N' rfl
            subst esp
            have nks : (numS ks1).Sublist (numS ks) := (numN_kids (.el n1 t1 as1 ks1)).trans nl1
            have nksl := nks.length_le
            refine ⟨_, rfl, b1, _, _, _, rfl, rfl, SqT.of h19, at_1, _, rfl, _, rfl, _, rfl, _, rfl, b1, _, _, _, rfl, rfl, SqT.of h19, at_4', _, rfl, _, _, rfl, rfl, sa, s7, pk1, _, ks1, _, M, rfl, S84, ⟨vs1, g584 _ _ hk1, hs1.same g584⟩, nk1.kids, nks.nodup nd, by omega, by show hS ks1 ≤ N'; have : hS ks1 + 1 ≤ hS ks := hm; omega, fun p6 ks6 s8 G10 H10 S10 g10 ht10 nk10 sb10 hS10 => ?_⟩
            refine ⟨by show 5 ≤ sizeLine; decide, fun t ht => ?_⟩
            obtain ⟨ws6, hw6, hn6⟩ := ht10
            have S9 := S10.alloc (o := .tup [.str "element", .int n1, .str y, vu, .ref p6]) ht
            have g9 := S10.grow (o := .tup [.str "element", .int n1, .str y, vu, .ref p6]) ht
            have g59 := Same.trans g584 (Same.trans g10 g9)
            have hnp9 := g59 _ _ hnp
            have hv9 : NdA (upd G10 t (.tup [.str "element", .int n1, .str y, vu, .ref p6])) (.ref t) (.el n1 y bs ks6) := NdA.el upd_same (hAu.same (Same.trans g10 g9)) (g9 _ _ hw6) (hn6.same g9)
            have ae : AllD NamOk (.el n1 y bs ks6) := by
              simp only [AllD]
              exact ⟨⟨nmu, hyl, shu⟩, nk10⟩
            have dn1 : (numN (.el n1 t1 as1 ks1)).Nodup := nl1.nodup nd
            simp only [numN, List.nodup_cons] at dn1
            have sbe : SubN (numN (.el n1 y bs ks6)) (numN (.el n1 t1 as1 ks1)) := by
              simp only [numN]
              refine ⟨List.nodup_cons.mpr ⟨fun h => dn1.1 (sb10.sub _ h), sb10.nd⟩, fun x h => ?_, ?_⟩
              · rcases List.mem_cons.mp h with rfl | h
                · exact List.mem_cons_self
                · exact List.mem_cons_of_mem _ (sb10.sub _ h)
              · have := sb10.len
                simp only [List.length_cons]
                omega
            have hNe : hN (.el n1 y bs ks6) ≤ hN (.el n1 t1 as1 ks1) := by
              simp only [hN]
              omega
            refine ⟨_, rfl, _, rfl, _, rfl, np, _, rfl, SqL.of (S9.s _ _ hnp9), fun q1 hq1 => ?_⟩
            rw [show cutV nxs none (some ((nxs.length : Nat) : Int)) = nxs.take nxs.length from cut_take]
            have T5 := S9.alloc (o := .lst (nxs.take nxs.length)) hq1
            have t5 := S9.grow (o := .lst (nxs.take nxs.length)) hq1
            refine ⟨_, rfl, by show 1 ≤ sizeLine; decide, fun q2 hq2 => ?_⟩
            have T6 := T5.alloc (o := .lst [.ref t]) hq2
            have t6 := T5.grow (o := .lst [.ref t]) hq2
            refine ⟨q1, q2, nxs.take nxs.length, [.ref t], rfl, rfl, T6.s _ _ (t6 _ _ upd_same), T6.s _ _ upd_same, ?_, fun q3 hq3 => ?_⟩
            · rw [List.length_take]
              exact Nat.le_trans (show min nxs.length nxs.length + 1 ≤ 1000 by omega) (by decide)
            have T7 := T6.alloc (o := .lst (nxs.take nxs.length ++ [.ref t])) hq3
            have t7 := T6.grow (o := .lst (nxs.take nxs.length ++ [.ref t])) hq3
            have t57 := Same.trans t5 (Same.trans t6 t7)
            refine ⟨_, rfl, _, rfl, _, rfl, np, _, rfl, SqL.of (T7.s _ _ (t57 _ _ hnp9)), fun q4 hq4 => ?_⟩
            rw [show cutV nxs (some ((nxs.length : Nat) : Int)) none = nxs.drop nxs.length from cut_drop']
            have T8 := T7.alloc (o := .lst (nxs.drop nxs.length)) hq4
            have t8 := T7.grow (o := .lst (nxs.drop nxs.length)) hq4
            refine ⟨q3, q4, nxs.take nxs.length ++ [.ref t], nxs.drop nxs.length, rfl, rfl, T8.s _ _ (t8 _ _ upd_same), T8.s _ _ upd_same, ?_, fun q5 hq5 => ?_⟩
            · rw [List.length_append, List.length_take, List.length_drop]
              exact Nat.le_trans (show min nxs.length nxs.length + 1 + (nxs.length - nxs.length) ≤ 1000 by omega) (by decide)
            have t9 := T8.grow (o := .lst (nxs.take nxs.length ++ [.ref t] ++ nxs.drop nxs.length)) hq5
            have t59 := Same.trans t57 (Same.trans t8 t9)
            have e1 : kk.take (j + 1) = kk.take j ++ [.el n1 t1 as1 ks1] := by rw [List.take_add_one, hd]; rfl
            refine ⟨s8, q5, nxs.take nxs.length ++ [.ref t] ++ nxs.drop nxs.length, nds.take nxs.length ++ [.el n1 y bs ks6] ++ nds.drop nxs.length, _, _, _, _, _, _, T8.alloc hq5, Same.trans g5 (Same.trans g59 t59), upd_same, ((nds_take nxs.length (hnk.same (Same.trans g59 t59))).app (.cons (hv9.same t59) .nil)).app (nds_drop nxs.length (hnk.same (Same.trans g59 t59))), ?_, ?_, ?_, ?_, rfl⟩
            · exact AllS_app (AllS_app (AllS_iff.mpr fun e he => AllS_iff.mp nak e (List.mem_of_mem_take he)) (AllS_one ae)) (AllS_iff.mpr fun e he => AllS_iff.mp nak e (List.mem_of_mem_drop he))
            · have e2 : numS (kk.take (j + 1)) = numS (kk.take j) ++ numN (.el n1 t1 as1 ks1) := by rw [e1, numS_app, numS_one]
              rw [e2]
              refine subN_ins nsb sbe fun x hx hx2 => ?_
              have : (numS (kk.take (j + 1))).Nodup := (numS_subS (List.take_sublist _ _)).nodup ndk
              rw [e1, numS_app, numS_one] at this
              exact (List.nodup_append.mp this).2.2 x hx x hx2 rfl
            · refine hS_le fun x hx => ?_
              rcases List.mem_append.mp hx with hx | hx
              · rcases List.mem_append.mp hx with hx | hx
                · exact Nat.le_trans (hS_mem (List.mem_of_mem_take hx)) nhS
                · rw [List.mem_singleton.mp hx]
                  exact Nat.le_trans hNe (hS_mem dm)
              · exact Nat.le_trans (hS_mem (List.mem_of_mem_drop hx)) nhS
            · rw [List.length_append, List.length_append, List.length_take, List.length_drop]
              show min nxs.length nds.length + 1 + (nds.length - nxs.length) ≤ j + 1
              omega
        · have kle : k ≤ nxs.length := by omega
          cases hxd with
          | @tx b1 n1 x1 h1 =>
            have h17 := S7.s _ _ h1
            refine ⟨_, rfl, b1, _, _, _, rfl, rfl, SqT.of h17, at_0, rfl, _, rfl, ite2 (fun _ => ?_) (fun c => absurd (by decide) c)⟩
            refine ⟨_, rfl, b1, _, _, _, rfl, rfl, SqT.of h17, at_1, _, rfl, b1, _, _, _, rfl, rfl, SqT.of h17, at_2, _, rfl, sa, s3, G5, M, rfl, S7, fun x2 s4 G8 H8 S8 g8 xl2 => ?_⟩
            refine ⟨by show 2 ≤ sizeLine; decide, fun t1 ht1 => ?_⟩
            have S81 := S8.alloc (o := .tup [.str x1, .str x2]) ht1
            have g81 := S8.grow (o := .tup [.str x1, .str x2]) ht1
            have ht81 := S81.s _ _ (show upd G8 t1 (.tup [.str x1, .str x2]) t1 = _ from upd_same)
            refine ⟨_, rfl, sa, s4, 3, rfl, S81.hd, by decide, by decide, fun z3 s5 _ _ => ?_⟩
            have S82 := S81.put (u := .lst [.int s5])
            have ht82 := S82.s _ _ (show upd G8 t1 (.tup [.str x1, .str x2]) t1 = _ from upd_same)
            obtain ⟨y, hy, hyl⟩ : ∃ y, atI [V.str x1, V.str x2] (if decide (V.int z3 = V.int 0) = true then 1 else 0) = some (V.str y) ∧ (reprText y).length ≤ 20 := by
              have o1 : (reprText x1).length ≤ 20 := ((AllS_iff.mp nk _ dm).own).2
              split
              · exact ⟨x2, rfl, xl2⟩
              · exact ⟨x1, rfl, o1⟩
            refine ⟨rfl, .inr ⟨_, rfl, t1, _, _, _, rfl, rfl, SqT.of ht82, hy, by show 3 ≤ sizeLine; decide, fun t ht => ?_⟩⟩
            have S9 := S82.alloc (o := .tup [.str "text", .int n1, .str y]) ht
            have g59 := Same.trans g8 (Same.trans g81 (S82.grow (o := .tup [.str "text", .int n1, .str y]) ht))
            have hnp9 := g59 _ _ hnp
            have hv9 : NdA _ (.ref t) (.tx n1 y) := NdA.tx (show upd (upd G8 t1 (.tup [.str x1, .str x2])) t (.tup [.str "text", .int n1, .str y]) t = _ from upd_same)
            have ae : AllD NamOk (.tx n1 y) := by
              simp only [AllD]
              exact ⟨List.nil_sublist _, hyl⟩
            have sbe : SubN (numN (.tx n1 y)) (numN (.tx n1 x1)) := ⟨by simp [numN], fun x h => h, Nat.le_refl _⟩
            have hNe : hN (.tx n1 y) ≤ hN (.tx n1 x1) := Nat.le_refl _
            refine ⟨_, rfl, _, rfl, _, rfl, np, _, rfl, SqL.of (S9.s _ _ hnp9), fun q1 hq1 => ?_⟩
            rw [show cutV nxs none (some ((k : Nat) : Int)) = nxs.take k from cut_take]
            have T5 := S9.alloc (o := .lst (nxs.take k)) hq1
            have t5 := S9.grow (o := .lst (nxs.take k)) hq1
            refine ⟨_, rfl, by show 1 ≤ sizeLine; decide, fun q2 hq2 => ?_⟩
            have T6 := T5.alloc (o := .lst [.ref t]) hq2
            have t6 := T5.grow (o := .lst [.ref t]) hq2
            refine ⟨q1, q2, nxs.take k, [.ref t], rfl, rfl, T6.s _ _ (t6 _ _ upd_same), T6.s _ _ upd_same, ?_, fun q3 hq3 => ?_⟩
            · rw [List.length_take]
              exact Nat.le_trans (show min k nxs.length + 1 ≤ 1000 by omega) (by decide)
            have T7 := T6.alloc (o := .lst (nxs.take k ++ [.ref t])) hq3
            have t7 := T6.grow (o := .lst (nxs.take k ++ [.ref t])) hq3
            have t57 := Same.trans t5 (Same.trans t6 t7)
            refine ⟨_, rfl, _, rfl, _, rfl, np, _, rfl, SqL.of (T7.s _ _ (t57 _ _ hnp9)), fun q4 hq4 => ?_⟩
            rw [show cutV nxs (some ((k : Nat) : Int)) none = nxs.drop k from cut_drop']
            have T8 := T7.alloc (o := .lst (nxs.drop k)) hq4
            have t8 := T7.grow (o := .lst (nxs.drop k)) hq4
            refine ⟨q3, q4, nxs.take k ++ [.ref t], nxs.drop k, rfl, rfl, T8.s _ _ (t8 _ _ upd_same), T8.s _ _ upd_same, ?_, fun q5 hq5 => ?_⟩
            · rw [List.length_append, List.length_take, List.length_drop]
              exact Nat.le_trans (show min k nxs.length + 1 + (nxs.length - k) ≤ 1000 by omega) (by decide)
            have t9 := T8.grow (o := .lst (nxs.take k ++ [.ref t] ++ nxs.drop k)) hq5
            have t59 := Same.trans t57 (Same.trans t8 t9)
            have e1 : kk.take (j + 1) = kk.take j ++ [.tx n1 x1] := by rw [List.take_add_one, hd]; rfl
            refine ⟨s5, q5, nxs.take k ++ [.ref t] ++ nxs.drop k, nds.take k ++ [.tx n1 y] ++ nds.drop k, _, _, _, _, _, _, T8.alloc hq5, Same.trans g5 (Same.trans g59 t59), upd_same, ((nds_take k (hnk.same (Same.trans g59 t59))).app (.cons (hv9.same t59) .nil)).app (nds_drop k (hnk.same (Same.trans g59 t59))), ?_, ?_, ?_, ?_, rfl⟩
            · exact AllS_app (AllS_app (AllS_iff.mpr fun e he => AllS_iff.mp nak e (List.mem_of_mem_take he)) (AllS_one ae)) (AllS_iff.mpr fun e he => AllS_iff.mp nak e (List.mem_of_mem_drop he))
            · have e2 : numS (kk.take (j + 1)) = numS (kk.take j) ++ numN (.tx n1 x1) := by rw [e1, numS_app, numS_one]
              rw [e2]
              refine subN_ins nsb sbe fun x hx hx2 => ?_
              have : (numS (kk.take (j + 1))).Nodup := (numS_subS (List.take_sublist _ _)).nodup ndk
              rw [e1, numS_app, numS_one] at this
              exact (List.nodup_append.mp this).2.2 x hx x hx2 rfl
            · refine hS_le fun x hx => ?_
              rcases List.mem_append.mp hx with hx | hx
              · rcases List.mem_append.mp hx with hx | hx
                · exact Nat.le_trans (hS_mem (List.mem_of_mem_take hx)) nhS
                · rw [List.mem_singleton.mp hx]
                  exact Nat.le_trans hNe (hS_mem dm)
              · exact Nat.le_trans (hS_mem (List.mem_of_mem_drop hx)) nhS
            · rw [List.length_append, List.length_append, List.length_take, List.length_drop]
              show min k nds.length + 1 + (nds.length - k) ≤ j + 1
              omega
          | @el b1 pk1 n1 t1 va1 as1 vs1 ks1 h1 hA1 hk1 hs1 =>
            have h17 := S7.s _ _ h1
            have nk1 := AllS_iff.mp nk _ dm
            have nk2 := nk1.own
            refine ⟨_, rfl, b1, _, _, _, rfl, rfl, SqT.of h17, at_0, rfl, _, rfl, ite2 (fun c => absurd c (by decide)) (fun _ => ?_)⟩
            refine ⟨_, rfl, b1, _, _, _, rfl, rfl, SqT.of h17, at_2, by show 2 ≤ sizeLine; decide, fun t4 ht4 => ?_⟩
            have S81 := S7.alloc (o := .tup [.str t1, .str "i"]) ht4
            have g81 := S7.grow (o := .tup [.str t1, .str "i"]) ht4
            refine ⟨_, rfl, sa, s3, 9, rfl, S81.hd, by decide, by decide, fun z3 s5 _ _ => ?_⟩
            have S82 := S81.put (u := .lst [.int s5])
            have ht82 := S82.s _ _ (show upd G5 t4 (.tup [.str t1, .str "i"]) t4 = _ from upd_same)
            obtain ⟨y, hy, hyl⟩ : ∃ y, atI [V.str t1, V.str "i"] (if decide (V.int z3 = V.int 0) = true then 1 else 0) = some (V.str y) ∧ (reprText y).length ≤ 20 := by
              have o1 : (reprText t1).length ≤ 20 := nk2.2.1
              split
              · exact ⟨_, rfl, by decide +kernel⟩
              · exact ⟨t1, rfl, o1⟩
            refine ⟨rfl, .inr ⟨_, rfl, t4, _, _, _, rfl, rfl, SqT.of ht82, hy, ?_⟩⟩
            have h18 := S82.s _ _ (g81 _ _ h1)
            refine ⟨_, rfl, b1, _, _, _, rfl, rfl, SqT.of h18, at_3', _, rfl, sa, s5, _, M, rfl, S82, fun va2 as2 s6 G8 H8 S8 g8 hA2 nm2 sh2 => ?_⟩
            refine ⟨by show 2 ≤ sizeLine; decide, fun t5 ht5 => ?_⟩
            have S83 := S8.alloc (o := .tup [va1, va2]) ht5
            have g83 := S8.grow (o := .tup [va1, va2]) ht5
            refine ⟨_, rfl, sa, s6, 3, rfl, S83.hd, by decide, by decide, fun z4 s7 _ _ => ?_⟩
            have S84 := S83.put (u := .lst [.int s7])
            have ht84 := S84.s _ _ (show upd G8 t5 (.tup [va1, va2]) t5 = _ from upd_same)
            have g584 := Same.trans g81 (Same.trans g8 g83)
            obtain ⟨vu, bs, hvu, hAu, nmu, shu⟩ : ∃ vu bs, atI [va1, va2] (if decide (V.int z4 = V.int 0) = true then 1 else 0) = some vu ∧ AtA (upd G8 t5 (.tup [va1, va2])) vu bs ∧ (bs.map (·.1)).Sublist lNames ∧ ∀ p ∈ bs, (reprText p.2).length ≤ 20 := by
              split
              · exact ⟨va2, as2, rfl, hA2.same g83, nm2, sh2⟩
              · exact ⟨va1, as1, rfl, hA1.same g584, nk2.1, nk2.2.2⟩
            refine ⟨rfl, .inr ⟨_, rfl, t5, _, _, _, rfl, rfl, SqT.of ht84, hvu, ?_⟩⟩
            have h19 := S84.s _ _ (g584 _ _ h1)
            have nl1 := numS_mem dm
            have hm := hS_mem dm
            rw [hN_eq] at hm
            obtain ⟨N', rfl⟩ : ∃ N', N = N' + 1 := ⟨N - 1, by omega⟩
            have esp := hsp N' rfl
            subst esp
            have nks : (numS ks1).Sublist (numS ks) := (numN_kids (.el n1 t1 as1 ks1)).trans nl1
            have nksl := nks.length_le
            refine ⟨_, rfl, b1, _, _, _, rfl, rfl, SqT.of h19, at_1, _, rfl, _, rfl, _, rfl, _, rfl, b1, _, _, _, rfl, rfl, SqT.of h19, at_4', _, rfl, _, _, rfl, rfl, sa, s7, pk1, _, ks1, _, M, rfl, S84, ⟨vs1, g584 _ _ hk1, hs1.same g584⟩, nk1.kids, nks.nodup nd, by omega, by show hS ks1 ≤ N'; have : hS ks1 + 1 ≤ hS ks := hm; omega, fun p6 ks6 s8 G10 H10 S10 g10 ht10 nk10 sb10 hS10 => ?_⟩
            refine ⟨by show 5 ≤ sizeLine; decide, fun t ht => ?_⟩
            obtain ⟨ws6, hw6, hn6⟩ := ht10
            have S9 := S10.alloc (o := .tup [.str "element", .int n1, .str y, vu, .ref p6]) ht
            have g9 := S10.grow (o := .tup [.str "element", .int n1, .str y, vu, .ref p6]) ht
            have g59 := Same.trans g584 (Same.trans g10 g9)
            have hnp9 := g59 _ _ hnp
            have hv9 : NdA (upd G10 t (.tup [.str "element", .int n1, .str y, vu, .ref p6])) (.ref t) (.el n1 y bs ks6) := NdA.el upd_same (hAu.same (Same.trans g10 g9)) (g9 _ _ hw6) (hn6.same g9)
            have ae : AllD NamOk (.el n1 y bs ks6) := by
              simp only [AllD]
              exact ⟨⟨nmu, hyl, shu⟩, nk10⟩
            have dn1 : (numN (.el n1 t1 as1 ks1)).Nodup := nl1.nodup nd
            simp only [numN, List.nodup_cons] at dn1
            have sbe : SubN (numN (.el n1 y bs ks6)) (numN (.el n1 t1 as1 ks1)) := by
              simp only [numN]
              refine ⟨List.nodup_cons.mpr ⟨fun h => dn1.1 (sb10.sub _ h), sb10.nd⟩, fun x h => ?_, ?_⟩
              · rcases List.mem_cons.mp h with rfl | h
                · exact List.mem_cons_self
                · exact List.mem_cons_of_mem _ (sb10.sub _ h)
              · have := sb10.len
                simp only [List.length_cons]
                omega
            have hNe : hN (.el n1 y bs ks6) ≤ hN (.el n1 t1 as1 ks1) := by
              simp only [hN]
              omega
            refine ⟨_, rfl, _, rfl, _, rfl, np, _, rfl, SqL.of (S9.s _ _ hnp9), fun q1 hq1 => ?_⟩
            rw [show cutV nxs none (some ((k : Nat) : Int)) = nxs.take k from cut_take]
            have T5 := S9.alloc (o := .lst (nxs.take k)) hq1
            have t5 := S9.grow (o := .lst (nxs.take k)) hq1
            refine ⟨_, rfl, by show 1 ≤ sizeLine; decide, fun q2 hq2 => ?_⟩
            have T6 := T5.alloc (o := .lst [.ref t]) hq2
            have t6 := T5.grow (o := .lst [.ref t]) hq2
            refine ⟨q1, q2, nxs.take k, [.ref t], rfl, rfl, T6.s _ _ (t6 _ _ upd_same), T6.s _ _ upd_same, ?_, fun q3 hq3 => ?_⟩
            · rw [List.length_take]
              exact Nat.le_trans (show min k nxs.length + 1 ≤ 1000 by omega) (by decide)
            have T7 := T6.alloc (o := .lst (nxs.take k ++ [.ref t])) hq3
            have t7 := T6.grow (o := .lst (nxs.take k ++ [.ref t])) hq3
            have t57 := Same.trans t5 (Same.trans t6 t7)
            refine ⟨_, rfl, _, rfl, _, rfl, np, _, rfl, SqL.of (T7.s _ _ (t57 _ _ hnp9)), fun q4 hq4 => ?_⟩
            rw [show cutV nxs (some ((k : Nat) : Int)) none = nxs.drop k from cut_drop']
            have T8 := T7.alloc (o := .lst (nxs.drop k)) hq4
            have t8 := T7.grow (o := .lst (nxs.drop k)) hq4
            refine ⟨q3, q4, nxs.take k ++ [.ref t], nxs.drop k, rfl, rfl, T8.s _ _ (t8 _ _ upd_same), T8.s _ _ upd_same, ?_, fun q5 hq5 => ?_⟩
            · rw [List.length_append, List.length_take, List.length_drop]
              exact Nat.le_trans (show min k nxs.length + 1 + (nxs.length - k) ≤ 1000 by omega) (by decide)
            have t9 := T8.grow (o := .lst (nxs.take k ++ [.ref t] ++ nxs.drop k)) hq5
            have t59 := Same.trans t57 (Same.trans t8 t9)
            have e1 : kk.take (j + 1) = kk.take j ++ [.el n1 t1 as1 ks1] := by rw [List.take_add_one, hd]; rfl
            refine ⟨s8, q5, nxs.take k ++ [.ref t] ++ nxs.drop k, nds.take k ++ [.el n1 y bs ks6] ++ nds.drop k, _, _, _, _, _, _, T8.alloc hq5, Same.trans g5 (Same.trans g59 t59), upd_same, ((nds_take k (hnk.same (Same.trans g59 t59))).app (.cons (hv9.same t59) .nil)).app (nds_drop k (hnk.same (Same.trans g59 t59))), ?_, ?_, ?_, ?_, rfl⟩
            · exact AllS_app (AllS_app (AllS_iff.mpr fun e he => AllS_iff.mp nak e (List.mem_of_mem_take he)) (AllS_one ae)) (AllS_iff.mpr fun e he => AllS_iff.mp nak e (List.mem_of_mem_drop he))
            · have e2 : numS (kk.take (j + 1)) = numS (kk.take j) ++ numN (.el n1 t1 as1 ks1) := by rw [e1, numS_app, numS_one]
              rw [e2]
              refine subN_ins nsb sbe fun x hx hx2 => ?_
              have : (numS (kk.take (j + 1))).Nodup := (numS_subS (List.take_sublist _ _)).nodup ndk
              rw [e1, numS_app, numS_one] at this
              exact (List.nodup_append.mp this).2.2 x hx x hx2 rfl
            · refine hS_le fun x hx => ?_
              rcases List.mem_append.mp hx with hx | hx
              · rcases List.mem_append.mp hx with hx | hx
                · exact Nat.le_trans (hS_mem (List.mem_of_mem_take hx)) nhS
                · rw [List.mem_singleton.mp hx]
                  exact Nat.le_trans hNe (hS_mem dm)
              · exact Nat.le_trans (hS_mem (List.mem_of_mem_drop hx)) nhS
            · rw [List.length_append, List.length_append, List.length_take, List.length_drop]
              show min k nds.length + 1 + (nds.length - k) ≤ j + 1
              omega
      · rintro σ H6 ⟨s', np, nxs, nds, G5, y4, y7, y8, y9, y10, S5, g5, hnp, hnk, nak, nsb, nhS, nl, rfl⟩
        rw [List.take_of_length_le (by omega)] at nsb
        obtain ⟨S8, g8⟩ := (⟨S5, Same.refl _⟩ : Sb G5 H6 ((sa, .lst [.int s']) :: M) ∧ Same G5 G5)
        refine ⟨_, rfl, np, nxs, rfl, .inl ⟨SqL.of (S5.s _ _ hnp), fun p hp => ?_⟩⟩
        have g9 := S5.grow (o := .tup nxs) hp
        exact q p nds s' _ _ (S5.alloc hp) (Same.trans g02 (Same.trans g5 g9)) ⟨nxs, upd_same, hnk.same g9⟩ nak ⟨nsb.nd, fun x h => nsub.subset (nsb.sub x h), Nat.le_trans nsb.len nsub.length_le⟩ nhS
theorem lt_N (T : Txt K w mg C) : ∀ n : Nat, Cal P w K mg base (n + 4) "_law_turned" (spTurn n)
  | 0 => lt_S T (N := 0) (sp := spFalse) (fun m h => by omega) (lt_0 T)
  | n + 1 => lt_S T (N := n + 1) (sp := spTurn n) (fun m h => by rw [Nat.succ.inj h]) (lt_N T n)
end
end VL

set_option Elab.async false
set_option linter.all false
set_option pp.maxSteps 700
set_option maxRecDepth 100000
set_option maxHeartbeats 4000000
namespace VL
open PySem PySem.Spec PyProof.Rows L2
def FrR (f : Int) (ks ks' : List Dn) : Prop := ks' = ks ∨ ∃ (k : Nat) (e : Dn), ks' = ks.take k ++ [e] ++ ks.drop k ∧ (numN e).Nodup ∧ (∀ x ∈ numN e, f ≤ x ∧ x ≤ f + 5) ∧ hN e ≤ 3 ∧ (numN e).length ≤ 6
def spFrs : Sp := fun vs H Q _ => ∃ (sa : Addr) (s : Int) (a : Addr) (f : Int) (ks : List Dn) (G : Hp) (M : List (Addr × HO)), vs = [.ref sa, .ref a, .int f] ∧ Sb G H ((sa, .lst [.int s]) :: M) ∧ TupD G a ks ∧ AllS NamOk ks ∧ ks.length ≤ 100 ∧
  ∀ p ks' s' G' H', Sb G' H' ((sa, .lst [.int s']) :: M) → Same G G' → TupD G' p ks' → AllS NamOk ks' → FrR f ks ks' → Q (.ref p) H'
theorem cat_tupF {K : PySem.W.Frag} {G H : Hp} {M : List (Addr × HO)} {a b : Addr} {ks ls : List Dn} {Q : VK} (S : Sb G H M) (ha : TupD G a ks) (hb : TupD G b ls) (hl : ks.length + ls.length ≤ 3000)
    (q : ∀ p G' H', Sb G' H' M → Same G G' → TupD G' p (ks ++ ls) → Q (.ref p) H') : rCatA K (.ref a) (.ref b) H Q := by
  obtain ⟨xs, h1, h2⟩ := ha
  obtain ⟨ys, h3, h4⟩ := hb
  have l1 := h2.len
  have l2 := h4.len
  have big : 100000 < sizeLine := by decide
  refine ⟨a, b, xs, ys, rfl, rfl, SqT.of (S.s _ _ h1), SqT.of (S.s _ _ h3), by omega, fun e => ?_, fun _ e => ?_, fun _ _ p hp => ?_⟩
  · exact q b G H S (Same.refl _) ⟨ys, h3, by subst e; cases h2; exact h4⟩
  · exact q a G H S (Same.refl _) ⟨xs, h1, by subst e; cases h4; rw [List.append_nil]; exact h2⟩
  · have g := S.grow (o := .tup (xs ++ ys)) hp
    exact q p _ _ (S.alloc hp) g ⟨_, upd_same, (h2.same g).app (h4.same g)⟩
theorem sl_takeF {K : PySem.W.Frag} {G H : Hp} {M : List (Addr × HO)} {a : Addr} {kk : List Dn} {i : Nat} {Q : VK} (S : Sb G H M) (ha : TupD G a kk) (q : ∀ p G' H', Sb G' H' M → Same G G' → TupD G' p (kk.take i) → Q (.ref p) H') : rSlA K (.ref a) none (some (i : Int)) H Q := by
  obtain ⟨xs, h1, h2⟩ := ha
  have l2 := h2.len
  refine ⟨a, xs, rfl, SqT.of (S.s _ _ h1), fun hw => ?_, fun hw p hp => ?_⟩
  · have h := hw.2
    rw [HT.sIx_nat] at h
    exact q a G H S (Same.refl _) ⟨xs, h1, by rw [List.take_of_length_le (by omega)]; exact h2⟩
  · rw [cut_take]
    have g := S.grow (o := .tup (xs.take i)) hp
    exact q p _ _ (S.alloc hp) g ⟨_, upd_same, nds_take i (h2.same g)⟩
theorem sl_dropF {K : PySem.W.Frag} {G H : Hp} {M : List (Addr × HO)} {a : Addr} {kk : List Dn} {i : Nat} {Q : VK} (S : Sb G H M) (ha : TupD G a kk) (q : ∀ p G' H', Sb G' H' M → Same G G' → TupD G' p (kk.drop i) → Q (.ref p) H') : rSlA K (.ref a) (some (i : Int)) none H Q := by
  obtain ⟨xs, h1, h2⟩ := ha
  have l2 := h2.len
  refine ⟨a, xs, rfl, SqT.of (S.s _ _ h1), fun hw => ?_, fun hw p hp => ?_⟩
  · have h := hw.1
    rw [HT.sIx_nat] at h
    have e : min i xs.length = 0 := h
    refine q a G H S (Same.refl _) ⟨xs, h1, ?_⟩
    by_cases i0 : i = 0
    · rw [i0, List.drop_zero]
      exact h2
    · have : xs = [] := List.eq_nil_of_length_eq_zero (by omega)
      subst this
      cases h2
      rw [List.drop_nil]
      exact .nil
  · rw [cut_drop']
    have g := S.grow (o := .tup (xs.drop i)) hp
    exact q p _ _ (S.alloc hp) g ⟨_, upd_same, nds_drop i (h2.same g)⟩
section
variable {P : Program} {w : World} {K : PySem.W.Frag} {mg : Str → Option Value} {base : Heap} {C : Ad}
theorem sc__law_fresh : FnScope ["state", "document", "first", "node", "place", "k"] ["state", "document", "first"] (defScope s__law_fresh) := ⟨rfl, rfl, rfl, by decide +kernel, rfl, by decide +kernel, by decide +kernel⟩
theorem ok_frs (T : Txt K w mg C) : Cal P w K mg base 8 "_law_fresh" spFrs := by
  have G_law_digit := ok_dig (P := P) (base := base) T
  have G_law_node := ln_N (P := P) (base := base) T 3
  refine cal_of T.d__law_fresh sc__law_fresh (fun vs H Q E h => ?_) (fun f cdv A outer s H vs Q E hr h => ?_)
  · obtain ⟨sa, s0, a, fi, ks, G, M, rfl, _⟩ := h
    rfl
  · obtain ⟨sa, s0, a, fi, ks, G, M, rfl, S, hta, nk, len, q⟩ := h
    have hu := hu_of hr
    have big : 100000 < sizeLine := by decide
    obtain ⟨xs, ha1, ha2⟩ := id hta
    have xl := ha2.len
    refine ⟨_, (pss_cons (ps_if (pt_cmpR op_eq (pe_c G_law_digit hr (by decide) (by rfl) (pa_cons (pv 0) (pa_cons pe_int pa_nil))) pe_int (nomark _)) (pss_one (ps_ret (pv 1))) pss_nil) (pss_cons (ps_set (i := 3) sc__law_fresh.nd rfl (Or.inl rfl) (pe_c G_law_node hr (by decide) (by rfl) (pa_cons (pv 0) (pa_cons pe_int (pa_cons (pe_lc (own := [("k", 5)]) (g := gName 5) (tt := tYes) rfl sc__law_fresh.nd (pi_range3 (by rfl) T.z_range (pa_cons pe_int (pa_cons (pe_un un_neg pe_int) (pa_cons (pe_un un_neg pe_int) pa_nil)))) (blkOk_by (N := ["state", "document", "first", "node", "place", "k"]) (sc := (defScope s__law_fresh)) (by decide +kernel)) (fun _ _ _ _ _ => pg_name (i := 5) sc__law_fresh.nd rfl (Or.inl rfl)) (fun _ _ _ _ _ => pts_nil) (fun _ _ _ _ _ => (pe_op op_add (pv 2) (pv 5)))) pa_nil))))) (pss_cons (ps_set (i := 4) sc__law_fresh.nd rfl (Or.inl rfl) (pe_c G_law_digit hr (by decide) (by rfl) (pa_cons (pv 0) (pa_cons (pe_op op_add (pe_callB call_len_seq (by rfl) T.z_len PySem.boot_len (pa_cons (pv 1) pa_nil)) pe_int) pa_nil)))) (pss_one (ps_ret (pe_op op_catA (pe_op op_catA (pe_slice sl_tupA (pv 1) po_none (po_some (pv 4))) (pe_tup (pa_cons (pv 3) pa_nil))) (pe_slice sl_tupA (pv 1) (po_some (pv 4)) po_none))))))), ?_⟩
    refine ⟨_, rfl, sa, s0, 2, rfl, S.hd, by decide, by decide, fun z s2 z0 z1 => ?_⟩
    have S1 := S.put (u := .lst [.int s2])
    refine ⟨rfl, _, rfl, ite2 (fun c => ?_) (fun c => ?_)⟩
    · exact ⟨_, rfl, q a ks s2 G _ S1 (Same.refl _) hta nk (.inl rfl)⟩
    · have fr : ([fi + 5, fi + 4, fi + 3, fi + 2, fi + 1, fi] : List Int).length = 6 := rfl
      refine ⟨_, rfl, _, rfl, _, rfl, 5, -1, -1, 6, rfl, RgC.neg (by decide) (by decide) (by decide) (by decide), fun L hL => ?_⟩
      refine lc_it walk_rangeC (fun j H' => Sb G H' ((L, .lst ((([fi + 5, fi + 4, fi + 3, fi + 2, fi + 1, fi] : List Int).take j).map V.int)) :: (sa, .lst [.int s2]) :: M)) (S1.add (o := .lst []) hL) (fun j H' _ z => trivial) ?_ ?_
      · rintro j x H3 H4 hj S3 ⟨rfl, hx⟩
        have hx : x = .int (5 + (j : Nat) * -1) := hx
        subst hx
        have at6 : ([fi + 5, fi + 4, fi + 3, fi + 2, fi + 1, fi] : List Int)[j]? = some (fi + (5 + (j : Nat) * -1)) := by
          rcases (by omega : j = 0 ∨ j = 1 ∨ j = 2 ∨ j = 3 ∨ j = 4 ∨ j = 5) with rfl | rfl | rfl | rfl | rfl | rfl <;> simp <;> omega
        refine ⟨rfl, _, rfl, _, rfl, _, _, rfl, rfl, _, S3.hd, ?_, ?_⟩
        · rw [List.length_map]
          exact Nat.lt_of_le_of_lt (show (([fi + 5, fi + 4, fi + 3, fi + 2, fi + 1, fi] : List Int).take j).length ≤ 6 by rw [List.length_take]; exact Nat.min_le_right _ _) (by decide)
        · rw [List.take_add_one, at6, List.map_append]
          exact S3.put
      · intro H3 S3
        rw [show ([fi + 5, fi + 4, fi + 3, fi + 2, fi + 1, fi] : List Int).take 6 = [fi + 5, fi + 4, fi + 3, fi + 2, fi + 1, fi] from rfl] at S3
        refine ⟨2, sa, L, s2, [fi + 5, fi + 4, fi + 3, fi + 2, fi + 1, fi], G, M, rfl, by decide, (fun z => nomatch z), (show 6 ≤ 100 by decide), S3, fun v d pool' s4 G4 H4 S4 g4 nv ad bd e7 => ?_⟩
        have e8 : (numN d).reverse.Sublist [fi + 5, fi + 4, fi + 3, fi + 2, fi + 1, fi] := by rw [e7]; exact List.sublist_append_right _ _
        have nb : ∀ x ∈ numN d, fi ≤ x ∧ x ≤ fi + 5 := fun x hx => by
          have := e8.subset (List.mem_reverse.mpr hx)
          simp only [List.mem_cons, List.not_mem_nil, or_false] at this
          omega
        have nn : (numN d).Nodup := by
          have : ([fi + 5, fi + 4, fi + 3, fi + 2, fi + 1, fi] : List Int).Nodup := by
            simp only [List.nodup_cons, List.mem_cons, List.not_mem_nil, or_false, not_or, not_false_eq_true, List.nodup_nil, and_true]
            omega
          have := this.sublist e8
          exact (List.reverse_perm _).nodup_iff.mp this
        have nl : (numN d).length ≤ 6 := by
          have := e8.length_le
          rw [List.length_reverse] at this
          exact this
        have hd3 : hN d ≤ 3 := by
          have := hN_dN d
          omega
        obtain ⟨S5, g5⟩ := S4.drop
        have g45 := Same.trans g4 g5
        have nv5 := nv.same g5
        have hta5 := hta.same g45
        have hxs5 := S5.s _ _ (g45 _ _ ha1)
        refine ⟨_, rfl, _, rfl, a, _, rfl, .inr (SqT.of hxs5), _, _, rfl, rfl, sa, s4, _, rfl, S5.hd, by omega, by omega, fun z2 s6 z20 z21 => ?_⟩
        obtain ⟨k, rfl⟩ := Int.eq_ofNat_of_zero_le z20
        have S6 := S5.put (u := .lst [.int s6])
        refine ⟨_, rfl, _, rfl, _, rfl, sl_takeF S6 hta5 fun p1 G7 H7 S7 g7 h7 => ?_⟩
        refine ⟨_, rfl, by show 1 ≤ sizeLine; decide, fun p2 hp2 => ?_⟩
        have S8 := S7.alloc (o := .tup [v]) hp2
        have g8 := S7.grow (o := .tup [v]) hp2
        have kl : k ≤ ks.length := by omega
        have h8 : TupD (upd G7 p2 (.tup [v])) p2 [d] := ⟨[v], upd_same, .cons (nv5.same (Same.trans g7 g8)) .nil⟩
        refine cat_tupF S8 (h7.same g8) h8 (by rw [List.length_take]; show min k ks.length + 1 ≤ 3000; omega) fun p3 G9 H9 S9 g9 h9 => ?_
        have g79 := Same.trans g7 (Same.trans g8 g9)
        refine ⟨_, rfl, _, rfl, _, rfl, ?_⟩
        dsimp only [tNoPart]
        refine sl_dropF S9 (hta5.same g79) fun p4 G10 H10 S10 g10 h10 => ?_
        refine cat_tupF S10 (h9.same g10) h10 (by rw [List.length_append, List.length_take, List.length_drop]; show min k ks.length + 1 + (ks.length - k) ≤ 3000; omega) fun p5 G11 H11 S11 g11 h11 => ?_
        refine q p5 _ s6 _ _ S11 (Same.trans g45 (Same.trans g79 (Same.trans g10 g11))) h11 ?_ (.inr ⟨k, d, rfl, nn, nb, hd3, nl⟩)
        exact AllS_app (AllS_app (AllS_iff.mpr fun e he => AllS_iff.mp nk e (List.mem_of_mem_take he)) (AllS_one ad)) (AllS_iff.mpr fun e he => AllS_iff.mp nk e (List.mem_of_mem_drop he))
end
end VL

set_option Elab.async false
set_option linter.all false
set_option pp.maxSteps 700
set_option maxRecDepth 100000
set_option maxHeartbeats 4000000
namespace VL
open PySem PySem.Spec PyProof.Rows L2
structure DocP (ks : List Dn) : Prop where
  nm : AllS NamOk ks
  nd : (numS ks).Nodup
  nb : ∀ x ∈ numS ks, 1 ≤ x ∧ x ≤ 100
  len : (numS ks).length ≤ 60
  h : hS ks ≤ 8
theorem sql_same {K : PySem.W.Frag} {H H' : Hp} {a : Addr} {xs : List V} (h : SqL K H a xs) (s : Same H H') : SqL K H' a xs := by
  rcases h with (h | ⟨o, h⟩) | h
  · exact .inl (.inl (s _ _ h))
  · exact .inl (.inr ⟨o, s _ _ h⟩)
  · exact .inr h
def spPair (K : PySem.W.Frag) : Sp := fun vs H Q _ => ∃ (a : Addr) (ns : List Int) (k : Nat), vs = [.ref a, .int (k : Int)] ∧ k ≤ 100 ∧ SqL K H a (ns.map V.int) ∧ ∀ p q1 q2 ko kn H', Same H H' → H' p = some (.tup [.ref q1, .ref q2]) → TupD H' q1 ko → TupD H' q2 kn → DocP ko → DocP kn → Q (.ref p) H'
def FrP (f : Int) (A A' : List Int) : Prop := A' = A ∨ ∃ B : List Int, A'.Perm (A ++ B) ∧ B.Nodup ∧ (∀ x ∈ B, f ≤ x ∧ x ≤ f + 5) ∧ B.length ≤ 6
theorem frP {f : Int} {A A' : List Int} (h : FrP f A A') (nd : A.Nodup) (nb : ∀ x ∈ A, 1 ≤ x ∧ x < f) (f1 : 1 ≤ f) : A'.Nodup ∧ (∀ x ∈ A', 1 ≤ x ∧ x ≤ f + 5) ∧ A'.length ≤ A.length + 6 := by
  rcases h with rfl | ⟨B, p, bn, bb, bl⟩
  · exact ⟨nd, fun x hx => ⟨(nb x hx).1, by have := (nb x hx).2; omega⟩, by omega⟩
  · refine ⟨p.nodup_iff.mpr (List.nodup_append.mpr ⟨nd, bn, fun x hx y hy z => ?_⟩), fun x hx => ?_, ?_⟩
    · have h1 := nb x hx
      have h2 := bb y hy
      omega
    · rcases List.mem_append.mp (p.subset hx) with hx | hx
      · have := nb x hx
        omega
      · have := bb x hx
        omega
    · rw [p.length_eq, List.length_append]
      omega
theorem FrR.num {f : Int} {ks ks' : List Dn} (h : FrR f ks ks') : FrP f (numS ks) (numS ks') := by
  rcases h with rfl | ⟨k, e, rfl, h1, h2, _, h3⟩
  · exact .inl rfl
  · exact .inr ⟨numN e, numS_put k ks e, h1, h2, h3⟩
theorem FrP.ctx {f : Int} {A A' L R : List Int} (h : FrP f A A') : FrP f (L ++ (A ++ R)) (L ++ (A' ++ R)) := by
  rcases h with rfl | ⟨B, p, h⟩
  · exact .inl rfl
  · refine .inr ⟨B, ?_, h⟩
    rw [List.append_assoc]
    refine List.Perm.append_left L ?_
    refine (p.append_right R).trans ?_
    rw [List.append_assoc, List.append_assoc]
    exact List.Perm.append_left A List.perm_append_comm
theorem FrR.hgt {f : Int} {ks ks' : List Dn} {n : Nat} (h : FrR f ks ks') (hn : hS ks ≤ n) (n3 : 3 ≤ n) : hS ks' ≤ n := by
  rcases h with rfl | ⟨k, e, rfl, _, _, h2, _⟩
  · exact hn
  · refine hS_le fun x hx => ?_
    rcases List.mem_append.mp hx with hx | hx
    · rcases List.mem_append.mp hx with hx | hx
      · exact Nat.le_trans (hS_mem (List.mem_of_mem_take hx)) hn
      · rw [List.mem_singleton.mp hx]
        omega
    · exact Nat.le_trans (hS_mem (List.mem_of_mem_drop hx)) hn
theorem at_0h {x : V} {ys : List V} : atI (x :: ys) 0 = some x := by
  unfold atI ixN
  rw [if_pos (by decide), if_pos (by simp only [List.length_cons]; omega)]
  rfl
theorem DocP.short {ks : List Dn} (h : DocP ks) : ks.length ≤ 60 := by
  have := (numS_subl ks).length_le
  rw [List.length_map] at this
  exact Nat.le_trans this h.len
section
variable {P : Program} {w : World} {K : PySem.W.Frag} {mg : Str → Option Value} {base : Heap} {C : Ad}
theorem sc__law_pair : FnScope ["script", "k", "state", "old", "choice", "many", "rows", "turn", "new", "head", "number"] ["script", "k"] (defScope s__law_pair) := ⟨rfl, rfl, rfl, by decide +kernel, rfl, by decide +kernel, by decide +kernel⟩
theorem ok_pair (T : Txt K w mg C) : Cal P w K mg base 14 "_law_pair" (spPair K) := by
  have G_law_cell := ok_cell (P := P) (base := base) T
  have G_law_start := ok_start (P := P) (base := base) T
  have G_law_digit := ok_dig (P := P) (base := base) T
  have G_law_word := ok_word (P := P) (base := base) T
  have G_law_pool := ok_pool (P := P) (base := base) T
  have G_law_document := ok_ldoc (P := P) (base := base) T
  have G_law_turned := lt_N (P := P) (base := base) T 8
  have G_law_fresh := ok_frs (P := P) (base := base) T
  refine cal_of T.d__law_pair sc__law_pair (fun vs H Q E h => ?_) (fun f cdv A outer s H vs Q E hr h => ?_)
  · obtain ⟨a, ns, k, rfl, _⟩ := h
    rfl
  · obtain ⟨sa, ns, k, rfl, k100, hSQ, q⟩ := h
    have hu := hu_of hr
    have big : 100000 < sizeLine := by decide
    refine ⟨_, (pss_cons (ps_set (i := 2) sc__law_pair.nd rfl (Or.inr rfl) (pe_c G_law_start hr (by decide) (by rfl) (pa_cons (pe_c G_law_cell hr (by decide) (by rfl) (pa_cons (pv 0) (pa_cons (pe_op op_mul pe_int (pv 1)) pa_nil))) (pa_cons (pv 1) pa_nil)))) (pss_cons (ps_set (i := 3) sc__law_pair.nd rfl (Or.inl rfl) (pe_c G_law_document hr (by decide) (by rfl) (pa_cons (pv 2) (pa_cons (pe_op op_add pe_int (pe_c G_law_digit hr (by decide) (by rfl) (pa_cons (pv 2) (pa_cons pe_int pa_nil)))) (pa_cons (pe_op op_add pe_int (pe_c G_law_digit hr (by decide) (by rfl) (pa_cons (pv 2) (pa_cons pe_int pa_nil)))) pa_nil))))) (pss_cons (ps_set (i := 2) sc__law_pair.nd rfl (Or.inr rfl) (pe_c G_law_start hr (by decide) (by rfl) (pa_cons (pe_c G_law_cell hr (by decide) (by rfl) (pa_cons (pv 0) (pa_cons (pe_op op_add (pe_op op_mul pe_int (pv 1)) pe_int) pa_nil))) (pa_cons (pv 1) pa_nil)))) (pss_cons (ps_set (i := 4) sc__law_pair.nd rfl (Or.inl rfl) (pe_c G_law_digit hr (by decide) (by rfl) (pa_cons (pv 2) (pa_cons pe_int pa_nil)))) (pss_cons (ps_if (pt_cmpR op_eq (pv 4) pe_int (nomark _)) (pss_one (ps_ret (pe_tup (pa_cons (pv 3) (pa_cons (pe_c G_law_document hr (by decide) (by rfl) (pa_cons (pv 2) (pa_cons (pe_op op_add pe_int (pe_c G_law_digit hr (by decide) (by rfl) (pa_cons (pv 2) (pa_cons pe_int pa_nil)))) (pa_cons (pe_op op_add pe_int (pe_c G_law_digit hr (by decide) (by rfl) (pa_cons (pv 2) (pa_cons pe_int pa_nil)))) pa_nil)))) pa_nil))))) pss_nil) (pss_cons (ps_if (pt_cmpR op_eq (pv 4) pe_int (nomark _)) (pss_cons (ps_set (i := 5) sc__law_pair.nd rfl (Or.inl rfl) (pe_op op_add pe_int (pe_c G_law_digit hr (by decide) (by rfl) (pa_cons (pv 2) (pa_cons pe_int pa_nil))))) (pss_cons (ps_set (i := 6) sc__law_pair.nd rfl (Or.inl rfl) (pe_lst pa_nil)) (pss_cons (ps_for PassesOwn.never rfl (pi_range1 (by rfl) T.z_range (pa_cons pe_int pa_nil)) (pg_name (i := 7) sc__law_pair.nd rfl (Or.inl rfl)) (pss_one (ps_expr (pe_bm PySem.F.plainAttrs_list PySem.F.slot_list_append PySem.F.type_list_append mt_append (pv 6) (pa_cons (pe_callTy call_tuple_of (by rfl) T.z_tuple (by decide +kernel) (pa_cons (pe_lc (own := [("number", 10)]) (g := gName 10) (tt := tYes) rfl sc__law_pair.nd (pi_list (pe_c G_law_pool hr (by decide) (by rfl) (pa_cons (pv 2) (pa_cons (pe_op op_sub (pv 5) (pe_op op_mul pe_int (pv 7))) pa_nil)))) (blkOk_by (N := ["script", "k", "state", "old", "choice", "many", "rows", "turn", "new", "head", "number"]) (sc := (defScope s__law_pair)) (by decide +kernel)) (fun _ _ _ _ _ => pg_name (i := 10) sc__law_pair.nd rfl (Or.inl rfl)) (fun _ _ _ _ _ => pts_nil) (fun _ _ _ _ _ => (pe_tup (pa_cons pe_str (pa_cons (pv 10) (pa_cons (pe_c G_law_word hr (by decide) (by rfl) (pa_cons (pv 2) pa_nil)) pa_nil)))))) pa_nil)) pa_nil))))) (pss_one (ps_ret (pe_tup (pa_cons (pe_ix ix_list (pv 6) pe_int (fun _ _ => rfl)) (pa_cons (pe_ix ix_list (pv 6) pe_int (fun _ _ => rfl)) pa_nil)))))))) pss_nil) (pss_cons (ps_set (i := 8) sc__law_pair.nd rfl (Or.inl rfl) (pe_c G_law_turned hr (by decide) (by rfl) (pa_cons (pv 2) (pa_cons (pv 3) (pa_cons pe_int pa_nil))))) (pss_cons (ps_set (i := 8) sc__law_pair.nd rfl (Or.inl rfl) (pe_c G_law_fresh hr (by decide) (by rfl) (pa_cons (pv 2) (pa_cons (pv 8) (pa_cons pe_int pa_nil))))) (pss_cons (ps_if (PW.pt (pw_and (pt_cmpR op_gt (pe_callB call_len_seq (by rfl) T.z_len PySem.boot_len (pa_cons (pv 8) pa_nil)) pe_int (nomark _)) (pw_and1 (pt_cmpR op_eq (pe_ix ix_tup (pe_ix ix_tup (pv 8) pe_int (fun _ _ => rfl)) pe_int (fun _ _ => rfl)) pe_str (nomark _))))) (pss_cons (ps_set (i := 9) sc__law_pair.nd rfl (Or.inl rfl) (pe_ix ix_tup (pv 8) pe_int (fun _ _ => rfl))) (pss_one (ps_set (i := 8) sc__law_pair.nd rfl (Or.inl rfl) (pe_op op_catA (pe_tup (pa_cons (pe_tup (pa_cons pe_str (pa_cons (pe_ix ix_tup (pv 9) pe_int (fun _ _ => rfl)) (pa_cons (pe_ix ix_tup (pv 9) pe_int (fun _ _ => rfl)) (pa_cons (pe_ix ix_tup (pv 9) pe_int (fun _ _ => rfl)) (pa_cons (pe_c G_law_fresh hr (by decide) (by rfl) (pa_cons (pv 2) (pa_cons (pe_ix ix_tup (pv 9) pe_int (fun _ _ => rfl)) (pa_cons pe_int pa_nil)))) pa_nil)))))) pa_nil)) (pe_slice sl_tupA (pv 8) (po_some pe_int) po_none))))) pss_nil) (pss_one (ps_ret (pe_tup (pa_cons (pv 3) (pa_cons (pv 8) pa_nil)))))))))))))), ?_⟩
    refine ⟨_, rfl, _, rfl, _, _, rfl, rfl, .inl ⟨by decide, by decide⟩, sa, ns, 2 * k, by rw [show ((2 * k : Nat) : Int) = 2 * (k : Int) by omega]; rfl, hSQ, fun c => ⟨_, rfl, c, _, rfl, fun sp s hsp => ?_⟩⟩
    have S1 : Sb H (upd H sp (.lst [.int s])) [(sp, .lst [.int s])] := Sb.nil.add hsp
    refine ⟨_, rfl, _, rfl, sp, s, 18, rfl, S1.hd, by decide, by decide, fun z s2 z0 z1 => ?_⟩
    have S2 := S1.put (u := .lst [.int s2])
    obtain ⟨zn, rfl⟩ := Int.eq_ofNat_of_zero_le z0
    refine ⟨_, _, rfl, rfl, _, rfl, sp, s2, 4, rfl, S2.hd, by decide, by decide, fun y s3 y0 y1 => ?_⟩
    have S3 := S2.put (u := .lst [.int s3])
    obtain ⟨yn, rfl⟩ := Int.eq_ofNat_of_zero_le y0
    refine ⟨_, _, rfl, rfl, sp, s3, 1 + zn, 1 + yn, H, [], by rw [show ((1 + zn : Nat) : Int) = 1 + (zn : Int) by omega, show ((1 + yn : Nat) : Int) = 1 + (yn : Int) by omega]; rfl, by omega, by omega, S3, fun fa xs ks s4 G4 H4 S4 g4 hp nk ak bk nd nb nl => ?_⟩
    obtain ⟨S5, g5⟩ := S4.drop
    have g05 := Same.trans g4 g5
    have ht5 : TupD (upd G4 sp (.lst [.int s4])) fa ks := ⟨xs, g5 _ _ hp, nk.same g5⟩
    generalize upd G4 sp (.lst [.int s4]) = G5 at S5 g5 g05 ht5
    clear S4 S3 S2 S1
    have hS5 := sql_same (sql_same hSQ g05) S5.s
    have dp : DocP ks := ⟨ak, nd, fun x hx => by have := nb x hx; omega, by omega, by have := hS_dS ks; omega⟩
    refine ⟨_, rfl, _, rfl, _, _, rfl, rfl, .inl ⟨by decide, by decide⟩, _, _, rfl, rfl, sa, ns, 2 * k + 1, by rw [show ((2 * k + 1 : Nat) : Int) = 2 * (k : Int) + 1 by omega]; rfl, hS5, fun c => ⟨_, rfl, c, _, rfl, fun sp2 t0 hsp2 => ?_⟩⟩
    have S6 := S5.add (o := .lst [.int t0]) hsp2
    refine ⟨_, rfl, sp2, t0, 6, rfl, S6.hd, by decide, by decide, fun ch s7 _ _ => ?_⟩
    have S7 := S6.put (u := .lst [.int s7])
    clear S5 S6
    refine ⟨_, rfl, rfl, _, rfl, ite2 (fun _ => ?_) (fun _ => ⟨_, rfl, rfl, _, rfl, ite2 (fun _ => ?_) (fun _ => ?_)⟩)⟩
    · refine ⟨_, rfl, _, rfl, _, rfl, sp2, s7, 18, rfl, S7.hd, by decide, by decide, fun z s8 z0 z1 => ?_⟩
      have S8 := S7.put (u := .lst [.int s8])
      obtain ⟨zm, rfl⟩ := Int.eq_ofNat_of_zero_le z0
      refine ⟨_, _, rfl, rfl, _, rfl, sp2, s8, 4, rfl, S8.hd, by decide, by decide, fun y s9 y0 y1 => ?_⟩
      have S9 := S8.put (u := .lst [.int s9])
      obtain ⟨ym, rfl⟩ := Int.eq_ofNat_of_zero_le y0
      refine ⟨_, _, rfl, rfl, sp2, s9, 1 + zm, 1 + ym, G5, [], by rw [show ((1 + zm : Nat) : Int) = 1 + (zm : Int) by omega, show ((1 + ym : Nat) : Int) = 1 + (ym : Int) by omega]; rfl, by omega, by omega, S9, fun fa2 xs2 ks2 s10 G10 H10 S10 g10 hp2 nk2 ak2 bk2 nd2 nb2 nl2 => ⟨by show 2 ≤ sizeLine; decide, fun t ht => ?_⟩⟩
      have S11 := S10.alloc (o := .tup [.ref fa, .ref fa2]) ht
      have g11 := S10.grow (o := .tup [.ref fa, .ref fa2]) ht
      have hs := S11.s
      exact q t fa fa2 ks ks2 _ (Same.trans g05 (Same.trans g10 (Same.trans g11 hs))) (hs _ _ upd_same) ((ht5.same g10).same (Same.trans g11 hs)) ⟨xs2, hs _ _ (g11 _ _ hp2), nk2.same (Same.trans g11 hs)⟩ dp ⟨ak2, nd2, fun x hx => by have := nb2 x hx; omega, by omega, by have := hS_dS ks2; omega⟩
    · refine ⟨_, rfl, sp2, s7, 30, rfl, S7.hd, by decide, by decide, fun z s8 z0 z1 => ?_⟩
      refine ⟨_, _, rfl, rfl, ?_⟩
      have S8 := S7.put (u := .lst [.int s8])
      obtain ⟨zm, rfl⟩ := Int.eq_ofNat_of_zero_le z0
      refine ⟨by show 0 ≤ sizeLine; decide, fun F hF => ?_⟩
      have S9 := (S8.add (o := .lst []) hF).swap
      refine ⟨_, rfl, by decide, by decide, ?_⟩
      refine for_range (lo := 0) (n := 2) (fun i σ H' => ∃ (s' : Int) (us : List V) (G' : Hp) (y7 : Option V), Sb G' H' [(sp2, .lst [.int s']), (F, .lst us)] ∧ Same G5 G' ∧ us.length = i ∧ (∀ u ∈ us, ∃ qq kk, u = .ref qq ∧ TupD G' qq kk ∧ DocP kk) ∧ σ = [some (.ref sa), some (.int (k : Int)), some (.ref sp2), some (.ref fa), some (.int ch), some (.int (12 + (zm : Int))), some (.ref F), y7, none, none, none]) ⟨s8, [], G5, _, S9, Same.refl _, rfl, (fun u h => nomatch h), rfl⟩ ?_ ?_
      · rintro i σ H10 hi ⟨s', us, G10, y7, S10, g10, ul, hus, rfl⟩
        have hi2 : i < 2 := hi
        refine ⟨_, rfl, .inl ⟨rfl, _, SqL.of S10.hd2⟩, ?_⟩
        refine ⟨_, rfl, _, rfl, _, rfl, _, _, rfl, rfl, .inl ⟨by decide, by decide⟩, _, _, rfl, rfl, sp2, s', 12 + zm - 5 * i, G10, [(F, .lst us)], ?_, by omega, S10, fun pa pool s11 G11 H11 S11 g11 pl pn pb => ?_⟩
        · rw [show ((12 + zm - 5 * i : Nat) : Int) = 12 + (zm : Int) - 5 * (0 + (i : Int)) by omega]
          rfl
        obtain ⟨S12, g12⟩ := S11.drop
        have hpa : upd G11 pa (.lst (pool.map V.int)) pa = some (.lst (pool.map V.int)) := upd_same
        generalize upd G11 pa (.lst (pool.map V.int)) = G12 at S12 g12 hpa
        clear S11
        refine ⟨pa, rfl, ⟨_, SqL.of (S12.s _ _ hpa)⟩, fun L hL => ?_⟩
        refine lc_it (walk_list (K := K) (a := pa) (xs := pool.map V.int)) (fun j H' => ∃ (s' : Int) (G' : Hp) (ws : List V) (kk : List Dn), Sb G' H' [(L, .lst ws), (sp2, .lst [.int s']), (F, .lst us)] ∧ Same G12 G' ∧ NdAs G' ws kk ∧ AllS NamOk kk ∧ numS kk = pool.take j ∧ hS kk ≤ 1) ⟨s11, G12, [], [], S12.add (o := .lst []) hL, Same.refl _, .nil, trivial, by rw [List.take_zero]; rfl, Nat.zero_le _⟩ (fun j H' _ z => by obtain ⟨_, _, _, _, z, g, _⟩ := z; exact SqL.of (z.s _ _ (g _ _ hpa))) ?_ ?_
        · rintro j x H13 H14 hj ⟨s13, G13, ws, kk, S13, g13, hk, ak3, nm3, h3⟩ ⟨rfl, hx⟩
          rw [List.getElem?_map] at hx
          obtain ⟨m, hm, rfl⟩ := Option.map_eq_some_iff.mp hx
          have wl := hk.len
          have kl : kk.length ≤ 100 := by
            have h1 := (numS_subl kk).length_le
            rw [List.length_map, nm3, List.length_take] at h1
            omega
          refine ⟨rfl, _, rfl, _, rfl, sp2, s13, G13, [(L, .lst ws), (F, .lst us)], rfl, S13.swap, fun x s14 G14 H14 S14 g14 xl => ⟨by show 3 ≤ sizeLine; decide, fun t ht => ?_⟩⟩
          have S15 := S14.swap.alloc (o := .tup [.str "text", .int m, .str x]) ht
          have g15 := S14.swap.grow (o := .tup [.str "text", .int m, .str x]) ht
          refine ⟨ws, S15.hd, by omega, s14, _, ws ++ [.ref t], kk ++ [.tx m x], S15.put, Same.trans g13 (Same.trans g14 g15), (hk.same (Same.trans g14 g15)).app (.cons (.tx upd_same) .nil), AllS_app ak3 (AllS_one ?_), ?_, ?_⟩
          · simp only [AllD]
            exact ⟨List.nil_sublist _, xl⟩
          · rw [numS_app, numS_one, nm3, List.take_add_one, hm]
            rfl
          · refine hS_le fun y hy => ?_
            rcases List.mem_append.mp hy with hy | hy
            · exact Nat.le_trans (hS_mem hy) h3
            · rw [List.mem_singleton.mp hy]
              exact Nat.le_refl _
        · rintro H13 ⟨s13, G13, ws, kk, S13, g13, hk, ak3, nm3, h3⟩
          rw [List.take_of_length_le (by rw [List.length_map]; exact Nat.le_refl _)] at nm3
          refine ⟨L, ws, rfl, .inl ⟨SqL.of S13.hd, fun t ht => ?_⟩⟩
          obtain ⟨S14, g14⟩ := S13.drop
          have S15 := S14.alloc (o := .tup ws) ht
          have g15 := S14.grow (o := .tup ws) ht
          have gg := Same.trans g14 g15
          refine ⟨F, us, .ref t, rfl, rfl, S15.hd2, by omega, s13, us ++ [.ref t], _, _, S15.put2, Same.trans g10 (Same.trans g11 (Same.trans g12 (Same.trans g13 gg))), by rw [List.length_append]; show us.length + 1 = i + 1; omega, fun u hu2 => ?_, rfl⟩
          rcases List.mem_append.mp hu2 with hu2 | hu2
          · obtain ⟨qq, k2, e, h1, h2⟩ := hus u hu2
            exact ⟨qq, k2, e, h1.same (Same.trans g11 (Same.trans g12 (Same.trans g13 gg))), h2⟩
          · exact ⟨t, kk, List.mem_singleton.mp hu2, ⟨ws, upd_same, hk.same gg⟩, ⟨ak3, by rw [nm3]; exact pn, fun x hx => by rw [nm3] at hx; have := pb x hx; omega, by rw [nm3]; omega, by omega⟩⟩
      · rintro σ H10 ⟨s', us, G10, y7, S10, g10, ul, hus, rfl⟩
        have ul : us.length = 2 := ul
        match us, ul, hus, S10 with
        | [u0, u1], _, hus, S10 =>
          obtain ⟨q0, k0, rfl, h00, h01⟩ := hus u0 List.mem_cons_self
          obtain ⟨q1, k1, rfl, h10, h11⟩ := hus u1 (List.mem_cons_of_mem _ List.mem_cons_self)
          refine ⟨_, rfl, F, _, _, _, rfl, rfl, SqL.of S10.hd2, at_0, _, rfl, F, _, _, _, rfl, rfl, SqL.of S10.hd2, at_1, by show 2 ≤ sizeLine; decide, fun t ht => ?_⟩
          have S11 := S10.alloc (o := .tup [.ref q0, .ref q1]) ht
          have g11 := S10.grow (o := .tup [.ref q0, .ref q1]) ht
          exact q t q0 q1 k0 k1 _ (Same.trans g05 (Same.trans g10 (Same.trans g11 S11.s))) (S11.s _ _ upd_same) ((h00.same g11).same S11.s) ((h10.same g11).same S11.s) h01 h11
    · refine ⟨_, rfl, _, rfl, sp2, s7, fa, 1, ks, G5, [], rfl, S7, ht5, ak, nd, by omega, dp.h, fun p1 ks1 s8 G8 H8 S8 g8 ht8 nk8 sb8 hs8 => ?_⟩
      have l8 : ks1.length ≤ 100 := by
        have h1 := (numS_subl ks1).length_le
        rw [List.length_map] at h1
        have h2 := sb8.len
        omega
      refine ⟨_, rfl, _, rfl, sp2, s8, p1, 40, ks1, G8, [], rfl, S8, ht8, nk8, l8, fun p2 ks2 s9 G9 H9 S9 g9 ht9 nk9 fr9 => ?_⟩
      have b1 : ∀ x ∈ numS ks1, 1 ≤ x ∧ x < 40 := fun x hx => by have := nb x (sb8.sub x hx); omega
      obtain ⟨nd9, nb9, nl9⟩ := frP fr9.num sb8.nd b1 (by decide)
      have h1 : hS ks1 ≤ 6 := by have := hS_dS ks; omega
      have h9 := fr9.hgt h1 (by decide)
      have sl8 := sb8.len
      have dp9 : DocP ks2 := ⟨nk9, nd9, fun x hx => by have := nb9 x hx; omega, by omega, by omega⟩
      have ht59 := ht5.same (Same.trans g8 g9)
      obtain ⟨ys, hy1, hy2⟩ := id ht9
      have yl := hy2.len
      have fin : ∀ (t : Addr) (G' H' : Hp) (qq : Addr) (kn : List Dn), Sb G' H' [] → Same G9 G' → G' t = some (.tup [.ref fa, .ref qq]) → TupD G' qq kn → DocP kn → Q (.ref t) H' := fun t G' H' qq kn S' g' h1 h2 h3 => q t fa qq ks kn H' (Same.trans g05 (Same.trans g8 (Same.trans g9 (Same.trans g' S'.s)))) (S'.s _ _ h1) ((ht59.same g').same S'.s) (h2.same S'.s) dp h3
      refine ⟨_, rfl, p2, _, rfl, .inr (SqT.of (S9.s _ _ hy1)), _, _, rfl, rfl, _, rfl, ite2 (fun c0 => ?_) (fun c0 => ?_)⟩
      · cases hy2 with
        | nil => exact absurd (of_decide_eq_true c0) (by simp)
        | @cons v vs d r hv hvs =>
          have hy9 := S9.s _ _ hy1
          cases hv with
          | @tx b1 n1 x1 h1 =>
            refine ⟨_, rfl, p2, _, _, _, rfl, rfl, SqT.of hy9, at_0h, b1, _, _, _, rfl, rfl, SqT.of (S9.s _ _ h1), at_0, rfl, _, rfl, ite2 (fun c => absurd c (by decide)) (fun _ => ?_)⟩
            refine ⟨_, rfl, _, rfl, by show 2 ≤ sizeLine; decide, fun t ht => ?_⟩
            obtain ⟨S10, g10⟩ := S9.drop
            have g11 := S10.grow (o := .tup [.ref fa, .ref p2]) ht
            exact fin t _ _ p2 _ (S10.alloc ht) (Same.trans g10 g11) upd_same (ht9.same (Same.trans g10 g11)) dp9
          | @el b1 pk1 n1 t1 va1 as1 vs1 ks3 h1 hA1 hk1 hs1 =>
            refine ⟨_, rfl, p2, _, _, _, rfl, rfl, SqT.of hy9, at_0h, b1, _, _, _, rfl, rfl, SqT.of (S9.s _ _ h1), at_0, rfl, _, rfl, ite2 (fun _ => ?_) (fun c => absurd (by decide) c)⟩
            have h19 := S9.s _ _ h1
            refine ⟨_, rfl, p2, _, _, _, rfl, rfl, SqT.of hy9, at_0h, ?_⟩
            have nk3 := AllS_iff.mp nk9 _ List.mem_cons_self
            have l3 : ks3.length ≤ 100 := by
              have h1 := (numS_subl ks3).length_le
              rw [List.length_map] at h1
              have h2 := ((numN_kids (.el n1 t1 as1 ks3)).trans (numS_mem (List.mem_cons_self (l := r)))).length_le
              have h3 : (numS ks3).length ≤ (numS (.el n1 t1 as1 ks3 :: r)).length := h2
              have h4 := dp9.len
              omega
            refine ⟨_, rfl, b1, _, _, _, rfl, rfl, SqT.of h19, at_1, _, rfl, b1, _, _, _, rfl, rfl, SqT.of h19, at_2, _, rfl, b1, _, _, _, rfl, rfl, SqT.of h19, at_3', _, rfl, _, rfl, b1, _, _, _, rfl, rfl, SqT.of h19, at_4', sp2, s9, pk1, 60, ks3, G9, [], rfl, S9, ⟨vs1, hk1, hs1⟩, nk3.kids, l3, fun p6 ks6 s10 G10 H10 S10' g10' ht10' nk10 fr10 => ?_⟩
            obtain ⟨S10, g10d⟩ := S10'.drop
            have g10 := Same.trans g10' g10d
            obtain ⟨ws6, hw6, hn6⟩ := ht10'.same g10d
            refine ⟨by show 5 ≤ sizeLine; decide, fun t4 ht4 => ?_⟩
            have S11 := S10.alloc (o := .tup [.str "element", .int n1, .str t1, va1, .ref p6]) ht4
            have g11 := S10.grow (o := .tup [.str "element", .int n1, .str t1, va1, .ref p6]) ht4
            refine ⟨by show 1 ≤ sizeLine; decide, fun t5 ht5 => ?_⟩
            have S12 := S11.alloc (o := .tup [.ref t4]) ht5
            have g12 := S11.grow (o := .tup [.ref t4]) ht5
            have e12 : TupD _ t5 [Dn.el n1 t1 as1 ks6] := ⟨[.ref t4], show upd (upd _ t4 (.tup [.str "element", .int n1, .str t1, va1, .ref p6])) t5 (.tup [.ref t4]) t5 = _ from upd_same, .cons ((NdA.el upd_same (hA1.same (Same.trans g10 g11)) (g11 _ _ hw6) (hn6.same g11)).same g12) .nil⟩
            refine ⟨_, rfl, _, rfl, ?_⟩
            dsimp only [tNoPart]
            refine sl_dropF (i := 1) S12 (ht9.same (Same.trans g10 (Same.trans g11 g12))) fun p7 G13 H13 S13 g13 h13 => ?_
            refine cat_tupF S13 (e12.same g13) h13 (by have := dp9.short; rw [List.length_drop]; show 1 + _ ≤ 3000; omega) fun p8 G14 H14 S14 g14 h14 => ?_
            refine ⟨_, rfl, _, rfl, by show 2 ≤ sizeLine; decide, fun t ht => ?_⟩
            have g15 := S14.grow (o := .tup [.ref fa, .ref p8]) ht
            have g915 := Same.trans g10 (Same.trans g11 (Same.trans g12 (Same.trans g13 (Same.trans g14 g15))))
            refine fin t _ _ p8 _ (S14.alloc ht) g915 upd_same (h14.same g15) ?_
            have e1 : numS (.el n1 t1 as1 ks3 :: r) = [n1] ++ (numS ks3 ++ numS r) := by simp only [numS, numN, List.cons_append, List.nil_append]
            have e2 : numS ([Dn.el n1 t1 as1 ks6] ++ (Dn.el n1 t1 as1 ks3 :: r).drop 1) = [n1] ++ (numS ks6 ++ numS r) := by simp only [List.drop_one, List.tail_cons, List.cons_append, List.nil_append, numS, numN]
            have fp := fr10.num.ctx (L := [n1]) (R := numS r)
            rw [← e1, ← e2] at fp
            obtain ⟨q1, q2, q3⟩ := frP fp nd9 (fun x hx => by have := nb9 x hx; omega) (by decide)
            have hh := h9
            simp only [hS, hN] at hh
            have h6 := fr10.hgt (n := 6) (by omega) (by decide)
            simp only [AllS] at nk9
            have nk33 := nk9.1
            simp only [AllD] at nk33
            refine ⟨?_, q1, fun x hx => by have := q2 x hx; omega, by omega, ?_⟩
            · show AllS NamOk (.el n1 t1 as1 ks6 :: r)
              simp only [AllS, AllD]
              exact ⟨⟨nk33.1, nk10⟩, nk9.2⟩
            · show hS (.el n1 t1 as1 ks6 :: r) ≤ 8
              simp only [hS, hN]
              omega
      · refine ⟨_, rfl, _, rfl, by show 2 ≤ sizeLine; decide, fun t ht => ?_⟩
        obtain ⟨S10, g10⟩ := S9.drop
        have g11 := S10.grow (o := .tup [.ref fa, .ref p2]) ht
        exact fin t _ _ p2 ks2 (S10.alloc ht) (Same.trans g10 g11) upd_same (ht9.same (Same.trans g10 g11)) dp9
end
end VL

set_option Elab.async false
set_option linter.all false
set_option pp.maxSteps 700
set_option maxRecDepth 100000
set_option maxHeartbeats 4000000
namespace VL
open PySem PySem.Spec PyProof.Rows L2 S2S
theorem sh_int {i : Int} (h0 : 0 ≤ i) (h1 : i < 10 ^ 7) : Small 8 0 (.int i) := by
  refine ⟨?_, Nat.le_refl _, ?_⟩
  · show decide (i.natAbs.log2 < 1920) = true
    exact decide_eq_true (log_ok h0 (by omega))
  · show (Str.ofString (toString i)).length ≤ 8
    exact Nat.le_trans (toString_length_le (v := i) (k := 7) h0 (by decide) (by omega)) (by decide)
theorem sh_pairs {n : Nat} : ∀ {as : List Pss}, as.length ≤ n → (∀ p ∈ as, (reprText p.1).length ≤ 20 ∧ (reprText p.2).length ≤ 20) → PyData.showableAll (as.map pairP) = true ∧ PyData.hasDictAll (as.map pairP) = false ∧ piled (PyData.shownAll (as.map pairP)) ≤ as.length * 60 := by
  intro as _ h
  induction as with
  | nil => exact ⟨rfl, rfl, by simp [PyData.shownAll, piled]⟩
  | cons p as ih =>
    rename_i hl
    obtain ⟨i1, i2, i3⟩ := ih (by simp only [List.length_cons] at hl; omega) fun q hq => h q (List.mem_cons_of_mem _ hq)
    obtain ⟨h1, h2⟩ := h p List.mem_cons_self
    have e : (PyData.shown (pairP p)).length ≤ 47 := by
      show (tupleText [reprText p.1, reprText p.2]).length ≤ 47
      have := tupText_le [reprText p.1, reprText p.2]
      simp only [piled, List.map_cons, List.map_nil, List.sum_cons, List.sum_nil] at this
      omega
    refine ⟨?_, ?_, ?_⟩
    · rw [List.map_cons]
      show (PyData.showable (pairP p) && PyData.showableAll (as.map pairP)) = true
      rw [i1]
      rfl
    · rw [List.map_cons]
      show (PyData.hasDict (pairP p) || PyData.hasDictAll (as.map pairP)) = false
      rw [i2]
      rfl
    · rw [List.map_cons]
      have e2 : piled (PyData.shownAll (pairP p :: as.map pairP)) = (PyData.shown (pairP p)).length + 2 + piled (PyData.shownAll (as.map pairP)) := by simp [PyData.shownAll, piled]
      rw [e2, List.length_cons]
      omega
theorem r_text : (reprText ("text" : Str)).length ≤ 20 := by decide +kernel
theorem r_elem : (reprText ("element" : Str)).length ≤ 20 := by decide +kernel
theorem nam_sh {n : Int} {t : Str} {as : List Pss} {ks : List Dn} (h : NamOk (.el n t as ks)) : (reprText t).length ≤ 20 ∧ as.length ≤ 4 ∧ ∀ p ∈ as, (reprText p.1).length ≤ 20 ∧ (reprText p.2).length ≤ 20 := by
  obtain ⟨h1, h2, h3⟩ := h
  have h1 : (as.map (·.1)).Sublist lNames := h1
  refine ⟨h2, ?_, fun p hp => ⟨?_, h3 p hp⟩⟩
  · have := h1.length_le
    rw [List.length_map] at this
    exact this
  · have hm := h1.subset (List.mem_map.mpr ⟨p, hp, rfl⟩)
    have hm : p.1 ∈ (["alt", "class", "id", "name"] : List Str) := hm
    simp only [List.mem_cons, List.not_mem_nil, or_false] at hm
    rcases hm with e | e | e | e <;> rw [e] <;> decide +kernel
mutual
theorem shn_N : ∀ d : Dn, AllD NamOk d → (∀ n ∈ numN d, 1 ≤ n ∧ n < 10 ^ 7) → PyData.showable (enN d) = true ∧ PyData.hasDict (enN d) = false ∧ (PyData.shown (enN d)).length + 2 ≤ 3000 * (numN d).length
  | .tx n x, a, h => by
    have hn := h n (by simp [numN])
    have i := sh_int (i := n) (by omega) hn.2
    have a : (reprText x).length ≤ 20 := a.2
    have rt := r_text
    simp only [enN]
    refine ⟨?_, rfl, ?_⟩
    · show (true && (PyData.showable (.int n) && (true && true))) = true
      rw [i.sh]
      rfl
    · show (tupleText [reprText "text", PyData.shown (.int n), reprText x]).length + 2 ≤ _
      have := tupText_le [reprText "text", PyData.shown (.int n), reprText x]
      simp only [piled, List.map_cons, List.map_nil, List.sum_cons, List.sum_nil] at this
      have := i.ln
      simp only [numN, List.length_singleton]
      omega
  | .el n t as ks, a, h => by
    have hn := h n (by simp [numN])
    have i := sh_int (i := n) (by omega) hn.2
    simp only [AllD] at a
    obtain ⟨a0, a5⟩ := a
    obtain ⟨a1, a2, a4⟩ := nam_sh a0
    obtain ⟨k1, k2, k3⟩ := shn_S ks a5 fun m hm => h m (by simp only [numN, List.mem_cons]; exact .inr hm)
    obtain ⟨p1, p2, p3⟩ := sh_pairs (Nat.le_refl _) a4
    have re := r_elem
    simp only [enN]
    refine ⟨?_, ?_, ?_⟩
    · show (true && (PyData.showable (.int n) && (true && (PyData.showableAll (as.map pairP) && (PyData.showableAll (enS ks) && true))))) = true
      rw [i.sh, p1, k1]
      rfl
    · show (false || (false || (false || (PyData.hasDictAll (as.map pairP) || (PyData.hasDictAll (enS ks) || false))))) = false
      rw [p2, k2]
      rfl
    · show (tupleText [reprText "element", PyData.shown (.int n), reprText t, tupleText (PyData.shownAll (as.map pairP)), tupleText (PyData.shownAll (enS ks))]).length + 2 ≤ _
      have e1 := tupText_le [reprText "element", PyData.shown (.int n), reprText t, tupleText (PyData.shownAll (as.map pairP)), tupleText (PyData.shownAll (enS ks))]
      have e2 := tupText_le (PyData.shownAll (as.map pairP))
      have e3 := tupText_le (PyData.shownAll (enS ks))
      simp only [piled, List.map_cons, List.map_nil, List.sum_cons, List.sum_nil] at e1
      have e4 := i.ln
      have e5 : piled (PyData.shownAll (as.map pairP)) = ((PyData.shownAll (as.map pairP)).map fun t => t.length + 2).sum := rfl
      have e6 : piled (PyData.shownAll (enS ks)) = ((PyData.shownAll (enS ks)).map fun t => t.length + 2).sum := rfl
      simp only [numN, List.length_cons]
      omega
theorem shn_S : ∀ ks : List Dn, AllS NamOk ks → (∀ n ∈ numS ks, 1 ≤ n ∧ n < 10 ^ 7) → PyData.showableAll (enS ks) = true ∧ PyData.hasDictAll (enS ks) = false ∧ piled (PyData.shownAll (enS ks)) ≤ 3000 * (numS ks).length
  | [], _, _ => by simp only [enS]; exact ⟨rfl, rfl, by simp [PyData.shownAll, piled]⟩
  | d :: r, a, h => by
    simp only [AllS] at a
    obtain ⟨d1, d2, d3⟩ := shn_N d a.1 fun m hm => h m (by simp only [numS, List.mem_append]; exact .inl hm)
    obtain ⟨r1, r2, r3⟩ := shn_S r a.2 fun m hm => h m (by simp only [numS, List.mem_append]; exact .inr hm)
    simp only [enS]
    refine ⟨?_, ?_, ?_⟩
    · show (PyData.showable (enN d) && PyData.showableAll (enS r)) = true
      rw [d1, r1]
      rfl
    · show (PyData.hasDict (enN d) || PyData.hasDictAll (enS r)) = false
      rw [d2, r2]
      rfl
    · have e2 : piled (PyData.shownAll (enN d :: enS r)) = (PyData.shown (enN d)).length + 2 + piled (PyData.shownAll (enS r)) := by simp [PyData.shownAll, piled]
      rw [e2]
      simp only [numS, List.length_append]
      omega
end

theorem NamOk.nm {d : Dn} (h : NamOk d) : NmOk d := by
  have : (lNames : List Str).Nodup := by decide +kernel
  refine ⟨h.1.nodup this, Nat.le_trans h.1.length_le (by decide)⟩
theorem AllS_impW {P Q : Dn → Prop} (h : ∀ d, P d → Q d) : ∀ {ks : List Dn}, AllS P ks → AllS Q ks
  | [], _ => trivial
  | .tx n x :: r, a => by
    simp only [AllS, AllD] at a ⊢
    exact ⟨h _ a.1, AllS_impW h a.2⟩
  | .el n t as ks :: r, a => by
    simp only [AllS, AllD] at a ⊢
    exact ⟨⟨h _ a.1.1, AllS_impW h a.1.2⟩, AllS_impW h a.2⟩
theorem DocP.dok {ks : List Dn} (h : DocP ks) : Dok ks := ⟨h.nd, Nat.le_trans h.len (by decide), AllS_impW (fun _ z => z.nm) h.nm⟩
theorem DocP.nil : DocP [] := ⟨trivial, List.nodup_nil, fun x h => by simp [numS] at h, Nat.zero_le _, Nat.zero_le _⟩
def encP (ko kn : List Dn) : PyData := .tuple [.tuple (enS ko), .tuple (enS kn)]
theorem sm_ks {ks : List Dn} (h : DocP ks) : Small 400000 100 (.tuple (enS ks)) ∧ PyData.hasDict (.tuple (enS ks)) = false := by
  obtain ⟨s1, s2, s3⟩ := shn_S ks h.nm fun n hn => by
    have := h.nb n hn
    omega
  have l := h.len
  have hh := h.h
  have dp := dpt_S ks
  have tl := tupText_le (PyData.shownAll (enS ks))
  refine ⟨⟨s1, ?_, ?_⟩, s2⟩
  · show PyData.depthAll (enS ks) + 1 ≤ 100
    omega
  · show (tupleText (PyData.shownAll (enS ks))).length ≤ _
    omega
theorem shd_P {ko kn : List Dn} (h1 : DocP ko) (h2 : DocP kn) : PyData.showable (encP ko kn) = true ∧ PyData.hasDict (encP ko kn) = false ∧ PyData.depth (encP ko kn) ≤ 180 ∧ (PyData.shown (encP ko kn)).length ≤ sizeLine := by
  have a1 := sm_ks h1
  have a2 := sm_ks h2
  have sm := small_tup (ds := [.tuple (enS ko), .tuple (enS kn)]) (n := 2) (c := 400000) (k := 100) (fun d hd => by
    simp only [List.mem_cons, List.not_mem_nil, or_false] at hd
    rcases hd with rfl | rfl
    · exact a1.1
    · exact a2.1) (by show 2 ≤ 2; decide)
  refine ⟨sm.sh, ?_, Nat.le_trans sm.dp (by decide), Nat.le_trans sm.ln (by decide)⟩
  show (PyData.hasDict (.tuple (enS ko)) || (PyData.hasDict (.tuple (enS kn)) || false)) = false
  rw [a1.2, a2.2]
  rfl
/-! ### how deep operations are -/
def OpH (n : Nat) : OpD → Prop
  | .ins _ d _ => hN d ≤ n
  | _ => True
theorem OpH.mono {m n : Nat} (h : m ≤ n) {o : OpD} (a : OpH m o) : OpH n o := by
  cases o <;> simp only [OpH] at a ⊢
  exact Nat.le_trans a h
theorem opH_rem : ∀ (n : Nat) (par : Int) (new : List Dn) (ks : List Dn), hS ks ≤ n → ∀ o ∈ remS par new ks, ∀ m, OpH m o
  | n, par, new, ks, hn, o, ho, m => by
    rw [remS_map, List.mem_flatMap] at ho
    obtain ⟨d, hd, ho⟩ := ho
    rw [remN_eq] at ho
    have hm := hS_mem hd
    rw [hN_eq] at hm
    cases hp : parD new d with
    | none =>
      rw [hp] at ho
      have ho : o ∈ [OpD.rem par d.num] := ho
      rw [List.mem_singleton.mp ho]
      trivial
    | some e =>
      rw [hp] at ho
      match n, hn with
      | 0, hn => omega
      | n + 1, hn => exact opH_rem n d.num e.kids d.kids (by omega) o ho m
theorem opH_own {d e : Dn} {o : OpD} (h : o ∈ ownD d e) (m : Nat) : OpH m o := by
  cases d <;> cases e <;> simp only [ownD, List.not_mem_nil] at h
  · split at h
    · cases h
    · rw [List.mem_singleton.mp h]
      trivial
  · rcases List.mem_append.mp h with h | h
    · obtain ⟨p, _, rfl⟩ := List.mem_map.mp h
      trivial
    · obtain ⟨p, _, rfl⟩ := List.mem_map.mp h
      trivial
theorem opH_plc {kept : List Int} {par : Int} {new : List Dn} {o : OpD} (h : o ∈ plcS kept par new) : OpH (hS new) o := by
  unfold plcS at h
  obtain ⟨k, _, h⟩ := List.mem_flatMap.mp h
  unfold plcA at h
  split at h
  · cases h
  · rename_i d hd
    unfold plcF at h
    split at h
    · split at h
      · cases h
      · rw [List.mem_singleton.mp h]
        trivial
    · rw [List.mem_singleton.mp h]
      exact hS_mem (List.mem_of_getElem? hd)
theorem opH_chg : ∀ (n : Nat) (par : Int) (new : List Dn) (ks : List Dn), hS ks ≤ n → ∀ o ∈ chgS par new ks, OpH (hS new) o
  | n, par, new, ks, hn, o, ho => by
    unfold chgS at ho
    rcases List.mem_append.mp ho with ho | ho
    · rw [chgM_map, List.mem_flatMap] at ho
      obtain ⟨d, hd, ho⟩ := ho
      rw [chgN_eq] at ho
      have hm := hS_mem hd
      rw [hN_eq] at hm
      cases hp : parD new d with
      | none =>
        rw [hp] at ho
        cases ho
      | some e =>
        rw [hp] at ho
        rcases List.mem_append.mp ho with ho | ho
        · exact opH_own ho _
        · have he := hS_mem (parD_mem hp).1
          rw [hN_eq] at he
          match n, hn with
          | 0, hn => omega
          | n + 1, hn => exact (opH_chg n d.num e.kids d.kids (by omega) o ho).mono (by omega)
    · exact opH_plc ho
theorem opH_pat {old new : List Dn} {o : OpD} (h : o ∈ patD old new) : OpH (hS new) o := by
  unfold patD at h
  rcases List.mem_append.mp h with h | h
  · exact opH_rem _ 0 new old (Nat.le_refl _) o h _
  · exact opH_chg _ 0 new old (Nat.le_refl _) o h
theorem plain_O (o : OpD) : PyData.plain (encO o) = true := by
  have ha : ∀ ah : Option Int, PyData.plain (ahE ah) = true := fun ah => by cases ah <;> rfl
  cases o with
  | ins p d ah => simp [encO, PyData.plain, PyData.plainAll, plain_N, ha]
  | mov p n ah => simp [encO, PyData.plain, PyData.plainAll, ha]
  | _ => simp [encO, PyData.plain, PyData.plainAll]
theorem dpt_O {n : Nat} {o : OpD} (h : OpH n o) : PyData.depth (encO o) ≤ 2 * n + 4 := by
  have ha : ∀ ah : Option Int, PyData.depth (ahE ah) = 0 := fun ah => by cases ah <;> rfl
  cases o with
  | ins p d ah =>
    have h : hN d ≤ n := h
    have := dpt_N d
    simp only [encO, PyData.depth, PyData.depthAll, ha]
    omega
  | mov p n ah => simp [encO, PyData.depth, PyData.depthAll, ha]
  | _ => simp [encO, PyData.depth, PyData.depthAll]
def encL (os : List OpD) : PyData := .list (os.map encO)
theorem dp_L {K : PySem.W.Frag} {H : Hp} {a : Addr} {us : List V} {os : List OpD} (h : H a = some (.lst us)) (p : Paired (OpA H) us os) : Dp K H (.ref a) (encL os) := by
  refine .lst (SqL.of h) ?_
  clear h
  induction p with
  | nil => exact .nil
  | cons h _ ih => exact .cons (dp_O h) ih
theorem encL_ok {old new : List Dn} (hn : hS new ≤ 8) : PyData.plain (encL (patD old new)) = true ∧ PyData.depth (encL (patD old new)) ≤ 180 := by
  refine ⟨plain_mem fun d hd => ?_, ?_⟩
  · obtain ⟨o, _, rfl⟩ := List.mem_map.mp hd
    exact plain_O o
  · have := dpth_mem (ds := (patD old new).map encO) (n := 20) fun d hd => by
      obtain ⟨o, ho, rfl⟩ := List.mem_map.mp hd
      have := dpt_O (opH_pat ho)
      omega
    show PyData.depthAll ((patD old new).map encO) + 1 ≤ 180
    omega
theorem encI_ok (ns : List Int) : PyData.plain (.list (ns.map PyData.int)) = true ∧ PyData.depth (.list (ns.map PyData.int)) ≤ 180 := by
  refine ⟨plain_mem fun d hd => ?_, ?_⟩
  · obtain ⟨o, _, rfl⟩ := List.mem_map.mp hd
    rfl
  · have := dpth_mem (ds := ns.map PyData.int) (n := 0) fun d hd => by
      obtain ⟨o, _, rfl⟩ := List.mem_map.mp hd
      exact Nat.le_refl _
    show PyData.depthAll (ns.map PyData.int) + 1 ≤ 180
    omega
/-! ### a document and itself -/
theorem alk_self (d : Dn) : alkD d d = true := by cases d <;> simp [alkD]
theorem parD_self {ks : List Dn} (nn : NumNd ks) {d : Dn} (hd : d ∈ ks) : parD ks d = some d := by
  rw [parD_at nn, atN_of nn hd]
  simp only [alk_self, if_true]
theorem bestR_ris {ns : List Int} (h : Ris ltI ns) : bestR ns = ns := by
  have s := grd_sub (lisg ltI ns) none (bestL (lisg ltI ns))
  rw [lisg_fst] at s
  refine s.eq_of_length ?_
  have h1 := grd_best ns
  have h2 := best_le (List.Sublist.refl ns) h
  have h3 := s.length_le
  omega
theorem ownD_self (d : Dn) : ownD d d = [] := by
  cases d with
  | tx n x => simp [ownD]
  | el n t as ks =>
    simp only [ownD]
    have h1 : (as.filter fun p => decide (p.1 ∉ as.map (·.1))) = [] := by
      rw [List.filter_eq_nil_iff]
      intro p hp
      have : p.1 ∈ as.map (·.1) := List.mem_map.mpr ⟨p, hp, rfl⟩
      simp only [this, not_true_eq_false, decide_false, Bool.false_eq_true, not_false_eq_true]
    have h2 : (as.filter fun p => decide (p ∉ as)) = [] := by
      rw [List.filter_eq_nil_iff]
      intro p hp
      simp only [hp, not_true_eq_false, decide_false, Bool.false_eq_true, not_false_eq_true]
    rw [h1, h2]
    rfl
theorem plcS_self {ks : List Dn} (nn : NumNd ks) (par : Int) : plcS (keptL ks ks) par ks = [] := by
  have ek : keptL ks ks = ks.map Dn.num := by
    unfold keptL
    rw [List.filter_eq_self.mpr fun d hd => by rw [parD_self nn hd]; rfl]
  rw [ek]
  have er : rowL (ks.map Dn.num) ks = (List.range ks.length).map fun i => ((i : Nat) : Int) := by
    unfold rowL
    rw [List.filter_eq_self.mpr fun d hd => decide_eq_true (List.mem_map.mpr ⟨d, hd, rfl⟩)]
    refine List.ext_getElem? fun j => ?_
    rw [List.getElem?_map, List.getElem?_map]
    cases hj : ks[j]? with
    | none =>
      have := List.getElem?_eq_none_iff.mp hj
      rw [List.getElem?_eq_none (by rw [List.length_range]; exact this)]
      rfl
    | some d =>
      have hl := (List.getElem?_eq_some_iff.mp hj).1
      rw [List.getElem?_range hl]
      show some (ixL (ks.map Dn.num) d.num) = some (j : Int)
      rw [ix_at (j := j) nn (by rw [List.getElem?_map, hj]; rfl)]
  have hr : Ris ltI ((List.range ks.length).map fun i => ((i : Nat) : Int)) := by
    exact List.pairwise_map.mpr (List.Pairwise.imp (fun h => decide_eq_true (by omega)) List.pairwise_lt_range)
  unfold plcS
  rw [List.flatMap_eq_nil_iff]
  intro k _
  unfold plcA
  split
  · rfl
  · rename_i d hd
    have dm := List.mem_of_getElem? hd
    have m1 : d.num ∈ ks.map Dn.num := List.mem_map.mpr ⟨d, dm, rfl⟩
    unfold plcF
    rw [if_pos m1, if_pos]
    rw [er, bestR_ris hr, ← er]
    unfold rowL
    exact List.mem_map.mpr ⟨d, List.mem_filter.mpr ⟨dm, decide_eq_true m1⟩, rfl⟩
theorem rem_self : ∀ (n : Nat) (par : Int) (ks : List Dn), hS ks ≤ n → Dok ks → remS par ks ks = []
  | n, par, ks, hn, h => by
    rw [remS_map, List.flatMap_eq_nil_iff]
    intro d hd
    have hm := hS_mem hd
    rw [hN_eq] at hm
    rw [remN_eq, parD_self h.top hd]
    match n, hn with
    | 0, hn => omega
    | n + 1, hn => exact rem_self n d.num d.kids (by omega) (h.kids hd)
theorem chg_self : ∀ (n : Nat) (par : Int) (ks : List Dn), hS ks ≤ n → Dok ks → chgS par ks ks = []
  | n, par, ks, hn, h => by
    unfold chgS
    rw [plcS_self h.top, List.append_nil, chgM_map, List.flatMap_eq_nil_iff]
    intro d hd
    have hm := hS_mem hd
    rw [hN_eq] at hm
    rw [chgN_eq, parD_self h.top hd]
    show ownD d d ++ chgS d.num d.kids d.kids = []
    rw [ownD_self, List.nil_append]
    match n, hn with
    | 0, hn => omega
    | n + 1, hn => exact chg_self n d.num d.kids (by omega) (h.kids hd)
theorem pat_self {ks : List Dn} (h : Dok ks) : patD ks ks = [] := by
  unfold patD
  rw [rem_self _ 0 ks (Nat.le_refl _) h, chg_self _ 0 ks (Nat.le_refl _) h]
  rfl
end VL

set_option Elab.async false
set_option linter.all false
set_option pp.maxSteps 700
set_option maxRecDepth 100000
set_option maxHeartbeats 4000000
namespace VL
open PySem PySem.Spec PyProof.Rows L2 S2S
/-! ### the patch is careful -/
def cidO : OpD → List Int
  | .rem _ n => [n]
  | .ins _ d _ => numN d
  | _ => []
def carD (kp : List Int) (os : List OpD) : Bool := os.all fun o => (cidO o).all fun x => decide (x ∉ kp)
theorem num_one : ∀ {ks : List Dn} {d e : Dn} {x : Int}, (numS ks).Nodup → d ∈ ks → e ∈ ks → x ∈ numN d → x ∈ numN e → d = e
  | k :: r, d, e, x, nd, hd, he, xd, xe => by
    simp only [numS] at nd
    obtain ⟨n1, n2, n3⟩ := List.nodup_append.mp nd
    rcases List.mem_cons.mp hd with hd1 | hd1
    · rcases List.mem_cons.mp he with he1 | he1
      · rw [hd1, he1]
      · exact absurd rfl (n3 x (hd1 ▸ xd) x ((numS_mem he1).subset xe))
    · rcases List.mem_cons.mp he with he1 | he1
      · exact absurd rfl (n3 x (he1 ▸ xe) x ((numS_mem hd1).subset xd))
      · exact num_one n2 hd1 he1 xd xe
theorem num_kid {d : Dn} {x : Int} (nd : (numN d).Nodup) (h : x ∈ numS d.kids) : x ≠ d.num := by
  cases d with
  | tx n y => simp [Dn.kids, numS] at h
  | el n t as ks =>
    simp only [numN, List.nodup_cons] at nd
    intro e
    have e : x = n := e
    rw [e] at h
    exact nd.1 h
theorem kep_two : ∀ (n : Nat) (old new : List Dn), hS new ≤ n → ∀ x ∈ kepS old new, x ∈ numS old ∧ x ∈ numS new
  | n, old, new, hn, x, hx => by
    rw [kepS_map, List.mem_flatMap] at hx
    obtain ⟨d, hd, hx⟩ := hx
    rw [kepN_eq] at hx
    have hm := hS_mem hd
    rw [hN_eq] at hm
    cases hp : parD old d with
    | none =>
      rw [hp] at hx
      cases hx
    | some e =>
      rw [hp] at hx
      have pm := parD_mem hp
      rcases List.mem_cons.mp hx with rfl | hx
      · exact ⟨(numS_mem pm.1).subset (by rw [← pm.2.1]; exact num_head e), (numS_mem hd).subset (num_head d)⟩
      · match n, hn with
        | 0, hn => omega
        | n + 1, hn =>
          have := kep_two n e.kids d.kids (by omega) x hx
          exact ⟨(numS_mem pm.1).subset ((numN_kids e).subset this.1), (numS_mem hd).subset ((numN_kids d).subset this.2)⟩
/-- a kept number: whose -/
theorem kep_of {old new : List Dn} {x : Int} (hx : x ∈ kepS old new) : ∃ d ∈ new, ∃ e, parD old d = some e ∧ (x = d.num ∨ x ∈ kepS e.kids d.kids) := by
  rw [kepS_map, List.mem_flatMap] at hx
  obtain ⟨d, hd, hx⟩ := hx
  rw [kepN_eq] at hx
  cases hp : parD old d with
  | none =>
    rw [hp] at hx
    cases hx
  | some e =>
    rw [hp] at hx
    exact ⟨d, hd, e, hp, List.mem_cons.mp hx⟩
theorem rem_num : ∀ (n : Nat) (par : Int) (new old : List Dn), hS old ≤ n → ∀ o ∈ remS par new old, ∀ x ∈ cidO o, x ∈ numS old
  | n, par, new, old, hn, o, ho, x, hx => by
    rw [remS_map, List.mem_flatMap] at ho
    obtain ⟨e, he, ho⟩ := ho
    rw [remN_eq] at ho
    have hm := hS_mem he
    rw [hN_eq] at hm
    cases hp : parD new e with
    | none =>
      rw [hp] at ho
      have ho : o ∈ [OpD.rem par e.num] := ho
      rw [List.mem_singleton.mp ho] at hx
      rw [List.mem_singleton.mp hx]
      exact (numS_mem he).subset (num_head e)
    | some d =>
      rw [hp] at ho
      match n, hn with
      | 0, hn => omega
      | n + 1, hn => exact (numS_mem he).subset ((numN_kids e).subset (rem_num n e.num d.kids e.kids (by omega) o ho x hx))
theorem rem_car : ∀ (n : Nat) (par : Int) (new old : List Dn), Dok old → Dok new → hS old ≤ n → ∀ o ∈ remS par new old, ∀ x ∈ cidO o, x ∉ kepS old new
  | n, par, new, old, ho_, hn_, hn, o, ho, x, hx => by
    rw [remS_map, List.mem_flatMap] at ho
    obtain ⟨e, he, ho⟩ := ho
    rw [remN_eq] at ho
    have hm := hS_mem he
    rw [hN_eq] at hm
    intro hk
    obtain ⟨d', hd', e', hp', hk⟩ := kep_of hk
    have pm' := parD_mem hp'
    have pb := parD_both ho_.top hn_.top hd' hp'
    have nde : (numN e).Nodup := (numS_mem he).nodup ho_.nd
    have nde' : (numN e').Nodup := (numS_mem pm'.1).nodup ho_.nd
    cases hp : parD new e with
    | none =>
      rw [hp] at ho
      have ho : o ∈ [OpD.rem par e.num] := ho
      rw [List.mem_singleton.mp ho] at hx
      have hx : x = e.num := List.mem_singleton.mp hx
      have xe : x ∈ numN e := by rw [hx]; exact num_head e
      rcases hk with hk | hk
      · have : e = e' := num_one ho_.nd he pm'.1 xe (by rw [hk, ← pm'.2.1]; exact num_head e')
        rw [this, pb] at hp
        cases hp
      · have hk1 := (kep_two _ _ _ (Nat.le_refl _) x hk).1
        have : e = e' := num_one ho_.nd he pm'.1 xe ((numN_kids e').subset hk1)
        subst this
        exact num_kid nde hk1 hx
    | some d =>
      rw [hp] at ho
      match n, hn with
      | 0, hn => omega
      | n + 1, hn =>
        have pm := parD_mem hp
        have x1 := rem_num n e.num d.kids e.kids (by omega) o ho x hx
        have x2 := rem_car n e.num d.kids e.kids (ho_.kids he) (hn_.kids pm.1) (by omega) o ho x hx
        have xe : x ∈ numN e := (numN_kids e).subset x1
        rcases hk with hk | hk
        · have : e = e' := num_one ho_.nd he pm'.1 xe (by rw [hk, ← pm'.2.1]; exact num_head e')
          subst this
          exact num_kid nde x1 (by rw [hk, pm'.2.1])
        · have hk1 := (kep_two _ _ _ (Nat.le_refl _) x hk).1
          have : e = e' := num_one ho_.nd he pm'.1 xe ((numN_kids e').subset hk1)
          subst this
          rw [hp] at pb
          cases pb
          exact x2 hk
theorem plc_ins {kept : List Int} {par : Int} {new : List Dn} {o : OpD} (h : o ∈ plcS kept par new) {x : Int} (hx : x ∈ cidO o) : ∃ d ∈ new, d.num ∉ kept ∧ x ∈ numN d := by
  unfold plcS at h
  obtain ⟨k, _, h⟩ := List.mem_flatMap.mp h
  unfold plcA at h
  split at h
  · cases h
  · rename_i d hd
    unfold plcF at h
    split at h
    · split at h
      · cases h
      · rw [List.mem_singleton.mp h] at hx
        cases hx
    · rename_i c
      rw [List.mem_singleton.mp h] at hx
      exact ⟨d, List.mem_of_getElem? hd, c, hx⟩
theorem own_cid {d e : Dn} {o : OpD} (h : o ∈ ownD d e) : cidO o = [] := by
  cases d <;> cases e <;> simp only [ownD, List.not_mem_nil] at h
  · split at h
    · cases h
    · rw [List.mem_singleton.mp h]
      rfl
  · rcases List.mem_append.mp h with h | h
    · obtain ⟨p, _, rfl⟩ := List.mem_map.mp h
      rfl
    · obtain ⟨p, _, rfl⟩ := List.mem_map.mp h
      rfl
theorem chg_car : ∀ (n : Nat) (par : Int) (new old : List Dn), Dok old → Dok new → hS old ≤ n → ∀ o ∈ chgS par new old, ∀ x ∈ cidO o, x ∈ numS new ∧ x ∉ kepS old new
  | n, par, new, old, ho_, hn_, hn, o, ho, x, hx => by
    unfold chgS at ho
    rcases List.mem_append.mp ho with ho | ho
    · rw [chgM_map, List.mem_flatMap] at ho
      obtain ⟨e, he, ho⟩ := ho
      rw [chgN_eq] at ho
      have hm := hS_mem he
      rw [hN_eq] at hm
      cases hp : parD new e with
      | none =>
        rw [hp] at ho
        cases ho
      | some d =>
        rw [hp] at ho
        rcases List.mem_append.mp ho with ho | ho
        · rw [own_cid ho] at hx
          cases hx
        · match n, hn with
          | 0, hn => omega
          | n + 1, hn =>
            have pm := parD_mem hp
            obtain ⟨x1, x2⟩ := chg_car n e.num d.kids e.kids (ho_.kids he) (hn_.kids pm.1) (by omega) o ho x hx
            have xd : x ∈ numN d := (numN_kids d).subset x1
            have ndd : (numN d).Nodup := (numS_mem pm.1).nodup hn_.nd
            refine ⟨(numS_mem pm.1).subset xd, fun hk => ?_⟩
            obtain ⟨d', hd', e', hp', hk⟩ := kep_of hk
            have xd' : x ∈ numN d' := by
              rcases hk with hk | hk
              · rw [hk]; exact num_head d'
              · exact (numN_kids d').subset (kep_two _ _ _ (Nat.le_refl _) x hk).2
            have : d = d' := num_one hn_.nd pm.1 hd' xd xd'
            subst this
            have pb := parD_both hn_.top ho_.top he hp
            rw [hp'] at pb
            cases pb
            rcases hk with hk | hk
            · exact num_kid ndd x1 hk
            · exact x2 hk
    · obtain ⟨d, hd, c, xd⟩ := plc_ins ho hx
      refine ⟨(numS_mem hd).subset xd, fun hk => ?_⟩
      obtain ⟨d', hd', e', hp', hk⟩ := kep_of hk
      have xd' : x ∈ numN d' := by
        rcases hk with hk | hk
        · rw [hk]; exact num_head d'
        · exact (numN_kids d').subset (kep_two _ _ _ (Nat.le_refl _) x hk).2
      have : d = d' := num_one hn_.nd hd hd' xd xd'
      subst this
      have pb := parD_both ho_.top hn_.top hd hp'
      have pm' := parD_mem hp'
      refine c ?_
      unfold keptL
      rw [← pm'.2.1]
      exact List.mem_map.mpr ⟨e', List.mem_filter.mpr ⟨pm'.1, by rw [pb]; rfl⟩, rfl⟩
theorem pat_car {old new : List Dn} (ho : Dok old) (hn : Dok new) : carD (kepS old new) (patD old new) = true := by
  unfold carD patD
  rw [List.all_eq_true]
  intro o h
  rw [List.all_eq_true]
  intro x hx
  refine decide_eq_true ?_
  rcases List.mem_append.mp h with h | h
  · exact rem_car _ 0 new old ho hn (Nat.le_refl _) o h x hx
  · exact (chg_car _ 0 new old ho hn (Nat.le_refl _) o h x hx).2
end VL

set_option Elab.async false
set_option linter.all false
set_option pp.maxSteps 700
set_option maxRecDepth 100000
set_option maxHeartbeats 4000000
namespace VL
open PySem PySem.Spec PyProof.Rows L2
mutual
theorem NdA.w {H : Hp} : ∀ {v : V} {d : Dn}, NdA H v d → VLW.NdA H v d
  | _, _, .tx h => .tx h
  | _, _, .el h _ hk hs => .el h trivial hk (NdAs.w hs)
theorem NdAs.w {H : Hp} : ∀ {vs : List V} {ds : List Dn}, NdAs H vs ds → VLW.NdAs H vs ds
  | _, _, .nil => .nil
  | _, _, .cons a b => .cons (NdA.w a) (NdAs.w b)
end
/-- what is_careful looks at -/
inductive CO where
  | rem (n : Int)
  | ins (d : Dn)
  | oth
def cidC : CO → List Int
  | .rem n => [n]
  | .ins d => numN d
  | .oth => []
def CoA (H : Hp) (v : V) : CO → Prop
  | .rem n => ∃ a p r, v = .ref a ∧ H a = some (.tup (.str "remove" :: p :: .int n :: r))
  | .ins d => ∃ a p u r, v = .ref a ∧ H a = some (.tup (.str "insert" :: p :: u :: r)) ∧ VLW.NdA H u d
  | .oth => ∃ a w r, v = .ref a ∧ H a = some (.tup (.str w :: r)) ∧ w ≠ "remove" ∧ w ≠ "insert"
theorem CoA.same {H H' : Hp} {v : V} {c : CO} (h : CoA H v c) (s : Same H H') : CoA H' v c := by
  cases c with
  | rem n =>
    obtain ⟨a, p, r, e, h⟩ := h
    exact ⟨a, p, r, e, s _ _ h⟩
  | ins d =>
    obtain ⟨a, p, u, r, e, h, hd⟩ := h
    exact ⟨a, p, u, r, e, s _ _ h, hd.same s⟩
  | oth =>
    obtain ⟨a, w, r, e, h, h2⟩ := h
    exact ⟨a, w, r, e, s _ _ h, h2⟩
def carC (kp : List Int) (cs : List CO) : Bool := cs.all fun c => (cidC c).all fun x => decide (x ∉ kp)
theorem carC_no {kp : List Int} {cs : List CO} {j : Nat} {c : CO} (hj : cs[j]? = some c) (h : (cidC c).all (fun x => decide (x ∉ kp)) = false) : carC kp cs = false := by
  cases e : carC kp cs with
  | false => rfl
  | true =>
    unfold carC at e
    rw [List.all_eq_true] at e
    rw [e c (List.mem_of_getElem? hj)] at h
    cases h
theorem carC_snoc {kp : List Int} {cs : List CO} {j : Nat} {c : CO} (hj : cs[j]? = some c) (h1 : carC kp (cs.take j) = true) (h : (cidC c).all (fun x => decide (x ∉ kp)) = true) : carC kp (cs.take (j + 1)) = true := by
  unfold carC at h1 ⊢
  rw [List.take_add_one, hj, List.all_append, h1, Bool.true_and]
  show ((cidC c).all _ && true) = true
  rw [h]
  rfl
def InK (kvs : List (Key × V)) (l : List Int) : Prop := ∀ n : Int, (valV kvs (Sum.inl n : Key)).isSome = decide (n ∈ l)
theorem pgetC {α β : Type} {F : α → β → Prop} {xs : List α} {ys : List β} (h : Paired F xs ys) : ∀ {i : Nat} {x : α}, xs[i]? = some x → ∃ y, ys[i]? = some y ∧ F x y := by
  induction h with
  | nil => intro i x h; cases h
  | cons h _ ih =>
    intro i x e
    cases i with
    | zero => cases e; exact ⟨_, rfl, h⟩
    | succ i => exact ih e
def spIsC : Sp := fun vs H Q _ => ∃ (a b la : Addr) (old new : List Dn) (us : List V) (cs : List CO), vs = [.ref a, .ref b, .ref la] ∧ TupD H a old ∧ TupD H b new ∧ Dok old ∧ Dok new ∧ hS new ≤ 8 ∧ H la = some (.lst us) ∧ Paired (CoA H) us cs ∧ (∀ c ∈ cs, (cidC c).length ≤ 1000) ∧ ∀ H', Same H H' → Q (.bl (carC (kepS old new) cs)) H'
section
variable {P : Program} {w : World} {K : PySem.W.Frag} {mg : Str → Option Value} {base : Heap} {C : Ad}
theorem sc_is_careful : FnScope ["old", "new", "operations", "kept", "operation", "number"] ["old", "new", "operations"] (defScope s_is_careful) := ⟨rfl, rfl, rfl, by decide +kernel, rfl, by decide +kernel, by decide +kernel⟩
theorem ok_isC (T : Txt K w mg C) : Cal P w K mg base 12 "is_careful" spIsC := by
  have Gkept_ids := kp_N (P := P) (base := base) T 8
  have Gids_of := VLW.ok_idsOf (P := P) (base := base) T
  refine cal_of T.d_is_careful sc_is_careful (fun vs H Q E h => ?_) (fun f cdv A outer s H vs Q E hr h => ?_)
  · obtain ⟨a, b, la, old, new, us, cs, rfl, _⟩ := h
    rfl
  · obtain ⟨a, b, la, old, new, us, cs, rfl, hta, htb, do_, dn, hN, hla, hus, hb, q⟩ := h
    have hu := hu_of hr
    have kl := kep_lenS old new
    have nl := dn.len
    refine ⟨_, (pss_cons (ps_set (i := 3) sc_is_careful.nd rfl (Or.inr rfl) (pe_dc (own := [("number", 5)]) (g := gName 5) (tt := tYes) rfl sc_is_careful.nd (pi_list (pe_c Gkept_ids hr (by omega) (by rfl) (pa_cons (pv 0) (pa_cons (pv 1) pa_nil)))) (blkOk_by (N := ["old", "new", "operations", "kept", "operation", "number"]) (sc := (defScope s_is_careful)) (by decide +kernel)) (fun _ _ _ _ _ => pg_name (i := 5) sc_is_careful.nd rfl (Or.inl rfl)) (fun _ _ _ _ _ => pts_nil) (fun _ _ _ _ _ => (pv 5)) (fun _ _ _ _ _ => pe_bl))) (pss_cons (ps_for PassesOwn.never rfl (pi_list (pv 2)) (pg_name (i := 4) sc_is_careful.nd rfl (Or.inl rfl)) (pss_cons (ps_if (PW.pt (pw_and (pt_cmpR op_eq (pe_ix ix_tup (pv 4) pe_int (fun _ _ => rfl)) pe_str (nomark _)) (pw_and1 (pt_cmp (pc_din hu (pe_ix ix_tup (pv 4) pe_int (fun _ _ => rfl)) (pv 3)))))) (pss_one (ps_ret pe_bl)) pss_nil) (pss_one (ps_if (PW.pt (pw_and (pt_cmpR op_eq (pe_ix ix_tup (pv 4) pe_int (fun _ _ => rfl)) pe_str (nomark _)) (pw_and1 (pt_val (pe_callB (cr_any rfl) (by rfl) T.z_any (by decide +kernel) (pa_cons (pe_lc (own := [("number", 5)]) (g := gName 5) (tt := tYes) rfl sc_is_careful.nd (pi_list (pe_c Gids_of hr (by omega) (by rfl) (pa_cons (pe_tup (pa_cons (pe_ix ix_tup (pv 4) pe_int (fun _ _ => rfl)) pa_nil)) pa_nil))) (blkOk_by (N := ["old", "new", "operations", "kept", "operation", "number"]) (sc := (defScope s_is_careful)) (by decide +kernel)) (fun _ _ _ _ _ => pg_name (i := 5) sc_is_careful.nd rfl (Or.inl rfl)) (fun _ _ _ _ _ => pts_nil) (fun _ _ _ _ _ => (pe_cmp (pc_din hu (pv 5) (pv 3))))) pa_nil)))))) (pss_one (ps_ret pe_bl)) pss_nil)))) (pss_one (ps_ret pe_bl)))), ?_⟩
    refine ⟨_, rfl, _, rfl, a, b, old, new, H, [], rfl, Sb.nil, hta, htb, do_, dn, hN, fun kp G1 H1 S1 g1 hkp => ?_⟩
    have s1 := Same.trans g1 S1.s
    have hkp1 := S1.s _ _ hkp
    refine ⟨kp, rfl, ⟨_, SqL.of hkp1⟩, fun D hD => ?_⟩
    generalize hK : kepS old new = kept at *
    refine dc_itQ (walk_list (K := K) (a := kp) (xs := kept.map V.int)) (fun j H' => ∃ kvs, Sb H1 H' [(D, .dK kvs)] ∧ kvs.length ≤ j ∧ InK kvs (kept.take j)) ⟨[], Sb.nil.add (o := .dK []) hD, Nat.le_refl _, fun n => by rw [List.take_zero]; simp [valV_nil]⟩ (fun j H' _ z => by obtain ⟨_, z, _⟩ := z; exact SqL.of (z.s _ _ hkp1)) ?_ ?_
    · rintro j x H5 H6 hj ⟨kvs, S5, kl2, ik⟩ ⟨rfl, hx⟩
      rw [List.getElem?_map] at hx
      obtain ⟨m, hm, rfl⟩ := Option.map_eq_some_iff.mp hx
      rw [List.length_map] at hj
      refine ⟨rfl, _, rfl, kvs, .inl m, rfl, S5.hd, ?_, putK kvs (.inl m) (.bl true), S5.put, ?_, fun n => ?_⟩
      · exact Nat.lt_of_le_of_lt (show kvs.length ≤ 400 by omega) (by decide)
      · have := length_putK' kvs (.inl m) (.bl true)
        omega
      · rw [valV_put, List.take_add_one, hm]
        by_cases e : n = m
        · subst e
          rw [if_pos rfl]
          simp
        · rw [if_neg (fun z => e (Sum.inl.inj z)), ik n]
          simp [e]
    rintro H5 ⟨kvs, S5, kl2, ik⟩
    rw [List.length_map, List.take_length] at ik
    have hD5 := S5.hd
    have s5 := Same.trans s1 S5.s
    clear S5
    refine ⟨_, rfl, la, rfl, ⟨_, SqL.of (s5 _ _ hla)⟩, ?_⟩
    refine for_it (walk_list (K := K) (a := la) (xs := us)) (fun j σ H' => ∃ y4, Same H5 H' ∧ σ = [some (.ref a), some (.ref b), some (.ref la), some (.ref D), y4, none] ∧ carC kept (cs.take j) = true) ⟨_, Same.refl _, rfl, by rw [List.take_zero]; rfl⟩ (fun j σ H' _ z => by obtain ⟨_, z, _⟩ := z; exact SqL.of (z _ _ (s5 _ _ hla))) ?_ ?_
    · rintro j x σ H6 H7 hj ⟨y4, s6, rfl, ca⟩ ⟨rfl, hx⟩
      obtain ⟨c, hc, hco'⟩ := pgetC hus hx
      have s56 := Same.trans s5 s6
      have hco := hco'.same s56
      have hbc := hb c (List.mem_of_getElem? hc)
      have hD6 := s6 _ _ hD5
      cases c with
      | rem n =>
        obtain ⟨o, p, r, rfl, ho⟩ := hco
        have dk := DGet.k (k := .inl n) hD6
        have ikn := ik n
        cases hv : valV kvs (Sum.inl n : Key) with
        | none =>
          rw [hv] at dk ikn
          have nk : n ∉ kept := of_decide_eq_false ikn.symm
          refine ⟨_, rfl, o, _, _, _, rfl, rfl, SqT.of ho, at_0, rfl, _, rfl, iteT' (by decide) ⟨_, rfl, o, _, _, _, rfl, rfl, SqT.of ho, at_2, _, rfl, D, _, rfl, dk, _, rfl, iteF ?_⟩⟩
          refine ⟨_, rfl, o, _, _, _, rfl, rfl, SqT.of ho, at_0, rfl, _, rfl, iteF' (by decide) ⟨_, s6, rfl, carC_snoc hc ca ?_⟩⟩
          simp [cidC, nk]
        | some v =>
          rw [hv] at dk ikn
          have nk : n ∈ kept := of_decide_eq_true ikn.symm
          refine ⟨_, rfl, o, _, _, _, rfl, rfl, SqT.of ho, at_0, rfl, _, rfl, iteT' (by decide) ⟨_, rfl, o, _, _, _, rfl, rfl, SqT.of ho, at_2, _, rfl, D, _, rfl, dk, _, rfl, iteT ?_⟩⟩
          have := q H7 s56
          rw [carC_no hc (by simp [cidC, nk])] at this
          exact this
      | ins d =>
        obtain ⟨o, p, u, r, rfl, ho, hd⟩ := hco
        have hbc : (numN d).length ≤ 1000 := hbc
        refine ⟨_, rfl, o, _, _, _, rfl, rfl, SqT.of ho, at_0, rfl, _, rfl, iteF' (by decide) ?_⟩
        refine ⟨_, rfl, o, _, _, _, rfl, rfl, SqT.of ho, at_0, rfl, _, rfl, iteT' (by decide) ?_⟩
        refine ⟨_, rfl, o, _, _, _, rfl, rfl, SqT.of ho, at_2, by show 1 ≤ sizeLine; decide, fun t ht => ?_⟩
        have k1 := Sm.new (o := .tup [u]) ht
        refine ⟨.ref t, [d], rfl, ⟨t, [u], rfl, upd_same, .cons (hd.same k1) .nil, ?_⟩, fun ip H8 s8 hip => ?_⟩
        · have := congrArg List.length (itS_num 1 [d])
          rw [List.length_map, numS_one] at this
          omega
        have e9 : ((itS 1 [d]).map fun x => V.int x.2.num) = (numN d).map V.int := by
          rw [← numS_one d, ← itS_num 1 [d], List.map_map]
          rfl
        rw [e9] at hip
        have s68 := Same.trans k1 s8
        refine ⟨ip, rfl, ⟨_, SqL.of hip⟩, fun L hL => ?_⟩
        have hD8 := s68 _ _ hD6
        refine lc_it (walk_list (K := K) (a := ip) (xs := (numN d).map V.int)) (fun i H' => Sb H8 H' [(L, .lst (((numN d).take i).map fun n => V.bl (decide (n ∈ kept))))]) (Sb.nil.add (o := .lst []) hL) (fun i H' _ z => SqL.of (z.s _ _ hip)) ?_ ?_
        · rintro i x H9 H10 hi S9 ⟨rfl, hx⟩
          rw [List.getElem?_map] at hx
          obtain ⟨m, hm, rfl⟩ := Option.map_eq_some_iff.mp hx
          have dk := DGet.k (k := .inl m) (S9.s _ _ hD8)
          refine ⟨rfl, _, rfl, _, rfl, D, _, rfl, dk, _, S9.hd, ?_, S9.put.eqo ?_⟩
          · rw [List.length_map, List.length_take]
            exact Nat.lt_of_le_of_lt (show min i (numN d).length ≤ 1000 by omega) (by decide)
          · rw [List.take_add_one, hm, List.map_append]
            show HO.lst (_ ++ [V.bl (valV kvs (Sum.inl m : Key)).isSome]) = _
            rw [ik m]
            rfl
        · intro H9 S9
          rw [List.take_of_length_le (by rw [List.length_map]; exact Nat.le_refl _)] at S9
          have e10 : ((numN d).map fun n => V.bl (decide (n ∈ kept))) = ((numN d).map fun n => decide (n ∈ kept)).map V.bl := by rw [List.map_map]; rfl
          rw [e10] at S9
          have s69 := Same.trans s68 S9.s
          refine ⟨L, (numN d).map fun n => decide (n ∈ kept), rfl, SqL.of S9.hd, _, rfl, ?_⟩
          cases hv : ((numN d).map fun n => decide (n ∈ kept)).any id with
          | true =>
            refine iteT' rfl ?_
            have := q H9 (Same.trans s56 s69)
            rw [carC_no hc ?_] at this
            · exact this
            · rw [List.any_map, List.any_eq_true] at hv
              obtain ⟨n, h1, h2⟩ := hv
              have h2 : n ∈ kept := of_decide_eq_true h2
              rw [List.all_eq_false]
              exact ⟨n, h1, by simp [h2]⟩
          | false =>
            refine iteF' rfl ⟨_, Same.trans s6 s69, rfl, carC_snoc hc ca ?_⟩
            rw [List.any_map, List.any_eq_false] at hv
            rw [List.all_eq_true]
            intro n hn
            have := hv n hn
            exact decide_eq_true (fun z => this (decide_eq_true z))
      | oth =>
        obtain ⟨o, wd, r, rfl, ho, w1, w2⟩ := hco
        refine ⟨_, rfl, o, _, _, _, rfl, rfl, SqT.of ho, at_0, rfl, _, rfl, iteF' (decide_eq_false (fun z => w1 (V.str.inj z))) ?_⟩
        exact ⟨_, rfl, o, _, _, _, rfl, rfl, SqT.of ho, at_0, rfl, _, rfl, iteF' (decide_eq_false (fun z => w2 (V.str.inj z))) ⟨_, s6, rfl, carC_snoc hc ca rfl⟩⟩
    · rintro σ H6 ⟨y4, s6, rfl, ca⟩
      rw [List.take_of_length_le (by rw [Paired.length hus]; exact Nat.le_refl _)] at ca
      have := q H6 (Same.trans s5 s6)
      rw [ca] at this
      exact this
end
end VL

set_option Elab.async false
set_option linter.all false
set_option pp.maxSteps 700
set_option maxRecDepth 100000
set_option maxHeartbeats 4000000
namespace VLW
open VL PySem PySem.Spec PyProof.Rows L2
theorem flP_numW (par lv : Int) (ks : List Dn) : (flP par lv ks).map (fun x => x.1.num) = numS ks := by
  have h := congrArg (List.map fun p : Int × Dn => p.2.num) (flP_it par lv ks)
  rw [List.map_map, itS_num] at h
  exact h
def TupW (H : Hp) (p : Addr) (kk : List Dn) : Prop := ∃ xs, H p = some (.tup xs) ∧ NdAs H xs kk
theorem TupW.same {H H' : Hp} {p : Addr} {kk : List Dn} (h : TupW H p kk) (s : Same H H') : TupW H' p kk := by
  obtain ⟨xs, h1, h2⟩ := h
  exact ⟨xs, s _ _ h1, h2.same s⟩
theorem _root_.VL.TupD.w {H : Hp} {p : Addr} {kk : List Dn} (h : TupD H p kk) : TupW H p kk := by
  obtain ⟨xs, h1, h2⟩ := h
  exact ⟨xs, h1, h2.w⟩
def spLIds : Sp := fun vs H Q _ => ∃ (a : Addr) (ks : List Dn) (G : Hp) (M : List (Addr × HO)), vs = [.ref a] ∧ Sb G H M ∧ TupW G a ks ∧ hS ks ≤ 10 ∧ (numS ks).length ≤ 1000 ∧ ∀ p G' H', Sb G' H' M → Same G G' → G' p = some (.lst ((numS ks).map V.int)) → Q (.ref p) H'
section
variable {P : Program} {w : World} {K : PySem.W.Frag} {mg : Str → Option Value} {base : Heap} {C : Ad}
theorem sc__law_ids : FnScope ["document", "row"] ["document"] (defScope s__law_ids) := ⟨rfl, rfl, rfl, by decide +kernel, rfl, by decide +kernel, by decide +kernel⟩
theorem ok_lids (T : Txt K w mg C) : Cal P w K mg base 13 "_law_ids" spLIds := by
  have G_law_flat := lf_N (P := P) (base := base) T 10
  refine cal_of T.d__law_ids sc__law_ids (fun vs H Q E h => ?_) (fun f cdv A outer s H vs Q E hr h => ?_)
  · obtain ⟨a, ks, G, M, rfl, _⟩ := h
    rfl
  · obtain ⟨a, ks, G, M, rfl, S, ⟨xs, ha1, ha2⟩, hh, ns, q⟩ := h
    have fl : (flP 0 1 ks).length = (numS ks).length := by rw [← flP_numW 0 1 ks, List.length_map]
    refine ⟨_, (pss_one (ps_ret (pe_lc (own := [("row", 1)]) (g := gName 1) (tt := tYes) rfl sc__law_ids.nd (pi_list (pe_c G_law_flat hr (by decide) (by rfl) (pa_cons (pv 0) (pa_cons pe_int (pa_cons pe_int pa_nil))))) (blkOk_by (N := ["document", "row"]) (sc := (defScope s__law_ids)) (by decide +kernel)) (fun _ _ _ _ _ => pg_name (i := 1) sc__law_ids.nd rfl (Or.inl rfl)) (fun _ _ _ _ _ => pts_nil) (fun _ _ _ _ _ => (pe_ix (ix_tupS (K := K) rfl) (pe_ix (ix_listS (K := K) rfl) (pv 1) pe_int (fun _ _ => rfl)) pe_int (fun _ _ => rfl)))))), ?_⟩
    refine ⟨_, rfl, a, 0, 1, xs, ks, G, M, rfl, S, ha1, ha2, hh, by omega, fun rp rs G1 H1 S1 g1 hrp hrs => ?_⟩
    have hrp1 := S1.s _ _ hrp
    have rl := Paired.length hrs
    refine ⟨rp, rfl, ⟨_, SqL.of hrp1⟩, fun D hD => ?_⟩
    refine lc_it (walk_list (K := K) (a := rp) (xs := rs)) (fun j H' => Sb G1 H' ((D, .lst (((flP 0 1 ks).take j).map fun x => V.int x.1.num)) :: M)) (S1.add (o := .lst []) hD) (fun j H' _ z => SqL.of (z.s _ _ hrp)) ?_ ?_
    · rintro j x H2 H3 hj S2 ⟨rfl, hx⟩
      obtain ⟨y, hy, ra, u, rfl, hra, hu⟩ := pgetC hrs hx
      obtain ⟨b, ys, rfl, hb⟩ := hu.at
      refine ⟨rfl, _, rfl, ra, _, _, _, rfl, rfl, SqL.of (S2.s _ _ hra), at_0, b, _, _, _, rfl, rfl, SqT.of (S2.s _ _ hb), at_1, _, S2.hd, ?_, S2.put.eqo ?_⟩
      · rw [List.length_map, List.length_take]
        exact Nat.lt_of_le_of_lt (show min j _ ≤ 1000 by omega) (by decide)
      · rw [List.take_add_one, hy, List.map_append]
        rfl
    intro H2 S2
    rw [List.take_of_length_le (by omega), show ((flP 0 1 ks).map fun x => V.int x.1.num) = (numS ks).map V.int by rw [← flP_numW 0 1 ks, List.map_map]; rfl] at S2
    obtain ⟨S3, g3⟩ := S2.drop
    exact q D _ H2 S3 (Same.trans g1 g3) upd_same
end
end VLW
namespace VL
open PySem PySem.Spec PyProof.Rows L2
def spLCar : Sp := fun vs H Q _ => ∃ (a b la : Addr) (old new : List Dn) (us : List V) (cs : List CO), vs = [.ref a, .ref b, .ref la] ∧ TupD H a old ∧ TupD H b new ∧ (numS new).length ≤ 400 ∧ hS new ≤ 8 ∧ H la = some (.lst us) ∧ Paired (CoA H) us cs ∧ (∀ c ∈ cs, (cidC c).length ≤ 1000 ∧ ∀ d, c = .ins d → hN d ≤ 10) ∧ ∀ H', Same H H' → Q (.bl (carC (kepS old new) cs)) H'
def remC : CO → List Int
  | .rem n => [n]
  | _ => []
section
variable {P : Program} {w : World} {K : PySem.W.Frag} {mg : Str → Option Value} {base : Heap} {C : Ad}
theorem sc__law_careful : FnScope ["old", "new", "operations", "kept", "operation", "ids", "number"] ["old", "new", "operations"] (defScope s__law_careful) := ⟨rfl, rfl, rfl, by decide +kernel, rfl, by decide +kernel, by decide +kernel⟩
theorem ok_lcar (T : Txt K w mg C) : Cal P w K mg base 14 "_law_careful" spLCar := by
  have G_law_kept := lk_N (P := P) (base := base) T 8
  have G_law_ids := VLW.ok_lids (P := P) (base := base) T
  refine cal_of T.d__law_careful sc__law_careful (fun vs H Q E h => ?_) (fun f cdv A outer s H vs Q E hr h => ?_)
  · obtain ⟨a, b, la, old, new, us, cs, rfl, _⟩ := h
    rfl
  · obtain ⟨a, b, la, old, new, us, cs, rfl, hta, htb, nl, hN, hla, hus, hb, q⟩ := h
    have hu := hu_of hr
    refine ⟨_, (pss_cons (ps_set (i := 3) sc__law_careful.nd rfl (Or.inl rfl) (pe_c G_law_kept hr (by decide) (by rfl) (pa_cons (pv 0) (pa_cons (pv 1) pa_nil)))) (pss_cons (ps_for PassesOwn.never rfl (pi_list (pv 2)) (pg_name (i := 4) sc__law_careful.nd rfl (Or.inl rfl)) (pss_cons (ps_set (i := 5) sc__law_careful.nd rfl (Or.inl rfl) (pe_lst pa_nil)) (C8.pss_cut (ps_if (pt_cmpR op_eq (pe_ix ix_tup (pv 4) pe_int (fun _ _ => rfl)) pe_str (nomark _)) (pss_one (ps_set (i := 5) sc__law_careful.nd rfl (Or.inl rfl) (pe_lst (pa_cons (pe_ix ix_tup (pv 4) pe_int (fun _ _ => rfl)) pa_nil)))) pss_nil) (C8.pss_cut (ps_if (pt_cmpR op_eq (pe_ix ix_tup (pv 4) pe_int (fun _ _ => rfl)) pe_str (nomark _)) (pss_one (ps_set (i := 5) sc__law_careful.nd rfl (Or.inl rfl) (pe_c G_law_ids hr (by decide) (by rfl) (pa_cons (pe_tup (pa_cons (pe_ix ix_tup (pv 4) pe_int (fun _ _ => rfl)) pa_nil)) pa_nil)))) pss_nil) (pss_one (ps_for PassesOwn.never rfl (pi_list (pv 5)) (pg_name (i := 6) sc__law_careful.nd rfl (Or.inl rfl)) (pss_one (ps_if (pt_cmpR op_in_seq (pv 6) (pv 3) rfl) (pss_one (ps_ret pe_bl)) pss_nil)))))))) (pss_one (ps_ret pe_bl)))), ?_⟩
    refine ⟨_, rfl, _, rfl, a, b, old, new, H, [], rfl, Sb.nil, hta, htb, nl, hN, fun kp G1 H1 S1 g1 hkp => ?_⟩
    have s1 := Same.trans g1 S1.s
    have hkp1 := S1.s _ _ hkp
    generalize hK : kepS old new = kept at *
    refine ⟨_, rfl, la, rfl, ⟨_, SqL.of (s1 _ _ hla)⟩, ?_⟩
    refine for_it (walk_list (K := K) (a := la) (xs := us)) (fun j σ H' => ∃ y4 y5 y6, Same H1 H' ∧ σ = [some (.ref a), some (.ref b), some (.ref la), some (.ref kp), y4, y5, y6] ∧ carC kept (cs.take j) = true) ⟨_, _, _, Same.refl _, rfl, by rw [List.take_zero]; rfl⟩ (fun j σ H' _ z => by obtain ⟨_, _, _, z, _⟩ := z; exact SqL.of (z _ _ (s1 _ _ hla))) ?_ ?_
    · rintro j x σ H6 H7 hj ⟨y4, y5, y6, s6, rfl, ca⟩ ⟨rfl, hx⟩
      obtain ⟨c, hc, hco'⟩ := pgetC hus hx
      have s16 := Same.trans s1 s6
      have hco := hco'.same s16
      obtain ⟨hbc, hbd⟩ := hb c (List.mem_of_getElem? hc)
      refine ⟨by show 0 ≤ sizeLine; decide, fun i0 hi0 => ?_⟩
      have k0 := Sm.new (o := .lst []) hi0
      refine ⟨fun σ' H' => ∃ ip, Same H7 H' ∧ H' ip = some (.lst ((remC c).map V.int)) ∧ σ' = [some (.ref a), some (.ref b), some (.ref la), some (.ref kp), some x, some (.ref ip), y6], ?_, ?_⟩
      · cases c with
        | rem n =>
          obtain ⟨o, p, r, rfl, ho⟩ := hco
          have ho0 := k0 _ _ ho
          exact ⟨_, rfl, o, _, _, _, rfl, rfl, SqT.of ho0, at_0, rfl, _, rfl, iteT' (by decide) ⟨_, rfl, o, _, _, _, rfl, rfl, SqT.of ho0, at_2, by show 1 ≤ sizeLine; decide, fun i1 hi1 => ⟨i1, Same.trans k0 (Sm.new hi1), upd_same, rfl⟩⟩⟩
        | ins d =>
          obtain ⟨o, p, u, r, rfl, ho, hd⟩ := hco
          exact ⟨_, rfl, o, _, _, _, rfl, rfl, SqT.of (k0 _ _ ho), at_0, rfl, _, rfl, iteF' (by decide) ⟨i0, k0, upd_same, rfl⟩⟩
        | oth =>
          obtain ⟨o, wd, r, rfl, ho, w1, w2⟩ := hco
          exact ⟨_, rfl, o, _, _, _, rfl, rfl, SqT.of (k0 _ _ ho), at_0, rfl, _, rfl, iteF' (decide_eq_false (fun z => w1 (V.str.inj z))) ⟨i0, k0, upd_same, rfl⟩⟩
      · rintro σ' H8 ⟨ip, s8, hip, rfl⟩
        refine ⟨fun σ' H' => ∃ ip, Same H7 H' ∧ H' ip = some (.lst ((cidC c).map V.int)) ∧ σ' = [some (.ref a), some (.ref b), some (.ref la), some (.ref kp), some x, some (.ref ip), y6], ?_, ?_⟩
        · cases c with
          | rem n =>
            obtain ⟨o, p, r, rfl, ho⟩ := hco
            exact ⟨_, rfl, o, _, _, _, rfl, rfl, SqT.of (s8 _ _ ho), at_0, rfl, _, rfl, iteF' (by decide) ⟨ip, s8, hip, rfl⟩⟩
          | ins d =>
            obtain ⟨o, p, u, r, rfl, ho, hd⟩ := hco
            have hbc : (numN d).length ≤ 1000 := hbc
            refine ⟨_, rfl, o, _, _, _, rfl, rfl, SqT.of (s8 _ _ ho), at_0, rfl, _, rfl, iteT' (by decide) ?_⟩
            refine ⟨_, rfl, o, _, _, _, rfl, rfl, SqT.of (s8 _ _ ho), at_2, by show 1 ≤ sizeLine; decide, fun t ht => ?_⟩
            have k1 := Sm.new (o := .tup [u]) ht
            have hd10 := hbd d rfl
            refine ⟨t, [d], _, [], rfl, Sb.nil, ⟨[u], upd_same, .cons (hd.same (Same.trans s8 k1)) .nil⟩, by simp only [hS]; omega, by rw [numS_one]; exact hbc, fun p9 G9 H9 S9 g9 hp9 => ⟨p9, Same.trans s8 (Same.trans k1 (Same.trans g9 S9.s)), ?_, rfl⟩⟩
            rw [numS_one] at hp9
            exact S9.s _ _ hp9
          | oth =>
            obtain ⟨o, wd, r, rfl, ho, w1, w2⟩ := hco
            exact ⟨_, rfl, o, _, _, _, rfl, rfl, SqT.of (s8 _ _ ho), at_0, rfl, _, rfl, iteF' (decide_eq_false (fun z => w2 (V.str.inj z))) ⟨ip, s8, hip, rfl⟩⟩
        · clear hip s8
          rintro σ' H8 ⟨ip, s8, hip, rfl⟩
          refine ⟨_, rfl, ip, rfl, ⟨_, SqL.of hip⟩, ?_⟩
          refine for_it (walk_list (K := K) (a := ip) (xs := (cidC c).map V.int)) (fun i σ H' => ∃ y6, H' = H8 ∧ σ = [some (.ref a), some (.ref b), some (.ref la), some (.ref kp), some x, some (.ref ip), y6] ∧ ∀ n ∈ (cidC c).take i, n ∉ kept) ⟨_, rfl, rfl, fun n h => by rw [List.take_zero] at h; cases h⟩ (fun i σ H' _ z => by obtain ⟨_, z, _⟩ := z; rw [z]; exact SqL.of hip) ?_ ?_
          · rintro i z σ H9 H10 hi ⟨y6', rfl, rfl, no⟩ ⟨rfl, hz⟩
            rw [List.getElem?_map] at hz
            obtain ⟨m, hm, rfl⟩ := Option.map_eq_some_iff.mp hz
            have hkp8 := s8 _ _ (s6 _ _ hkp1)
            refine ⟨_, rfl, _, rfl, kp, _, rfl, .inl (SqL.of hkp8), rfl, flat_intsW _, _, rfl, ?_⟩
            rw [inV_i]
            by_cases ck : m ∈ kept
            · refine iteT' (by rw [decide_eq_true ck]; rfl) ?_
              have := q _ (Same.trans s16 s8)
              rw [carC_no hc (by rw [List.all_eq_false]; exact ⟨m, List.mem_of_getElem? hm, by simp [ck]⟩)] at this
              exact this
            · refine iteF' (by rw [decide_eq_false ck]; rfl) ⟨_, rfl, rfl, fun n hn => ?_⟩
              rw [List.take_add_one, hm] at hn
              rcases List.mem_append.mp hn with hn | hn
              · exact no n hn
              · rw [List.mem_singleton.mp hn]
                exact ck
          · rintro σ H9 ⟨y6', rfl, rfl, no⟩
            rw [List.take_of_length_le (by rw [List.length_map]; exact Nat.le_refl _)] at no
            refine ⟨_, _, _, Same.trans s6 s8, rfl, carC_snoc hc ca ?_⟩
            rw [List.all_eq_true]
            exact fun n hn => decide_eq_true (no n hn)
    · rintro σ H6 ⟨y4, y5, y6, s6, rfl, ca⟩
      rw [List.take_of_length_le (by rw [Paired.length hus]; exact Nat.le_refl _)] at ca
      have := q H6 (Same.trans s1 s6)
      rw [ca] at this
      exact this
end
end VL

set_option Elab.async false
set_option linter.all false
set_option pp.maxSteps 700
set_option maxRecDepth 100000
set_option maxHeartbeats 4000000
namespace VL
open PySem PySem.Spec PyProof.Rows L2
def spLOp : Sp := fun vs H Q _ => ∃ (sa : Addr) (s : Int) (a b : Addr) (ko kn : List Dn) (G : Hp) (M : List (Addr × HO)), vs = [.ref sa, .ref a, .ref b] ∧ Sb G H ((sa, .lst [.int s]) :: M) ∧ TupD G a ko ∧ TupD G b kn ∧ DocP ko ∧ DocP kn ∧
  ∀ v c s' G' H', Sb G' H' ((sa, .lst [.int s']) :: M) → Same G G' → CoA G' v c → (cidC c).length ≤ 1000 → (∀ d, c = .ins d → hN d ≤ 10) → Q v H'
theorem sm_atC {H : Hp} {a : Addr} {o : HO} (_ : Same H (upd H a o)) : upd H a o a = some o := upd_same
section
variable {P : Program} {w : World} {K : PySem.W.Frag} {mg : Str → Option Value} {base : Heap} {C : Ad}
theorem sc__law_operation : FnScope ["state", "old", "new", "ids", "number", "word", "kid"] ["state", "old", "new"] (defScope s__law_operation) := ⟨rfl, rfl, rfl, by decide +kernel, rfl, by decide +kernel, by decide +kernel⟩
theorem ok_lop (T : Txt K w mg C) : Cal P w K mg base 14 "_law_operation" spLOp := by
  have G_law_ids := VLW.ok_lids (P := P) (base := base) T
  have G_law_digit := ok_dig (P := P) (base := base) T
  refine cal_of T.d__law_operation sc__law_operation (fun vs H Q E h => ?_) (fun f cdv A outer s H vs Q E hr h => ?_)
  · obtain ⟨sa, s0, a, b, ko, kn, G, M, rfl, _⟩ := h
    rfl
  · obtain ⟨sa, s0, a, b, ko, kn, G, M, rfl, S, hta, htb, dO, dN_, q⟩ := h
    have hu := hu_of hr
    have big : 100000 < sizeLine := by decide
    have lo := dO.len
    have ln := dN_.len
    have ho8 := dO.h
    have hn8 := dN_.h
    refine ⟨_, (pss_cons (ps_set (i := 3) sc__law_operation.nd rfl (Or.inl rfl) (pe_op op_cat (pe_op op_cat (pe_c G_law_ids hr (by decide) (by rfl) (pa_cons (pv 1) pa_nil)) (pe_c G_law_ids hr (by decide) (by rfl) (pa_cons (pv 2) pa_nil))) (pe_lst (pa_cons pe_int (pa_cons pe_int pa_nil))))) (pss_cons (ps_set (i := 4) sc__law_operation.nd rfl (Or.inl rfl) (pe_ix ix_list (pv 3) (pe_c G_law_digit hr (by decide) (by rfl) (pa_cons (pv 0) (pa_cons (pe_callB call_len_seq (by rfl) T.z_len PySem.boot_len (pa_cons (pv 3) pa_nil)) pa_nil))) (fun _ _ => rfl))) (pss_cons (ps_set (i := 5) sc__law_operation.nd rfl (Or.inl rfl) (pe_ix ix_tup (pe_tup (pa_cons pe_str (pa_cons pe_str (pa_cons pe_str (pa_cons pe_str pa_nil))))) (pe_c G_law_digit hr (by decide) (by rfl) (pa_cons (pv 0) (pa_cons pe_int pa_nil))) (fun _ _ => rfl))) (pss_cons (ps_if (PW.pt (pw_or (pt_cmpR op_eq (pv 5) pe_str (nomark _)) (pw_or1 (pt_cmpR op_eq (pv 5) pe_str (nomark _))))) (pss_one (ps_ret (pe_tup (pa_cons (pv 5) (pa_cons pe_int (pa_cons (pv 4) pa_nil)))))) pss_nil) (pss_cons (ps_if (pt_cmpR op_eq (pv 5) pe_str (nomark _)) (pss_one (ps_ret (pe_tup (pa_cons (pv 5) (pa_cons pe_int (pa_cons (pv 4) (pa_cons pe_non pa_nil))))))) pss_nil) (pss_cons (ps_set (i := 6) sc__law_operation.nd rfl (Or.inl rfl) (pe_tup (pa_cons pe_str (pa_cons (pe_ix ix_list (pv 3) (pe_c G_law_digit hr (by decide) (by rfl) (pa_cons (pv 0) (pa_cons (pe_callB call_len_seq (by rfl) T.z_len PySem.boot_len (pa_cons (pv 3) pa_nil)) pa_nil))) (fun _ _ => rfl)) (pa_cons pe_str pa_nil))))) (pss_one (ps_ret (pe_tup (pa_cons (pv 5) (pa_cons pe_int (pa_cons (pe_tup (pa_cons pe_str (pa_cons (pv 4) (pa_cons pe_str (pa_cons (pe_tup pa_nil) (pa_cons (pe_slice sl_tupA (pe_tup (pa_cons (pv 6) pa_nil)) po_none (po_some (pe_c G_law_digit hr (by decide) (by rfl) (pa_cons (pv 0) (pa_cons pe_int pa_nil))))) pa_nil)))))) (pa_cons pe_non pa_nil))))))))))))), ?_⟩
    refine ⟨_, rfl, a, ko, G, _, rfl, S, hta.w, by omega, by omega, fun p1 G1 H1 S1 g1 hp1 => ?_⟩
    refine ⟨_, rfl, b, kn, G1, _, rfl, S1, htb.w.same g1, by omega, by omega, fun p2 G2 H2 S2 g2 hp2 => ?_⟩
    refine ⟨p1, p2, _, _, rfl, rfl, S2.s _ _ (g2 _ _ hp1), S2.s _ _ hp2, by rw [List.length_map, List.length_map]; omega, fun p3 hp3 => ?_⟩
    have S3 := S2.alloc (o := .lst ((numS ko).map V.int ++ (numS kn).map V.int)) hp3
    have g3 := S2.grow (o := .lst ((numS ko).map V.int ++ (numS kn).map V.int)) hp3
    refine ⟨by show 2 ≤ sizeLine; decide, fun p4 hp4 => ?_⟩
    have S4 := S3.alloc (o := .lst [.int 70, .int 71]) hp4
    have g4 := S3.grow (o := .lst [.int 70, .int 71]) hp4
    refine ⟨p3, p4, _, _, rfl, rfl, S4.s _ _ (g4 _ _ upd_same), S4.s _ _ upd_same, by rw [List.length_append, List.length_map, List.length_map]; show _ + 2 ≤ _; omega, fun p5 hp5 => ?_⟩
    have e5 : (numS ko).map V.int ++ (numS kn).map V.int ++ [.int 70, .int 71] = (numS ko ++ numS kn ++ [70, 71]).map V.int := by simp
    rw [e5]
    have l5 : (numS ko ++ numS kn ++ [70, 71]).length ≤ 122 := by
      rw [List.length_append, List.length_append]
      show _ + 2 ≤ 122
      omega
    have l50 : 0 < (numS ko ++ numS kn ++ [70, 71]).length := by
      rw [List.length_append]
      show 0 < _ + 2
      omega
    generalize hL : (numS ko ++ numS kn ++ [70, 71]) = L0 at l5 l50 ⊢
    have S5 := S4.alloc (o := .lst (L0.map V.int)) hp5
    have g5 := S4.grow (o := .lst (L0.map V.int)) hp5
    have g05 := Same.trans g1 (Same.trans g2 (Same.trans g3 (Same.trans g4 g5)))
    have h5 : upd (upd (upd G2 p3 (.lst ((numS ko).map V.int ++ (numS kn).map V.int))) p4 (.lst [.int 70, .int 71])) p5 (.lst (L0.map V.int)) p5 = some (.lst (L0.map V.int)) := upd_same
    generalize upd (upd (upd G2 p3 (.lst ((numS ko).map V.int ++ (numS kn).map V.int))) p4 (.lst [.int 70, .int 71])) p5 (.lst (L0.map V.int)) = G5 at S5 g5 g05 h5
    have h55 := S5.s _ _ h5
    refine ⟨_, rfl, _, rfl, _, rfl, p5, _, rfl, .inl (SqL.of h55), sa, s0, _, rfl, S5.hd, by rw [List.length_map]; omega, by rw [List.length_map]; omega, fun z s6 z0 z1 => ?_⟩
    rw [List.length_map] at z1
    have S6 := S5.put (u := .lst [.int s6])
    obtain ⟨num, hnum⟩ := map_int_atR z0 z1
    refine ⟨p5, _, _, _, rfl, rfl, SqL.of (S6.s _ _ h5), hnum, ?_⟩
    refine ⟨by show 4 ≤ sizeLine; decide, fun t7 ht7 => ?_⟩
    have S7 := S6.alloc (o := .tup [.str "remove", .str "insert", .str "move", .str "text"]) ht7
    have g7 := S6.grow (o := .tup [.str "remove", .str "insert", .str "move", .str "text"]) ht7
    refine ⟨_, rfl, sa, s6, 4, rfl, S7.hd, by decide, by decide, fun y s8 y0 y1 => ?_⟩
    have S8 := S7.put (u := .lst [.int s8])
    have h7 := S8.s _ _ (show upd G5 t7 (.tup [.str "remove", .str "insert", .str "move", .str "text"]) t7 = _ from upd_same)
    have g07 := Same.trans g05 g7
    rcases (by omega : y = 0 ∨ y = 1 ∨ y = 2 ∨ y = 3) with rfl | rfl | rfl | rfl
    · refine ⟨t7, _, _, _, rfl, rfl, SqT.of h7, rfl, ?_⟩
      refine ⟨_, rfl, rfl, _, rfl, iteT' (by decide) ⟨_, rfl, _, rfl, by show 3 ≤ sizeLine; decide, fun t9 ht9 => ?_⟩⟩
      exact q (.ref t9) (.rem num) s8 _ _ (S8.alloc ht9) (Same.trans g07 (S8.grow ht9)) ⟨t9, .int 0, [], rfl, upd_same⟩ (by show 1 ≤ 1000; decide) (fun d e => nomatch e)
    · refine ⟨t7, _, _, _, rfl, rfl, SqT.of h7, rfl, ?_⟩
      refine ⟨_, rfl, rfl, _, rfl, iteF' (by decide) ⟨_, rfl, rfl, _, rfl, iteF' (by decide) ?_⟩⟩
      refine ⟨_, rfl, rfl, _, rfl, iteF' (by decide) ?_⟩
      have h58 := S8.s _ _ (g7 _ _ h5)
      refine ⟨_, rfl, _, rfl, _, rfl, p5, _, rfl, .inl (SqL.of h58), sa, s8, _, rfl, S8.hd, by rw [List.length_map]; omega, by rw [List.length_map]; omega, fun z2 s9 z20 z21 => ?_⟩
      rw [List.length_map] at z21
      have S9 := S8.put (u := .lst [.int s9])
      obtain ⟨n2, hn2⟩ := map_int_atR z20 z21
      refine ⟨p5, _, _, _, rfl, rfl, SqL.of (S9.s _ _ (g7 _ _ h5)), hn2, ?_⟩
      refine ⟨by show 3 ≤ sizeLine; decide, fun t9 ht9 => ?_⟩
      have S10 := S9.alloc (o := .tup [.str "text", .int n2, .str "k"]) ht9
      have g10 := S9.grow (o := .tup [.str "text", .int n2, .str "k"]) ht9
      refine ⟨_, rfl, _, rfl, by show 0 ≤ sizeLine; decide, fun t10 ht10 => ?_⟩
      have S11 := S10.alloc (o := .tup []) ht10
      have g11 := S10.grow (o := .tup []) ht10
      refine ⟨_, rfl, by show 1 ≤ sizeLine; decide, fun t11 ht11 => ?_⟩
      have S12 := S11.alloc (o := .tup [.ref t9]) ht11
      have g12 := S11.grow (o := .tup [.ref t9]) ht11
      refine ⟨_, rfl, sa, s9, 2, rfl, S12.hd, by decide, by decide, fun w12 s12 w0 w1 => ?_⟩
      have S13' := S12.put (u := .lst [.int s12])
      have k9 : VLW.NdA _ (.ref t9) (.tx n2 "k") := (VLW.NdA.tx (show upd (upd G5 t7 (.tup [.str "remove", .str "insert", .str "move", .str "text"])) t9 (.tup [.str "text", .int n2, .str "k"]) t9 = _ from upd_same)).same (Same.trans g11 g12)
      have g012 := Same.trans g07 (Same.trans g10 (Same.trans g11 g12))
      have h11 := S13'.s _ _ (show upd (upd (upd (upd G5 t7 (.tup [.str "remove", .str "insert", .str "move", .str "text"])) t9 (.tup [.str "text", .int n2, .str "k"])) t10 (.tup [])) t11 (.tup [.ref t9]) t11 = _ from upd_same)
      refine ⟨_, rfl, t11, [.ref t9], rfl, SqT.of h11, fun _ => ?_, fun _ p13 hp13 => ?_⟩
      · have S13 := S13'
        have g013 := g012
        have hKP := (show upd (upd (upd (upd G5 t7 (.tup [.str "remove", .str "insert", .str "move", .str "text"])) t9 (.tup [.str "text", .int n2, .str "k"])) t10 (.tup [])) t11 (.tup [.ref t9]) t11 = some (.tup [.ref t9]) from upd_same)
        have nKP := VLW.NdAs.cons k9 .nil
        refine ⟨by show 5 ≤ sizeLine; decide, fun t12 ht12 => ?_⟩
        have S14 := S13.alloc (o := .tup [.str "element", .int num, .str "p", .ref t10, .ref t11]) ht12
        have g14 := S13.grow (o := .tup [.str "element", .int num, .str "p", .ref t10, .ref t11]) ht12
        refine ⟨by show 4 ≤ sizeLine; decide, fun t13 ht13 => ?_⟩
        have S15 := S14.alloc (o := .tup [.str "insert", .int 0, .ref t12, .non]) ht13
        have g15 := S14.grow (o := .tup [.str "insert", .int 0, .ref t12, .non]) ht13
        refine q (.ref t13) (.ins (.el num "p" [] [.tx n2 "k"])) s12 _ _ S15 (Same.trans g013 (Same.trans g14 g15)) ⟨t13, .int 0, .ref t12, [.non], rfl, upd_same, (VLW.NdA.el upd_same trivial (g14 _ _ hKP) (nKP.same g14)).same g15⟩ ?_ (fun d e => ?_)
        · show (numN (.el num "p" [] [.tx n2 "k"])).length ≤ 1000
          simp [numN, numS]
        · cases e
          simp [hN, hS]
      · rcases (by omega : w12 = 0 ∨ w12 = 1) with rfl | rfl
        · have S13 := S13'.alloc (o := .tup []) hp13
          have g13 := S13'.grow (o := .tup []) hp13
          have g013 := Same.trans g012 g13
          have hKP := sm_atC g13
          refine ⟨by show 5 ≤ sizeLine; decide, fun t12 ht12 => ?_⟩
          have S14 := S13.alloc (o := .tup [.str "element", .int num, .str "p", .ref t10, .ref p13]) ht12
          have g14 := S13.grow (o := .tup [.str "element", .int num, .str "p", .ref t10, .ref p13]) ht12
          refine ⟨by show 4 ≤ sizeLine; decide, fun t13 ht13 => ?_⟩
          have S15 := S14.alloc (o := .tup [.str "insert", .int 0, .ref t12, .non]) ht13
          have g15 := S14.grow (o := .tup [.str "insert", .int 0, .ref t12, .non]) ht13
          refine q (.ref t13) (.ins (.el num "p" [] [])) s12 _ _ S15 (Same.trans g013 (Same.trans g14 g15)) ⟨t13, .int 0, .ref t12, [.non], rfl, upd_same, (VLW.NdA.el upd_same trivial (g14 _ _ hKP) VLW.NdAs.nil).same g15⟩ ?_ (fun d e => ?_)
          · show (numN (.el num "p" [] [])).length ≤ 1000
            simp [numN, numS]
          · cases e
            simp [hN, hS]
        · have S13 := S13'.alloc (o := .tup [.ref t9]) hp13
          have g13 := S13'.grow (o := .tup [.ref t9]) hp13
          have g013 := Same.trans g012 g13
          have hKP := sm_atC g13
          have nKP := VLW.NdAs.cons (k9.same g13) .nil
          refine ⟨by show 5 ≤ sizeLine; decide, fun t12 ht12 => ?_⟩
          have S14 := S13.alloc (o := .tup [.str "element", .int num, .str "p", .ref t10, .ref p13]) ht12
          have g14 := S13.grow (o := .tup [.str "element", .int num, .str "p", .ref t10, .ref p13]) ht12
          refine ⟨by show 4 ≤ sizeLine; decide, fun t13 ht13 => ?_⟩
          have S15 := S14.alloc (o := .tup [.str "insert", .int 0, .ref t12, .non]) ht13
          have g15 := S14.grow (o := .tup [.str "insert", .int 0, .ref t12, .non]) ht13
          refine q (.ref t13) (.ins (.el num "p" [] [.tx n2 "k"])) s12 _ _ S15 (Same.trans g013 (Same.trans g14 g15)) ⟨t13, .int 0, .ref t12, [.non], rfl, upd_same, (VLW.NdA.el upd_same trivial (g14 _ _ hKP) (nKP.same g14)).same g15⟩ ?_ (fun d e => ?_)
          · show (numN (.el num "p" [] [.tx n2 "k"])).length ≤ 1000
            simp [numN, numS]
          · cases e
            simp [hN, hS]
    · refine ⟨t7, _, _, _, rfl, rfl, SqT.of h7, rfl, ?_⟩
      refine ⟨_, rfl, rfl, _, rfl, iteF' (by decide) ⟨_, rfl, rfl, _, rfl, iteF' (by decide) ?_⟩⟩
      refine ⟨_, rfl, rfl, _, rfl, iteT' (by decide) ⟨_, rfl, _, rfl, by show 4 ≤ sizeLine; decide, fun t9 ht9 => ?_⟩⟩
      exact q (.ref t9) .oth s8 _ _ (S8.alloc ht9) (Same.trans g07 (S8.grow ht9)) ⟨t9, "move", _, rfl, upd_same, by decide, by decide⟩ (Nat.zero_le _) (fun d e => nomatch e)
    · refine ⟨t7, _, _, _, rfl, rfl, SqT.of h7, rfl, ?_⟩
      refine ⟨_, rfl, rfl, _, rfl, iteF' (by decide) ⟨_, rfl, rfl, _, rfl, iteT' (by decide) ⟨_, rfl, _, rfl, by show 3 ≤ sizeLine; decide, fun t9 ht9 => ?_⟩⟩⟩
      exact q (.ref t9) .oth s8 _ _ (S8.alloc ht9) (Same.trans g07 (S8.grow ht9)) ⟨t9, "text", _, rfl, upd_same, by decide, by decide⟩ (Nat.zero_le _) (fun d e => nomatch e)
end
end VL

set_option Elab.async false
set_option linter.all false
set_option pp.maxSteps 900
set_option maxRecDepth 100000
set_option maxHeartbeats 4000000
namespace VL
open PySem PySem.Spec PyProof.Rows L2 S2S
def OpL (n : Nat) : OpD → Prop
  | .ins _ d _ => (numN d).length ≤ n
  | _ => True
theorem OpL.mono {m n : Nat} (h : m ≤ n) {o : OpD} (a : OpL m o) : OpL n o := by
  cases o <;> simp only [OpL] at a ⊢
  exact Nat.le_trans a h
theorem opL_rem : ∀ (n : Nat) (par : Int) (new : List Dn) (ks : List Dn), hS ks ≤ n → ∀ o ∈ remS par new ks, ∀ m, OpL m o
  | n, par, new, ks, hn, o, ho, m => by
    rw [remS_map, List.mem_flatMap] at ho
    obtain ⟨d, hd, ho⟩ := ho
    rw [remN_eq] at ho
    have hm := hS_mem hd
    rw [hN_eq] at hm
    cases hp : parD new d with
    | none =>
      rw [hp] at ho
      have ho : o ∈ [OpD.rem par d.num] := ho
      rw [List.mem_singleton.mp ho]
      trivial
    | some e =>
      rw [hp] at ho
      match n, hn with
      | 0, hn => omega
      | n + 1, hn => exact opL_rem n d.num e.kids d.kids (by omega) o ho m
theorem opL_own {d e : Dn} {o : OpD} (h : o ∈ ownD d e) (m : Nat) : OpL m o := by
  cases d <;> cases e <;> simp only [ownD, List.not_mem_nil] at h
  · split at h
    · cases h
    · rw [List.mem_singleton.mp h]
      trivial
  · rcases List.mem_append.mp h with h | h
    · obtain ⟨p, _, rfl⟩ := List.mem_map.mp h
      trivial
    · obtain ⟨p, _, rfl⟩ := List.mem_map.mp h
      trivial
theorem opL_plc {kept : List Int} {par : Int} {new : List Dn} {o : OpD} (h : o ∈ plcS kept par new) : OpL (numS new).length o := by
  unfold plcS at h
  obtain ⟨k, _, h⟩ := List.mem_flatMap.mp h
  unfold plcA at h
  split at h
  · cases h
  · rename_i d hd
    unfold plcF at h
    split at h
    · split at h
      · cases h
      · rw [List.mem_singleton.mp h]
        trivial
    · rw [List.mem_singleton.mp h]
      exact (numS_mem (List.mem_of_getElem? hd)).length_le
theorem opL_chg : ∀ (n : Nat) (par : Int) (new : List Dn) (ks : List Dn), hS ks ≤ n → ∀ o ∈ chgS par new ks, OpL (numS new).length o
  | n, par, new, ks, hn, o, ho => by
    unfold chgS at ho
    rcases List.mem_append.mp ho with ho | ho
    · rw [chgM_map, List.mem_flatMap] at ho
      obtain ⟨d, hd, ho⟩ := ho
      rw [chgN_eq] at ho
      have hm := hS_mem hd
      rw [hN_eq] at hm
      cases hp : parD new d with
      | none =>
        rw [hp] at ho
        cases ho
      | some e =>
        rw [hp] at ho
        rcases List.mem_append.mp ho with ho | ho
        · exact opL_own ho _
        · have he := (numS_mem (parD_mem hp).1).length_le
          have he2 := (numN_kids e).length_le
          match n, hn with
          | 0, hn => omega
          | n + 1, hn => exact (opL_chg n d.num e.kids d.kids (by omega) o ho).mono (by omega)
    · exact opL_plc ho
theorem opL_pat {old new : List Dn} {o : OpD} (h : o ∈ patD old new) : OpL (numS new).length o := by
  unfold patD at h
  rcases List.mem_append.mp h with h | h
  · exact opL_rem _ 0 new old (Nat.le_refl _) o h _
  · exact opL_chg _ 0 new old (Nat.le_refl _) o h

def coO : OpD → CO
  | .rem _ n => .rem n
  | .ins _ d _ => .ins d
  | _ => .oth
theorem cid_co (o : OpD) : cidC (coO o) = cidO o := by cases o <;> rfl
theorem car_co (kp : List Int) (os : List OpD) : carC kp (os.map coO) = carD kp os := by
  unfold carC carD
  rw [List.all_map]
  congr 1
  funext o
  show (cidC (coO o)).all _ = _
  rw [cid_co]
theorem OpA.co {H : Hp} {v : V} {o : OpD} (h : OpA H v o) : CoA H v (coO o) := by
  cases h with
  | rem h => exact ⟨_, _, _, rfl, h⟩
  | ins h hd => exact ⟨_, _, _, _, rfl, h, hd.w⟩
  | mov h => exact ⟨_, _, _, rfl, h, by decide, by decide⟩
  | txt h => exact ⟨_, _, _, rfl, h, by decide, by decide⟩
  | set h => exact ⟨_, _, _, rfl, h, by decide, by decide⟩
  | uns h => exact ⟨_, _, _, rfl, h, by decide, by decide⟩
theorem co_all {H : Hp} {us : List V} {os : List OpD} (h : Paired (OpA H) us os) : Paired (CoA H) us (os.map coO) := by
  induction h with
  | nil => exact .nil
  | cons h _ ih => exact .cons h.co ih
theorem co_len {old new : List Dn} (l : (numS new).length ≤ 1000) : ∀ c ∈ (patD old new).map coO, (cidC c).length ≤ 1000 := fun c hc => by
  obtain ⟨o, ho, rfl⟩ := List.mem_map.mp hc
  have h := opL_pat ho
  rw [cid_co]
  cases o <;> simp only [cidO, List.length_singleton, List.length_nil] <;> try omega
  exact Nat.le_trans h l
theorem cos_same {H H' : Hp} {us : List V} {cs : List CO} (s : Same H H') (h : Paired (CoA H) us cs) : Paired (CoA H') us cs := Paired.mono (fun _ _ z => z.same s) h
def spLaw (K : PySem.W.Frag) : Sp := fun vs H Q _ => ∃ (a : Addr) (ns : List Int), vs = [.ref a] ∧ SqL K H a (ns.map V.int) ∧ ns.length ≤ 63 ∧ ∀ H', Q (.bl true) H'
section
variable {P : Program} {w : World} {K : PySem.W.Frag} {mg : Str → Option Value} {base : Heap} {C : Ad}
theorem sc_law : FnScope ["script", "k", "old", "new", "state", "turn", "operations", "told", "j"] ["script"] (defScope s_law) := ⟨rfl, rfl, rfl, by decide +kernel, rfl, by decide +kernel, by decide +kernel⟩
theorem ok_law {f : Addr} {fd : FuncData} (F : Fun K "law" "law" s_law f fd) (T : Txt K w mg C) : FnOk P w K mg base CX0 60 f fd ["script"] (spLaw K) := by
  have G_law_pair := ok_pair (P := P) (base := base) T
  have Gpatch := ok_patch (P := P) (base := base) T
  have Gis_careful := ok_isC (P := P) (base := base) T
  have G_law_cell := ok_cell (P := P) (base := base) T
  have G_law_start := ok_start (P := P) (base := base) T
  have G_law_digit := ok_dig (P := P) (base := base) T
  have G_law_operation := ok_lop (P := P) (base := base) T
  have G_law_careful := ok_lcar (P := P) (base := base) T
  refine F.ok sc_law (fun vs H Q E h => ?_) (fun cdv A outer s H vs Q E hr h => ?_)
  · obtain ⟨a, ns, rfl, _⟩ := h
    rfl
  · obtain ⟨sa, ns, rfl, hSQ, hlen, kq⟩ := h
    have big : 10000000 < sizeLine := by decide
    refine ⟨_, (pss_cons (ps_for PassesOwn.never rfl (pi_range1 (by rfl) T.z_range (pa_cons (pe_callB (call_min2 rfl) (by rfl) T.z_min (by decide +kernel) (pa_cons pe_int (pa_cons (pe_callB (call_max2 rfl) (by rfl) T.z_max (by decide +kernel) (pa_cons pe_int (pa_cons (pe_op op_fdiv (pe_callB call_len_seq (by rfl) T.z_len PySem.boot_len (pa_cons (pv 0) pa_nil)) pe_int) pa_nil))) pa_nil))) pa_nil)) (pg_name (i := 1) sc_law.nd rfl (Or.inl rfl)) (pss_cons (ps_asg (pe_c G_law_pair hr (by decide) (by rfl) (pa_cons (pv 0) (pa_cons (pv 1) pa_nil))) (pg_tup rfl (pgs_cons (pg_name (i := 2) sc_law.nd rfl (Or.inr rfl)) (pgs_cons (pg_name (i := 3) sc_law.nd rfl (Or.inr rfl)) pgs_nil)))) (pss_cons (ps_if (PW.pt (pw_or (pt_cmpR op_isnot_bl (pe_c Gis_careful hr (by decide) (by rfl) (pa_cons (pv 2) (pa_cons (pv 3) (pa_cons (pe_c Gpatch hr (by decide) (by rfl) (pa_cons (pv 2) (pa_cons (pv 3) pa_nil))) pa_nil)))) pe_bl (nomark _)) (pw_or1 (pt_cmpR op_isnot_bl (pe_c Gis_careful hr (by decide) (by rfl) (pa_cons (pv 2) (pa_cons (pv 3) (pa_cons (pe_lst pa_nil) pa_nil)))) pe_bl (nomark _))))) (pss_one (ps_ret pe_bl)) pss_nil) (pss_cons (ps_set (i := 4) sc_law.nd rfl (Or.inr rfl) (pe_c G_law_start hr (by decide) (by rfl) (pa_cons (pe_c G_law_cell hr (by decide) (by rfl) (pa_cons (pv 0) (pa_cons (pe_op op_add (pe_op op_mul pe_int (pv 1)) pe_int) pa_nil))) (pa_cons (pe_op op_add (pv 1) pe_int) pa_nil)))) (pss_one (ps_for PassesOwn.never rfl (pi_range1 (by rfl) T.z_range (pa_cons pe_int pa_nil)) (pg_name (i := 5) sc_law.nd rfl (Or.inl rfl)) (pss_cons (ps_setLc (i := 6) (own := [("j", 8)]) (g := gName 8) (tt := tYes) rfl sc_law.nd rfl rfl (sw_true rfl rfl rfl (by decide +kernel)) (pi_range1 (by rfl) T.z_range (pa_cons (pe_c G_law_digit hr (by decide) (by rfl) (pa_cons (pv 4) (pa_cons pe_int pa_nil))) pa_nil)) (blkOk_by (N := ["script", "k", "old", "new", "state", "turn", "operations", "told", "j"]) (sc := (defScope s_law)) (by decide +kernel)) (fun _ _ _ _ _ => pg_name (i := 8) sc_law.nd rfl (Or.inl rfl)) (fun _ _ _ _ _ => pts_nil) (fun _ _ _ _ _ => (pe_c G_law_operation hr (by decide) (by rfl) (pa_cons (pv 4) (pa_cons (pv 2) (pa_cons (pv 3) pa_nil)))))) (pss_cons (ps_set (i := 7) sc_law.nd rfl (Or.inl rfl) (pe_c Gis_careful hr (by decide) (by rfl) (pa_cons (pv 2) (pa_cons (pv 3) (pa_cons (pv 6) pa_nil))))) (pss_one (ps_if (PW.pt (pw_or (pt_not (pt_val (pe_callB call_isi (by rfl) T.z_isinstance (by decide +kernel) (pa_cons (pv 7) (pa_cons (pe_bltn (v := .ty "bool") (by rfl) T.z_bool (by decide +kernel) rfl) pa_nil))))) (pw_or1 (pt_cmpR op_ne (pv 7) (pe_c G_law_careful hr (by decide) (by rfl) (pa_cons (pv 2) (pa_cons (pv 3) (pa_cons (pv 6) pa_nil)))) (nomark _))))) (pss_one (ps_ret pe_bl)) pss_nil)))))))))) (pss_one (ps_ret pe_bl))), ?_⟩
    refine ⟨_, rfl, sa, _, rfl, .inl hSQ, _, _, rfl, rfl, ⟨by decide, by decide⟩, _, _, rfl, _, _, rfl, ?_⟩
    have hl2 : (ns.map V.int).length = ns.length := List.length_map _
    refine ⟨_, rfl, ?_, ?_, ?_⟩
    · show -2 ^ 62 ≤ (if _ < _ then _ else _ : Int)
      repeat' split
      all_goals omega
    · show (if _ < _ then _ else _ : Int) < 2 ^ 62
      repeat' split
      all_goals omega
    refine for_range (lo := 0) (n := _) (fun i σ H' => ∃ y1 y2 y3 y4 y5 y6 y7 : Option V, Same H H' ∧ σ = [some (.ref sa), y1, y2, y3, y4, y5, y6, y7, none]) ⟨_, _, _, _, _, _, _, Same.refl _, rfl⟩ ?_ ?_
    · rintro ii σ Ha hi ⟨y1, y2, y3, y4, y5, y6, y7, sH, rfl⟩
      have hSa := sql_same hSQ sH
      have hi60 : ii ≤ 100 := by
        refine Nat.le_trans (Nat.le_of_lt hi) ?_
        refine Int.toNat_le.mpr ?_
        show (if _ < _ then _ else _ : Int) ≤ 100
        repeat' split
        all_goals omega
      refine ⟨_, rfl, _, rfl, sa, ns, ii, by rw [Int.zero_add]; rfl, hi60, hSa, fun tp q1 q2 ko kn H1 s1 htp h1 h2 d1 d2 => ?_⟩
      refine ⟨tp, _, rfl, SqT.of htp, rfl, _, _, rfl, _, _, rfl, rfl, ?_⟩
      have len2 := d2.len
      have hh1 := d1.h
      have hh2 := d2.h
      refine ⟨_, rfl, _, rfl, _, rfl, _, rfl, q1, q2, ko, kn, H1, [], rfl, Sb.nil, h1, h2, d1.dok, d2.dok, d1.h, fun lp us G2 H2 S2 g2 hlp hus => ?_⟩
      have s12 := Same.trans g2 S2.s
      have hus2 := OpA.sames S2.s hus
      refine ⟨q1, q2, lp, ko, kn, us, (patD ko kn).map coO, rfl, h1.same s12, h2.same s12, d1.dok, d2.dok, d2.h, S2.s _ _ hlp, co_all hus2, co_len (by omega), fun H3 s3 => ?_⟩
      rw [car_co, pat_car d1.dok d2.dok]
      have s13 := Same.trans s12 s3
      refine ⟨_, _, rfl, rfl, _, rfl, iteF' (by decide) ?_⟩
      refine ⟨_, rfl, _, rfl, by show 0 ≤ sizeLine; decide, fun l hl => ?_⟩
      have k3 := Sm.new (o := .lst []) hl
      refine ⟨q1, q2, l, ko, kn, [], [], rfl, h1.same (Same.trans s13 k3), h2.same (Same.trans s13 k3), d1.dok, d2.dok, d2.h, upd_same, .nil, (fun c h => nomatch h), fun H4 s4 => ?_⟩
      refine ⟨_, _, rfl, rfl, _, rfl, iteF' (by show (!decide (true = true)) = false; decide) ?_⟩
      have s14 := Same.trans s13 (Same.trans k3 s4)
      refine ⟨_, rfl, _, rfl, _, _, rfl, rfl, .inl ⟨by decide, by decide⟩, _, _, rfl, rfl, sa, ns, 2 * ii + 1, by rw [show ((2 * ii + 1 : Nat) : Int) = 2 * (0 + (ii : Int)) + 1 by omega]; rfl, sql_same hSa (Same.trans s1 s14), fun c => ⟨_, rfl, _, _, rfl, rfl, c, _, rfl, fun sp s5 hsp => ?_⟩⟩
      have S5 : Sb H4 (upd H4 sp (.lst [.int s5])) [(sp, .lst [.int s5])] := Sb.nil.add hsp
      refine ⟨_, rfl, by decide, by decide, ?_⟩
      refine for_range (lo := 0) (n := 6) (fun i σ H' => ∃ (s' : Int) (G' : Hp) (y5 y6 y7 : Option V), Sb G' H' [(sp, .lst [.int s'])] ∧ Same H4 G' ∧ σ = [some (.ref sa), some (.int (0 + (ii : Nat))), some (.ref q1), some (.ref q2), some (.ref sp), y5, y6, y7, none]) ⟨s5, H4, _, _, _, S5, Same.refl _, rfl⟩ ?_ ?_
      · rintro i σ H6 hi6 ⟨s', G6, y5, y6, y7, S6, g6, rfl⟩
        refine ⟨_, rfl, sp, s', 4, rfl, S6.hd, by decide, by decide, fun z s7 z0 z1 => ?_⟩
        have S7 := S6.put (u := .lst [.int s7])
        refine ⟨_, rfl, by omega, by omega, fun L hL => ?_⟩
        have h1G := h1.same (Same.trans s14 g6)
        have h2G := h2.same (Same.trans s14 g6)
        refine lc_it (walk_range (lo := 0) (n := z.toNat)) (fun j H' => ∃ (s' : Int) (G' : Hp) (us : List V) (cs : List CO), Sb G' H' [(L, .lst us), (sp, .lst [.int s'])] ∧ Same G6 G' ∧ Paired (CoA G') us cs ∧ (∀ c ∈ cs, (cidC c).length ≤ 1000 ∧ ∀ d, c = .ins d → hN d ≤ 10) ∧ us.length ≤ j) ⟨s7, G6, [], [], S7.add (o := .lst []) hL, Same.refl _, .nil, (fun c h => nomatch h), Nat.le_refl _⟩ (fun j H' _ z => trivial) ?_ ?_
        · rintro j x H8 H9 hj ⟨s8, G8, us, cs, S8, g8, hus8, hcs8, ul⟩ ⟨rfl, hx⟩
          refine ⟨rfl, _, rfl, _, rfl, _, rfl, sp, s8, q1, q2, ko, kn, G8, [(L, .lst us)], rfl, S8.swap, h1G.same g8, h2G.same g8, d1, d2, fun v c s9 G9 H9 S9 g9 hv hc1 hc2 => ?_⟩
          have S10 := S9.swap
          refine ⟨us, S10.hd, by omega, s9, G9, us ++ [v], cs ++ [c], S10.put, Same.trans g8 g9, paired_app (cos_same g9 hus8) (.cons hv .nil), fun c' hc' => ?_, by rw [List.length_append]; show us.length + 1 ≤ j + 1; omega⟩
          rcases List.mem_append.mp hc' with hc' | hc'
          · exact hcs8 c' hc'
          · rw [List.mem_singleton.mp hc']
            exact ⟨hc1, hc2⟩
        · rintro H8 ⟨s8, G8, us, cs, S8, g8, hus8, hcs8, ul⟩
          obtain ⟨S9, g9⟩ := S8.drop
          have hL9 := S9.s _ _ (show upd G8 L (.lst us) L = some (.lst us) from upd_same)
          have g69 := Same.trans g8 g9
          have h19 := (h1G.same g69).same S9.s
          have h29 := (h2G.same g69).same S9.s
          have hus9 := cos_same (Same.trans g9 S9.s) hus8
          refine ⟨_, rfl, _, rfl, _, rfl, q1, q2, L, ko, kn, us, cs, rfl, h19, h29, d1.dok, d2.dok, d2.h, hL9, hus9, fun c hc => (hcs8 c hc).1, fun H10 s10 => ?_⟩
          obtain ⟨ty, hty, hkit⟩ : ∃ ty, TyX K H10 (.bl (carC (kepS ko kn) cs)) ty ∧ PySem.W.kitOne K ty (.type "bool") = some true := ⟨_, .base (.bl _), kit_ty (by decide +kernel)⟩
          refine ⟨_, rfl, _, .ty "bool", ty, _, true, rfl, .ty _, hty, hkit, _, rfl, iteF ?_⟩
          refine ⟨_, rfl, _, rfl, _, rfl, _, rfl, q1, q2, L, ko, kn, us, cs, rfl, h19.same s10, h29.same s10, by omega, d2.h, s10 _ _ hL9, cos_same s10 hus9, hcs8, fun H11 s11 => ?_⟩
          refine ⟨rfl, _, rfl, iteF' (by simp) ?_⟩
          exact ⟨s8, _, _, _, _, S9.keepS (Same.trans s10 s11), Same.trans g6 g69, rfl⟩
      · rintro σ H6 ⟨s', G6, y5, y6, y7, S6, g6, rfl⟩
        exact ⟨_, _, _, _, _, _, _, Same.trans sH (Same.trans s1 (Same.trans s14 (Same.trans g6 S6.s))), rfl⟩
    · rintro σ Hb ⟨y1, y2, y3, y4, y5, y6, y7, sH, rfl⟩
      exact kq Hb
end
end VL

set_option Elab.async false
set_option linter.all false
set_option maxRecDepth 100000
set_option maxHeartbeats 4000000
namespace VL
open PySem PySem.Spec PyProof.Rows L2
theorem all_mk {l : PySem.W.OpenLaw} {w : World} {K : PySem.W.Frag} {h : Heap} {mg : Str → Option Value} {fa f1 f2 f3 f4 f5 f6 f7 f8 f9 f10 f11 f12 f13 f14 f15 f16 f17 f18 f19 f20 f21 f22 f23 f24 f25 f26 f27 f28 f29 f30 f31 f32 f33 f34 : Addr} (X : K.In h) (G : h.Ns mainGlobals mg) (hfa : mg "law" = some (.ref fa))
    {od1 an1 od2 an2 od3 an3 od4 an4 od5 an5 od6 an6 od7 an7 od8 an8 od9 an9 od10 an10 od11 an11 od12 an12 od13 an13 od14 an14 od15 an15 od16 an16 od17 an17 od18 an18 od19 an19 od20 an20 od21 an21 od22 an22 od23 an23 od24 an24 od25 an25 od26 an26 od27 an27 od28 an28 od29 an29 od30 an30 od31 an31 od32 an32 od33 an33 od34 an34 : Option Addr} {sl1 sl2 sl3 sl4 sl5 sl6 sl7 sl8 sl9 sl10 sl11 sl12 sl13 sl14 sl15 sl16 sl17 sl18 sl19 sl20 sl21 sl22 sl23 sl24 sl25 sl26 sl27 sl28 sl29 sl30 sl31 sl32 sl33 sl34 : Array (Option Value)} {oc1 kV1 dc1 pm1 cd1 ct1 oc2 kV2 dc2 pm2 cd2 ct2 oc3 kV3 dc3 pm3 cd3 ct3 oc4 kV4 dc4 pm4 cd4 ct4 oc5 kV5 dc5 pm5 cd5 ct5 oc6 kV6 dc6 pm6 cd6 ct6 oc7 kV7 dc7 pm7 cd7 ct7 oc8 kV8 dc8 pm8 cd8 ct8 oc9 kV9 dc9 pm9 cd9 ct9 oc10 kV10 dc10 pm10 cd10 ct10 oc11 kV11 dc11 pm11 cd11 ct11 oc12 kV12 dc12 pm12 cd12 ct12 oc13 kV13 dc13 pm13 cd13 ct13 oc14 kV14 dc14 pm14 cd14 ct14 oc15 kV15 dc15 pm15 cd15 ct15 oc16 kV16 dc16 pm16 cd16 ct16 oc17 kV17 dc17 pm17 cd17 ct17 oc18 kV18 dc18 pm18 cd18 ct18 oc19 kV19 dc19 pm19 cd19 ct19 oc20 kV20 dc20 pm20 cd20 ct20 oc21 kV21 dc21 pm21 cd21 ct21 oc22 kV22 dc22 pm22 cd22 ct22 oc23 kV23 dc23 pm23 cd23 ct23 oc24 kV24 dc24 pm24 cd24 ct24 oc25 kV25 dc25 pm25 cd25 ct25 oc26 kV26 dc26 pm26 cd26 ct26 oc27 kV27 dc27 pm27 cd27 ct27 oc28 kV28 dc28 pm28 cd28 ct28 oc29 kV29 dc29 pm29 cd29 ct29 oc30 kV30 dc30 pm30 cd30 ct30 oc31 kV31 dc31 pm31 cd31 ct31 oc32 kV32 dc32 pm32 cd32 ct32 oc33 kV33 dc33 pm33 cd33 ct33 oc34 kV34 dc34 pm34 cd34 ct34 : Value} 
    (z_abs : PySem.W.nsIn K mainGlobals "abs" = some none)
    (z_any : PySem.W.nsIn K mainGlobals "any" = some none)
    (z_bool : PySem.W.nsIn K mainGlobals "bool" = some none)
    (z_dict : PySem.W.nsIn K mainGlobals "dict" = some none)
    (z_enumerate : PySem.W.nsIn K mainGlobals "enumerate" = some none)
    (z_int : PySem.W.nsIn K mainGlobals "int" = some none)
    (z_isinstance : PySem.W.nsIn K mainGlobals "isinstance" = some none)
    (z_len : PySem.W.nsIn K mainGlobals "len" = some none)
    (z_max : PySem.W.nsIn K mainGlobals "max" = some none)
    (z_min : PySem.W.nsIn K mainGlobals "min" = some none)
    (z_range : PySem.W.nsIn K mainGlobals "range" = some none)
    (z_reversed : PySem.W.nsIn K mainGlobals "reversed" = some none)
    (z_tuple : PySem.W.nsIn K mainGlobals "tuple" = some none)
    (z_zip : PySem.W.nsIn K mainGlobals "zip" = some none)
    (a1 : PySem.W.nsIn K mainGlobals "walk" = some (some (.ref f1)))
    (l1 : K.lookup f1 = some ⟨oc1, od1, .func (PySem.W.fnOf "walk" "walk" (defArgs s_walk) (defBody s_walk) (defScope s_walk) .none kV1 dc1 pm1 an1 cd1 ct1), sl1⟩)
    (c1 : PySem.W.codeIn K cd1 "walk" = true)
    (k1 : PySem.W.keepIn K (.ref f1) = true)
    (a2 : PySem.W.nsIn K mainGlobals "kids_in" = some (some (.ref f2)))
    (l2 : K.lookup f2 = some ⟨oc2, od2, .func (PySem.W.fnOf "kids_in" "kids_in" (defArgs s_kids_in) (defBody s_kids_in) (defScope s_kids_in) .none kV2 dc2 pm2 an2 cd2 ct2), sl2⟩)
    (c2 : PySem.W.codeIn K cd2 "kids_in" = true)
    (k2 : PySem.W.keepIn K (.ref f2) = true)
    (a3 : PySem.W.nsIn K mainGlobals "ids_of" = some (some (.ref f3)))
    (l3 : K.lookup f3 = some ⟨oc3, od3, .func (PySem.W.fnOf "ids_of" "ids_of" (defArgs s_ids_of) (defBody s_ids_of) (defScope s_ids_of) .none kV3 dc3 pm3 an3 cd3 ct3), sl3⟩)
    (c3 : PySem.W.codeIn K cd3 "ids_of" = true)
    (k3 : PySem.W.keepIn K (.ref f3) = true)
    (a4 : PySem.W.nsIn K mainGlobals "best_row" = some (some (.ref f4)))
    (l4 : K.lookup f4 = some ⟨oc4, od4, .func (PySem.W.fnOf "best_row" "best_row" (defArgs s_best_row) (defBody s_best_row) (defScope s_best_row) .none kV4 dc4 pm4 an4 cd4 ct4), sl4⟩)
    (c4 : PySem.W.codeIn K cd4 "best_row" = true)
    (k4 : PySem.W.keepIn K (.ref f4) = true)
    (a5 : PySem.W.nsIn K mainGlobals "lengths_from" = some (some (.ref f5)))
    (l5 : K.lookup f5 = some ⟨oc5, od5, .func (PySem.W.fnOf "lengths_from" "lengths_from" (defArgs s_lengths_from) (defBody s_lengths_from) (defScope s_lengths_from) .none kV5 dc5 pm5 an5 cd5 ct5), sl5⟩)
    (c5 : PySem.W.codeIn K cd5 "lengths_from" = true)
    (k5 : PySem.W.keepIn K (.ref f5) = true)
    (a6 : PySem.W.nsIn K mainGlobals "count_above" = some (some (.ref f6)))
    (l6 : K.lookup f6 = some ⟨oc6, od6, .func (PySem.W.fnOf "count_above" "count_above" (defArgs s_count_above) (defBody s_count_above) (defScope s_count_above) .none kV6 dc6 pm6 an6 cd6 ct6), sl6⟩)
    (c6 : PySem.W.codeIn K cd6 "count_above" = true)
    (k6 : PySem.W.keepIn K (.ref f6) = true)
    (a7 : PySem.W.nsIn K mainGlobals "are_alike" = some (some (.ref f7)))
    (l7 : K.lookup f7 = some ⟨oc7, od7, .func (PySem.W.fnOf "are_alike" "are_alike" (defArgs s_are_alike) (defBody s_are_alike) (defScope s_are_alike) .none kV7 dc7 pm7 an7 cd7 ct7), sl7⟩)
    (c7 : PySem.W.codeIn K cd7 "are_alike" = true)
    (k7 : PySem.W.keepIn K (.ref f7) = true)
    (a8 : PySem.W.nsIn K mainGlobals "partners_of" = some (some (.ref f8)))
    (l8 : K.lookup f8 = some ⟨oc8, od8, .func (PySem.W.fnOf "partners_of" "partners_of" (defArgs s_partners_of) (defBody s_partners_of) (defScope s_partners_of) .none kV8 dc8 pm8 an8 cd8 ct8), sl8⟩)
    (c8 : PySem.W.codeIn K cd8 "partners_of" = true)
    (k8 : PySem.W.keepIn K (.ref f8) = true)
    (a9 : PySem.W.nsIn K mainGlobals "kept_ids" = some (some (.ref f9)))
    (l9 : K.lookup f9 = some ⟨oc9, od9, .func (PySem.W.fnOf "kept_ids" "kept_ids" (defArgs s_kept_ids) (defBody s_kept_ids) (defScope s_kept_ids) .none kV9 dc9 pm9 an9 cd9 ct9), sl9⟩)
    (c9 : PySem.W.codeIn K cd9 "kept_ids" = true)
    (k9 : PySem.W.keepIn K (.ref f9) = true)
    (a10 : PySem.W.nsIn K mainGlobals "patch" = some (some (.ref f10)))
    (l10 : K.lookup f10 = some ⟨oc10, od10, .func (PySem.W.fnOf "patch" "patch" (defArgs s_patch) (defBody s_patch) (defScope s_patch) .none kV10 dc10 pm10 an10 cd10 ct10), sl10⟩)
    (c10 : PySem.W.codeIn K cd10 "patch" = true)
    (k10 : PySem.W.keepIn K (.ref f10) = true)
    (a11 : PySem.W.nsIn K mainGlobals "removals" = some (some (.ref f11)))
    (l11 : K.lookup f11 = some ⟨oc11, od11, .func (PySem.W.fnOf "removals" "removals" (defArgs s_removals) (defBody s_removals) (defScope s_removals) .none kV11 dc11 pm11 an11 cd11 ct11), sl11⟩)
    (c11 : PySem.W.codeIn K cd11 "removals" = true)
    (k11 : PySem.W.keepIn K (.ref f11) = true)
    (a12 : PySem.W.nsIn K mainGlobals "changes" = some (some (.ref f12)))
    (l12 : K.lookup f12 = some ⟨oc12, od12, .func (PySem.W.fnOf "changes" "changes" (defArgs s_changes) (defBody s_changes) (defScope s_changes) .none kV12 dc12 pm12 an12 cd12 ct12), sl12⟩)
    (c12 : PySem.W.codeIn K cd12 "changes" = true)
    (k12 : PySem.W.keepIn K (.ref f12) = true)
    (a13 : PySem.W.nsIn K mainGlobals "own_changes" = some (some (.ref f13)))
    (l13 : K.lookup f13 = some ⟨oc13, od13, .func (PySem.W.fnOf "own_changes" "own_changes" (defArgs s_own_changes) (defBody s_own_changes) (defScope s_own_changes) .none kV13 dc13 pm13 an13 cd13 ct13), sl13⟩)
    (c13 : PySem.W.codeIn K cd13 "own_changes" = true)
    (k13 : PySem.W.keepIn K (.ref f13) = true)
    (a14 : PySem.W.nsIn K mainGlobals "placings" = some (some (.ref f14)))
    (l14 : K.lookup f14 = some ⟨oc14, od14, .func (PySem.W.fnOf "placings" "placings" (defArgs s_placings) (defBody s_placings) (defScope s_placings) .none kV14 dc14 pm14 an14 cd14 ct14), sl14⟩)
    (c14 : PySem.W.codeIn K cd14 "placings" = true)
    (k14 : PySem.W.keepIn K (.ref f14) = true)
    (a15 : PySem.W.nsIn K mainGlobals "is_careful" = some (some (.ref f15)))
    (l15 : K.lookup f15 = some ⟨oc15, od15, .func (PySem.W.fnOf "is_careful" "is_careful" (defArgs s_is_careful) (defBody s_is_careful) (defScope s_is_careful) .none kV15 dc15 pm15 an15 cd15 ct15), sl15⟩)
    (c15 : PySem.W.codeIn K cd15 "is_careful" = true)
    (k15 : PySem.W.keepIn K (.ref f15) = true)
    (a16 : PySem.W.nsIn K mainGlobals "_law_cell" = some (some (.ref f16)))
    (l16 : K.lookup f16 = some ⟨oc16, od16, .func (PySem.W.fnOf "_law_cell" "_law_cell" (defArgs s__law_cell) (defBody s__law_cell) (defScope s__law_cell) .none kV16 dc16 pm16 an16 cd16 ct16), sl16⟩)
    (c16 : PySem.W.codeIn K cd16 "_law_cell" = true)
    (k16 : PySem.W.keepIn K (.ref f16) = true)
    (a17 : PySem.W.nsIn K mainGlobals "_law_start" = some (some (.ref f17)))
    (l17 : K.lookup f17 = some ⟨oc17, od17, .func (PySem.W.fnOf "_law_start" "_law_start" (defArgs s__law_start) (defBody s__law_start) (defScope s__law_start) .none kV17 dc17 pm17 an17 cd17 ct17), sl17⟩)
    (c17 : PySem.W.codeIn K cd17 "_law_start" = true)
    (k17 : PySem.W.keepIn K (.ref f17) = true)
    (a18 : PySem.W.nsIn K mainGlobals "_law_digit" = some (some (.ref f18)))
    (l18 : K.lookup f18 = some ⟨oc18, od18, .func (PySem.W.fnOf "_law_digit" "_law_digit" (defArgs s__law_digit) (defBody s__law_digit) (defScope s__law_digit) .none kV18 dc18 pm18 an18 cd18 ct18), sl18⟩)
    (c18 : PySem.W.codeIn K cd18 "_law_digit" = true)
    (k18 : PySem.W.keepIn K (.ref f18) = true)
    (a19 : PySem.W.nsIn K mainGlobals "_law_word" = some (some (.ref f19)))
    (l19 : K.lookup f19 = some ⟨oc19, od19, .func (PySem.W.fnOf "_law_word" "_law_word" (defArgs s__law_word) (defBody s__law_word) (defScope s__law_word) .none kV19 dc19 pm19 an19 cd19 ct19), sl19⟩)
    (c19 : PySem.W.codeIn K cd19 "_law_word" = true)
    (k19 : PySem.W.keepIn K (.ref f19) = true)
    (a20 : PySem.W.nsIn K mainGlobals "_law_attributes" = some (some (.ref f20)))
    (l20 : K.lookup f20 = some ⟨oc20, od20, .func (PySem.W.fnOf "_law_attributes" "_law_attributes" (defArgs s__law_attributes) (defBody s__law_attributes) (defScope s__law_attributes) .none kV20 dc20 pm20 an20 cd20 ct20), sl20⟩)
    (c20 : PySem.W.codeIn K cd20 "_law_attributes" = true)
    (k20 : PySem.W.keepIn K (.ref f20) = true)
    (a21 : PySem.W.nsIn K mainGlobals "_law_node" = some (some (.ref f21)))
    (l21 : K.lookup f21 = some ⟨oc21, od21, .func (PySem.W.fnOf "_law_node" "_law_node" (defArgs s__law_node) (defBody s__law_node) (defScope s__law_node) .none kV21 dc21 pm21 an21 cd21 ct21), sl21⟩)
    (c21 : PySem.W.codeIn K cd21 "_law_node" = true)
    (k21 : PySem.W.keepIn K (.ref f21) = true)
    (a22 : PySem.W.nsIn K mainGlobals "_law_pool" = some (some (.ref f22)))
    (l22 : K.lookup f22 = some ⟨oc22, od22, .func (PySem.W.fnOf "_law_pool" "_law_pool" (defArgs s__law_pool) (defBody s__law_pool) (defScope s__law_pool) .none kV22 dc22 pm22 an22 cd22 ct22), sl22⟩)
    (c22 : PySem.W.codeIn K cd22 "_law_pool" = true)
    (k22 : PySem.W.keepIn K (.ref f22) = true)
    (a23 : PySem.W.nsIn K mainGlobals "_law_document" = some (some (.ref f23)))
    (l23 : K.lookup f23 = some ⟨oc23, od23, .func (PySem.W.fnOf "_law_document" "_law_document" (defArgs s__law_document) (defBody s__law_document) (defScope s__law_document) .none kV23 dc23 pm23 an23 cd23 ct23), sl23⟩)
    (c23 : PySem.W.codeIn K cd23 "_law_document" = true)
    (k23 : PySem.W.keepIn K (.ref f23) = true)
    (a24 : PySem.W.nsIn K mainGlobals "_law_below" = some (some (.ref f24)))
    (l24 : K.lookup f24 = some ⟨oc24, od24, .func (PySem.W.fnOf "_law_below" "_law_below" (defArgs s__law_below) (defBody s__law_below) (defScope s__law_below) .none kV24 dc24 pm24 an24 cd24 ct24), sl24⟩)
    (c24 : PySem.W.codeIn K cd24 "_law_below" = true)
    (k24 : PySem.W.keepIn K (.ref f24) = true)
    (a25 : PySem.W.nsIn K mainGlobals "_law_flat" = some (some (.ref f25)))
    (l25 : K.lookup f25 = some ⟨oc25, od25, .func (PySem.W.fnOf "_law_flat" "_law_flat" (defArgs s__law_flat) (defBody s__law_flat) (defScope s__law_flat) .none kV25 dc25 pm25 an25 cd25 ct25), sl25⟩)
    (c25 : PySem.W.codeIn K cd25 "_law_flat" = true)
    (k25 : PySem.W.keepIn K (.ref f25) = true)
    (a26 : PySem.W.nsIn K mainGlobals "_law_ids" = some (some (.ref f26)))
    (l26 : K.lookup f26 = some ⟨oc26, od26, .func (PySem.W.fnOf "_law_ids" "_law_ids" (defArgs s__law_ids) (defBody s__law_ids) (defScope s__law_ids) .none kV26 dc26 pm26 an26 cd26 ct26), sl26⟩)
    (c26 : PySem.W.codeIn K cd26 "_law_ids" = true)
    (k26 : PySem.W.keepIn K (.ref f26) = true)
    (a27 : PySem.W.nsIn K mainGlobals "_law_partner" = some (some (.ref f27)))
    (l27 : K.lookup f27 = some ⟨oc27, od27, .func (PySem.W.fnOf "_law_partner" "_law_partner" (defArgs s__law_partner) (defBody s__law_partner) (defScope s__law_partner) .none kV27 dc27 pm27 an27 cd27 ct27), sl27⟩)
    (c27 : PySem.W.codeIn K cd27 "_law_partner" = true)
    (k27 : PySem.W.keepIn K (.ref f27) = true)
    (a28 : PySem.W.nsIn K mainGlobals "_law_kept" = some (some (.ref f28)))
    (l28 : K.lookup f28 = some ⟨oc28, od28, .func (PySem.W.fnOf "_law_kept" "_law_kept" (defArgs s__law_kept) (defBody s__law_kept) (defScope s__law_kept) .none kV28 dc28 pm28 an28 cd28 ct28), sl28⟩)
    (c28 : PySem.W.codeIn K cd28 "_law_kept" = true)
    (k28 : PySem.W.keepIn K (.ref f28) = true)
    (a29 : PySem.W.nsIn K mainGlobals "_law_turned" = some (some (.ref f29)))
    (l29 : K.lookup f29 = some ⟨oc29, od29, .func (PySem.W.fnOf "_law_turned" "_law_turned" (defArgs s__law_turned) (defBody s__law_turned) (defScope s__law_turned) .none kV29 dc29 pm29 an29 cd29 ct29), sl29⟩)
    (c29 : PySem.W.codeIn K cd29 "_law_turned" = true)
    (k29 : PySem.W.keepIn K (.ref f29) = true)
    (a30 : PySem.W.nsIn K mainGlobals "_law_fresh" = some (some (.ref f30)))
    (l30 : K.lookup f30 = some ⟨oc30, od30, .func (PySem.W.fnOf "_law_fresh" "_law_fresh" (defArgs s__law_fresh) (defBody s__law_fresh) (defScope s__law_fresh) .none kV30 dc30 pm30 an30 cd30 ct30), sl30⟩)
    (c30 : PySem.W.codeIn K cd30 "_law_fresh" = true)
    (k30 : PySem.W.keepIn K (.ref f30) = true)
    (a31 : PySem.W.nsIn K mainGlobals "_law_pair" = some (some (.ref f31)))
    (l31 : K.lookup f31 = some ⟨oc31, od31, .func (PySem.W.fnOf "_law_pair" "_law_pair" (defArgs s__law_pair) (defBody s__law_pair) (defScope s__law_pair) .none kV31 dc31 pm31 an31 cd31 ct31), sl31⟩)
    (c31 : PySem.W.codeIn K cd31 "_law_pair" = true)
    (k31 : PySem.W.keepIn K (.ref f31) = true)
    (a32 : PySem.W.nsIn K mainGlobals "_law_careful" = some (some (.ref f32)))
    (l32 : K.lookup f32 = some ⟨oc32, od32, .func (PySem.W.fnOf "_law_careful" "_law_careful" (defArgs s__law_careful) (defBody s__law_careful) (defScope s__law_careful) .none kV32 dc32 pm32 an32 cd32 ct32), sl32⟩)
    (c32 : PySem.W.codeIn K cd32 "_law_careful" = true)
    (k32 : PySem.W.keepIn K (.ref f32) = true)
    (a33 : PySem.W.nsIn K mainGlobals "_law_operation" = some (some (.ref f33)))
    (l33 : K.lookup f33 = some ⟨oc33, od33, .func (PySem.W.fnOf "_law_operation" "_law_operation" (defArgs s__law_operation) (defBody s__law_operation) (defScope s__law_operation) .none kV33 dc33 pm33 an33 cd33 ct33), sl33⟩)
    (c33 : PySem.W.codeIn K cd33 "_law_operation" = true)
    (k33 : PySem.W.keepIn K (.ref f33) = true)
    (a34 : PySem.W.nsIn K mainGlobals "law" = some (some (.ref f34)))
    (l34 : K.lookup f34 = some ⟨oc34, od34, .func (PySem.W.fnOf "law" "law" (defArgs s_law) (defBody s_law) (defScope s_law) .none kV34 dc34 pm34 an34 cd34 ct34), sl34⟩)
    (c34 : PySem.W.codeIn K cd34 "law" = true)
    (k34 : PySem.W.keepIn K (.ref f34) = true)
    : ∃ fd : FuncData, (∀ (s : Shared) (v : Value), BindsTo s fd ⟨[v], []⟩ [("script", v)]) ∧ ∀ base : Heap, K.In base → base.Ns mainGlobals mg → FnOk l.prog w K mg base CX0 60 fa fd ["script"] (spLaw K) := by
  have e := hfa.symm.trans (PySem.W.mg_of X G a34)
  cases e
  have F1 := fun_mk (st := s_walk) l1 c1 k1
  have b1 := F1.binds (ps := ["document"]) fun _ _ _ _ _ _ us hl => match us, hl with | [_], _ => rfl
  have F2 := fun_mk (st := s_kids_in) l2 c2 k2
  have b2 := F2.binds (ps := ["node"]) fun _ _ _ _ _ _ us hl => match us, hl with | [_], _ => rfl
  have F3 := fun_mk (st := s_ids_of) l3 c3 k3
  have b3 := F3.binds (ps := ["document"]) fun _ _ _ _ _ _ us hl => match us, hl with | [_], _ => rfl
  have F4 := fun_mk (st := s_best_row) l4 c4 k4
  have b4 := F4.binds (ps := ["numbers"]) fun _ _ _ _ _ _ us hl => match us, hl with | [_], _ => rfl
  have F5 := fun_mk (st := s_lengths_from) l5 c5 k5
  have b5 := F5.binds (ps := ["numbers"]) fun _ _ _ _ _ _ us hl => match us, hl with | [_], _ => rfl
  have F6 := fun_mk (st := s_count_above) l6 c6 k6
  have b6 := F6.binds (ps := ["firsts", "number"]) fun _ _ _ _ _ _ us hl => match us, hl with | [_, _], _ => rfl
  have F7 := fun_mk (st := s_are_alike) l7 c7 k7
  have b7 := F7.binds (ps := ["old", "new"]) fun _ _ _ _ _ _ us hl => match us, hl with | [_, _], _ => rfl
  have F8 := fun_mk (st := s_partners_of) l8 c8 k8
  have b8 := F8.binds (ps := ["old", "new"]) fun _ _ _ _ _ _ us hl => match us, hl with | [_, _], _ => rfl
  have F9 := fun_mk (st := s_kept_ids) l9 c9 k9
  have b9 := F9.binds (ps := ["old", "new"]) fun _ _ _ _ _ _ us hl => match us, hl with | [_, _], _ => rfl
  have F10 := fun_mk (st := s_patch) l10 c10 k10
  have b10 := F10.binds (ps := ["old", "new"]) fun _ _ _ _ _ _ us hl => match us, hl with | [_, _], _ => rfl
  have F11 := fun_mk (st := s_removals) l11 c11 k11
  have b11 := F11.binds (ps := ["parent", "old", "new"]) fun _ _ _ _ _ _ us hl => match us, hl with | [_, _, _], _ => rfl
  have F12 := fun_mk (st := s_changes) l12 c12 k12
  have b12 := F12.binds (ps := ["parent", "old", "new"]) fun _ _ _ _ _ _ us hl => match us, hl with | [_, _, _], _ => rfl
  have F13 := fun_mk (st := s_own_changes) l13 c13 k13
  have b13 := F13.binds (ps := ["old", "new"]) fun _ _ _ _ _ _ us hl => match us, hl with | [_, _], _ => rfl
  have F14 := fun_mk (st := s_placings) l14 c14 k14
  have b14 := F14.binds (ps := ["parent", "kept", "new"]) fun _ _ _ _ _ _ us hl => match us, hl with | [_, _, _], _ => rfl
  have F15 := fun_mk (st := s_is_careful) l15 c15 k15
  have b15 := F15.binds (ps := ["old", "new", "operations"]) fun _ _ _ _ _ _ us hl => match us, hl with | [_, _, _], _ => rfl
  have F16 := fun_mk (st := s__law_cell) l16 c16 k16
  have b16 := F16.binds (ps := ["script", "k"]) fun _ _ _ _ _ _ us hl => match us, hl with | [_, _], _ => rfl
  have F17 := fun_mk (st := s__law_start) l17 c17 k17
  have b17 := F17.binds (ps := ["cell", "k"]) fun _ _ _ _ _ _ us hl => match us, hl with | [_, _], _ => rfl
  have F18 := fun_mk (st := s__law_digit) l18 c18 k18
  have b18 := F18.binds (ps := ["state", "many"]) fun _ _ _ _ _ _ us hl => match us, hl with | [_, _], _ => rfl
  have F19 := fun_mk (st := s__law_word) l19 c19 k19
  have b19 := F19.binds (ps := ["state"]) fun _ _ _ _ _ _ us hl => match us, hl with | [_], _ => rfl
  have F20 := fun_mk (st := s__law_attributes) l20 c20 k20
  have b20 := F20.binds (ps := ["state"]) fun _ _ _ _ _ _ us hl => match us, hl with | [_], _ => rfl
  have F21 := fun_mk (st := s__law_node) l21 c21 k21
  have b21 := F21.binds (ps := ["state", "levels", "pool"]) fun _ _ _ _ _ _ us hl => match us, hl with | [_, _, _], _ => rfl
  have F22 := fun_mk (st := s__law_pool) l22 c22 k22
  have b22 := F22.binds (ps := ["state", "many"]) fun _ _ _ _ _ _ us hl => match us, hl with | [_, _], _ => rfl
  have F23 := fun_mk (st := s__law_document) l23 c23 k23
  have b23 := F23.binds (ps := ["state", "many", "levels"]) fun _ _ _ _ _ _ us hl => match us, hl with | [_, _, _], _ => rfl
  have F24 := fun_mk (st := s__law_below) l24 c24 k24
  have b24 := F24.binds (ps := ["node"]) fun _ _ _ _ _ _ us hl => match us, hl with | [_], _ => rfl
  have F25 := fun_mk (st := s__law_flat) l25 c25 k25
  have b25 := F25.binds (ps := ["document", "parent", "level"]) fun _ _ _ _ _ _ us hl => match us, hl with | [_, _, _], _ => rfl
  have F26 := fun_mk (st := s__law_ids) l26 c26 k26
  have b26 := F26.binds (ps := ["document"]) fun _ _ _ _ _ _ us hl => match us, hl with | [_], _ => rfl
  have F27 := fun_mk (st := s__law_partner) l27 c27 k27
  have b27 := F27.binds (ps := ["kids", "node"]) fun _ _ _ _ _ _ us hl => match us, hl with | [_, _], _ => rfl
  have F28 := fun_mk (st := s__law_kept) l28 c28 k28
  have b28 := F28.binds (ps := ["old", "new"]) fun _ _ _ _ _ _ us hl => match us, hl with | [_, _], _ => rfl
  have F29 := fun_mk (st := s__law_turned) l29 c29 k29
  have b29 := F29.binds (ps := ["state", "document", "levels"]) fun _ _ _ _ _ _ us hl => match us, hl with | [_, _, _], _ => rfl
  have F30 := fun_mk (st := s__law_fresh) l30 c30 k30
  have b30 := F30.binds (ps := ["state", "document", "first"]) fun _ _ _ _ _ _ us hl => match us, hl with | [_, _, _], _ => rfl
  have F31 := fun_mk (st := s__law_pair) l31 c31 k31
  have b31 := F31.binds (ps := ["script", "k"]) fun _ _ _ _ _ _ us hl => match us, hl with | [_, _], _ => rfl
  have F32 := fun_mk (st := s__law_careful) l32 c32 k32
  have b32 := F32.binds (ps := ["old", "new", "operations"]) fun _ _ _ _ _ _ us hl => match us, hl with | [_, _, _], _ => rfl
  have F33 := fun_mk (st := s__law_operation) l33 c33 k33
  have b33 := F33.binds (ps := ["state", "old", "new"]) fun _ _ _ _ _ _ us hl => match us, hl with | [_, _, _], _ => rfl
  have T : Txt K w mg ⟨()⟩ := {
    z_abs := PySem.W.mg_none_of X G z_abs,
    z_any := PySem.W.mg_none_of X G z_any,
    z_bool := PySem.W.mg_none_of X G z_bool,
    z_dict := PySem.W.mg_none_of X G z_dict,
    z_enumerate := PySem.W.mg_none_of X G z_enumerate,
    z_int := PySem.W.mg_none_of X G z_int,
    z_isinstance := PySem.W.mg_none_of X G z_isinstance,
    z_len := PySem.W.mg_none_of X G z_len,
    z_max := PySem.W.mg_none_of X G z_max,
    z_min := PySem.W.mg_none_of X G z_min,
    z_range := PySem.W.mg_none_of X G z_range,
    z_reversed := PySem.W.mg_none_of X G z_reversed,
    z_tuple := PySem.W.mg_none_of X G z_tuple,
    z_zip := PySem.W.mg_none_of X G z_zip,
    d_walk := ⟨_, _, F1, PySem.W.mg_of X G a1, b1⟩,
    d_kids_in := ⟨_, _, F2, PySem.W.mg_of X G a2, b2⟩,
    d_ids_of := ⟨_, _, F3, PySem.W.mg_of X G a3, b3⟩,
    d_best_row := ⟨_, _, F4, PySem.W.mg_of X G a4, b4⟩,
    d_lengths_from := ⟨_, _, F5, PySem.W.mg_of X G a5, b5⟩,
    d_count_above := ⟨_, _, F6, PySem.W.mg_of X G a6, b6⟩,
    d_are_alike := ⟨_, _, F7, PySem.W.mg_of X G a7, b7⟩,
    d_partners_of := ⟨_, _, F8, PySem.W.mg_of X G a8, b8⟩,
    d_kept_ids := ⟨_, _, F9, PySem.W.mg_of X G a9, b9⟩,
    d_patch := ⟨_, _, F10, PySem.W.mg_of X G a10, b10⟩,
    d_removals := ⟨_, _, F11, PySem.W.mg_of X G a11, b11⟩,
    d_changes := ⟨_, _, F12, PySem.W.mg_of X G a12, b12⟩,
    d_own_changes := ⟨_, _, F13, PySem.W.mg_of X G a13, b13⟩,
    d_placings := ⟨_, _, F14, PySem.W.mg_of X G a14, b14⟩,
    d_is_careful := ⟨_, _, F15, PySem.W.mg_of X G a15, b15⟩,
    d__law_cell := ⟨_, _, F16, PySem.W.mg_of X G a16, b16⟩,
    d__law_start := ⟨_, _, F17, PySem.W.mg_of X G a17, b17⟩,
    d__law_digit := ⟨_, _, F18, PySem.W.mg_of X G a18, b18⟩,
    d__law_word := ⟨_, _, F19, PySem.W.mg_of X G a19, b19⟩,
    d__law_attributes := ⟨_, _, F20, PySem.W.mg_of X G a20, b20⟩,
    d__law_node := ⟨_, _, F21, PySem.W.mg_of X G a21, b21⟩,
    d__law_pool := ⟨_, _, F22, PySem.W.mg_of X G a22, b22⟩,
    d__law_document := ⟨_, _, F23, PySem.W.mg_of X G a23, b23⟩,
    d__law_below := ⟨_, _, F24, PySem.W.mg_of X G a24, b24⟩,
    d__law_flat := ⟨_, _, F25, PySem.W.mg_of X G a25, b25⟩,
    d__law_ids := ⟨_, _, F26, PySem.W.mg_of X G a26, b26⟩,
    d__law_partner := ⟨_, _, F27, PySem.W.mg_of X G a27, b27⟩,
    d__law_kept := ⟨_, _, F28, PySem.W.mg_of X G a28, b28⟩,
    d__law_turned := ⟨_, _, F29, PySem.W.mg_of X G a29, b29⟩,
    d__law_fresh := ⟨_, _, F30, PySem.W.mg_of X G a30, b30⟩,
    d__law_pair := ⟨_, _, F31, PySem.W.mg_of X G a31, b31⟩,
    d__law_careful := ⟨_, _, F32, PySem.W.mg_of X G a32, b32⟩,
    d__law_operation := ⟨_, _, F33, PySem.W.mg_of X G a33, b33⟩ }
  exact ⟨_, fun s v => .of_eq rfl, fun base _ _ => ok_law (fun_mk (st := s_law) l34 c34 k34) T⟩
theorem walk {l : PySem.W.OpenLaw} {q : Program} {loose : List Str} {XP : (Str → Option Value) → Heap → Prop} {YP : World → Heap → Prop} {d : DefRec} {K : Params → PySem.W.Frag} (hn : l.most = some 63) (hdf : d.params.defaults = [])
    (hY : ∀ (w : World) (h : Heap), YP w h → (K w.params).In h)
    (F : ∀ (w : World) (mg : Str → Option Value) (fa : Addr) (h : Heap), (K w.params).In h → h.Ns mainGlobals mg → mg d.name = some (.ref fa) →
      ∃ fd : FuncData, (∀ (s : Shared) (u : Value), BindsTo s fd ⟨[u], []⟩ [("script", u)]) ∧ ∀ base : Heap, (K w.params).In base → base.Ns mainGlobals mg → FnOk l.prog w (K w.params) mg base CX0 60 fa fd ["script"] (spLaw (K w.params))) :
    PySem.W.WalkO q loose XP YP l.row.toRowW d [] (fun f vs => PySem.call f vs) :=
  L2.walk_of (n := 63) (k := 60) (x := "script") (CX := fun _ => CX0) (sp := fun w => spLaw (K w.params)) hn (by decide) hdf ⟨rfl, by decide, by decide⟩ hY F (fun _ _ a ns hl _ hS => ⟨a, ns, rfl, hS, hl, fun _ => rfl⟩) fun _ _ _ _ _ z => z
end VL

open PySem PySem.W PyProof.Rows in
set_option maxRecDepth 100000 in
set_option maxHeartbeats 0 in
set_option pp.maxSteps 60 in
theorem PySem.Challenge.cw_viewloom_k32_careful_lists_holds : PySem.Challenge.rw_viewloom_k32_careful_lists.Holds := by
  w_on; o_law; k_head; (case hw => w_witness2)
  k_fill
  refine VL.walk (l := PySem.Challenge.rw_viewloom_k32_careful_lists) rfl rfl (fun w h Y => PySem.W.kIn_of Y) ?F
  case F =>
    intro w mg fa h KX G hmg
    refine' VL.all_mk KX G hmg ?z_abs ?z_any ?z_bool ?z_dict ?z_enumerate ?z_int ?z_isinstance ?z_len ?z_max ?z_min ?z_range ?z_reversed ?z_tuple ?z_zip ?a1 ?l1 ?c1 ?k1 ?a2 ?l2 ?c2 ?k2 ?a3 ?l3 ?c3 ?k3 ?a4 ?l4 ?c4 ?k4 ?a5 ?l5 ?c5 ?k5 ?a6 ?l6 ?c6 ?k6 ?a7 ?l7 ?c7 ?k7 ?a8 ?l8 ?c8 ?k8 ?a9 ?l9 ?c9 ?k9 ?a10 ?l10 ?c10 ?k10 ?a11 ?l11 ?c11 ?k11 ?a12 ?l12 ?c12 ?k12 ?a13 ?l13 ?c13 ?k13 ?a14 ?l14 ?c14 ?k14 ?a15 ?l15 ?c15 ?k15 ?a16 ?l16 ?c16 ?k16 ?a17 ?l17 ?c17 ?k17 ?a18 ?l18 ?c18 ?k18 ?a19 ?l19 ?c19 ?k19 ?a20 ?l20 ?c20 ?k20 ?a21 ?l21 ?c21 ?k21 ?a22 ?l22 ?c22 ?k22 ?a23 ?l23 ?c23 ?k23 ?a24 ?l24 ?c24 ?k24 ?a25 ?l25 ?c25 ?k25 ?a26 ?l26 ?c26 ?k26 ?a27 ?l27 ?c27 ?k27 ?a28 ?l28 ?c28 ?k28 ?a29 ?l29 ?c29 ?k29 ?a30 ?l30 ?c30 ?k30 ?a31 ?l31 ?c31 ?k31 ?a32 ?l32 ?c32 ?k32 ?a33 ?l33 ?c33 ?k33 ?a34 ?l34 ?c34 ?k34
    (case z_abs => k_is)
    (case z_any => k_is)
    (case z_bool => k_is)
    (case z_dict => k_is)
    (case z_enumerate => k_is)
    (case z_int => k_is)
    (case z_isinstance => k_is)
    (case z_len => k_is)
    (case z_max => k_is)
    (case z_min => k_is)
    (case z_range => k_is)
    (case z_reversed => k_is)
    (case z_tuple => k_is)
    (case z_zip => k_is)
    (case a1 => k_is)
    (case l1 => k_is)
    (case c1 => k_is)
    (case k1 => k_is)
    (case a2 => k_is)
    (case l2 => k_is)
    (case c2 => k_is)
    (case k2 => k_is)
    (case a3 => k_is)
    (case l3 => k_is)
    (case c3 => k_is)
    (case k3 => k_is)
    (case a4 => k_is)
    (case l4 => k_is)
    (case c4 => k_is)
    (case k4 => k_is)
    (case a5 => k_is)
    (case l5 => k_is)
    (case c5 => k_is)
    (case k5 => k_is)
    (case a6 => k_is)
    (case l6 => k_is)
    (case c6 => k_is)
    (case k6 => k_is)
    (case a7 => k_is)
    (case l7 => k_is)
    (case c7 => k_is)
    (case k7 => k_is)
    (case a8 => k_is)
    (case l8 => k_is)
    (case c8 => k_is)
    (case k8 => k_is)
    (case a9 => k_is)
    (case l9 => k_is)
    (case c9 => k_is)
    (case k9 => k_is)
    (case a10 => k_is)
    (case l10 => k_is)
    (case c10 => k_is)
    (case k10 => k_is)
    (case a11 => k_is)
    (case l11 => k_is)
    (case c11 => k_is)
    (case k11 => k_is)
    (case a12 => k_is)
    (case l12 => k_is)
    (case c12 => k_is)
    (case k12 => k_is)
    (case a13 => k_is)
    (case l13 => k_is)
    (case c13 => k_is)
    (case k13 => k_is)
    (case a14 => k_is)
    (case l14 => k_is)
    (case c14 => k_is)
    (case k14 => k_is)
    (case a15 => k_is)
    (case l15 => k_is)
    (case c15 => k_is)
    (case k15 => k_is)
    (case a16 => k_is)
    (case l16 => k_is)
    (case c16 => k_is)
    (case k16 => k_is)
    (case a17 => k_is)
    (case l17 => k_is)
    (case c17 => k_is)
    (case k17 => k_is)
    (case a18 => k_is)
    (case l18 => k_is)
    (case c18 => k_is)
    (case k18 => k_is)
    (case a19 => k_is)
    (case l19 => k_is)
    (case c19 => k_is)
    (case k19 => k_is)
    (case a20 => k_is)
    (case l20 => k_is)
    (case c20 => k_is)
    (case k20 => k_is)
    (case a21 => k_is)
    (case l21 => k_is)
    (case c21 => k_is)
    (case k21 => k_is)
    (case a22 => k_is)
    (case l22 => k_is)
    (case c22 => k_is)
    (case k22 => k_is)
    (case a23 => k_is)
    (case l23 => k_is)
    (case c23 => k_is)
    (case k23 => k_is)
    (case a24 => k_is)
    (case l24 => k_is)
    (case c24 => k_is)
    (case k24 => k_is)
    (case a25 => k_is)
    (case l25 => k_is)
    (case c25 => k_is)
    (case k25 => k_is)
    (case a26 => k_is)
    (case l26 => k_is)
    (case c26 => k_is)
    (case k26 => k_is)
    (case a27 => k_is)
    (case l27 => k_is)
    (case c27 => k_is)
    (case k27 => k_is)
    (case a28 => k_is)
    (case l28 => k_is)
    (case c28 => k_is)
    (case k28 => k_is)
    (case a29 => k_is)
    (case l29 => k_is)
    (case c29 => k_is)
    (case k29 => k_is)
    (case a30 => k_is)
    (case l30 => k_is)
    (case c30 => k_is)
    (case k30 => k_is)
    (case a31 => k_is)
    (case l31 => k_is)
    (case c31 => k_is)
    (case k31 => k_is)
    (case a32 => k_is)
    (case l32 => k_is)
    (case c32 => k_is)
    (case k32 => k_is)
    (case a33 => k_is)
    (case l33 => k_is)
    (case c33 => k_is)
    (case k33 => k_is)
    (case a34 => k_is)
    (case l34 => k_is)
    (case c34 => k_is)
    (case k34 => k_is)
#print axioms PySem.Challenge.cw_viewloom_k32_careful_lists_holds
