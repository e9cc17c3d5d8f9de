import PyProof.Rows.All
import Wide.All
import OpenK.AllK
import Wide.FinOn
import HandS.ForMost
import HandS.More
import HandS.Codes
import HandS.Ends
import PyProof.ReprRoads
import PyProof.ReprReads
import PyProof.RowDictHeap
import HandS.DictComp
import HandS.Walk
import HandS.Defaults
import HandS.Property
import HandS.ClsMeth
import HandS.ExcIs
import HandS.RaiseMore
import HandS.ForExc
import HandS.IsInst
import HandS.DeepEq
import HandS.Deep
import HandS.StrMore
import PyProof.DictUpdate
import PyProof.DictDisplay
import HandS.OwnEq
import PyProof.InstEq
import HandS.GenOver
import HandS.GenList
import HandS.Comp
import KE.KDictPairs
import HandS.Rev
import HandS.Nested
import HandS.ExcInit
import KE.KSuper
import KE.KExcSuper
import HandS.ExcField
import HandS.FStr
import KE.KExcIs
import HandS.ExcOwn
import HandS.HotCalls
import HandS.TupLe
import HandS.Wide
import KE.KOwnIter
import KE.KDictIter
import KE.DataEq
import KE.GoesEnum
import HandS.SortRule
import HandS.DictTup
import HandS.ListItems
import KE.KSortTupAny
import KE.KEqDict
import HandS.Steps
import HandS.Style
import HandS.Zip
import HandS.TupAny
import PySem.Challenge.RW_viewloom_k29_operations_made
set_option Elab.async false
set_option linter.all false
set_option maxRecDepth 100000
set_option maxHeartbeats 4000000
namespace VL
open PySem PySem.Spec PyProof.Rows L2

/-! ### defs, methods, classes, as callers see them -/
structure Cal (P : Program) (w : World) (K : PySem.W.Frag) (mg : Str → Option Value) (base : Heap) (k : Nat) (x : Str) (sp : Sp) : Prop where
  ex : ∃ (f : Addr) (fd : FuncData) (ps : List Str), FnOk P w K mg base CX0 k f fd ps sp ∧ mg x = some (.ref f) ∧ PySem.W.keepIn K (.ref f) = true ∧ Binds K fd ps []
structure Met (P : Program) (w : World) (K : PySem.W.Frag) (mg : Str → Option Value) (base : Heap) (k : Nat) (C : Addr) (m : Str) (sp : Sp) : Prop where
  ex : ∃ (f : Addr) (fd : FuncData) (ps : List Str), Cls K C ∧ Meth K C m f ∧ FnOk P w K mg base CX0 k f fd ps sp ∧ Binds K fd ps []
structure Mak (P : Program) (w : World) (K : PySem.W.Frag) (mg : Str → Option Value) (base : Heap) (k : Nat) (x : Str) (C : Addr) (sp : Sp) : Prop where
  ex : ∃ (f : Addr) (fd : FuncData) (ps : List Str), Mk K C f ∧ FnOk P w K mg base CX0 k f fd ps sp ∧ mg x = some (.ref C) ∧ Binds K fd ps []
section
variable {X : Cx} {k j : Nat} {C : Addr} {x m : Str} {sp : Sp} {p pos apos : Pos} {e o : Expr} {es : List Expr} {ta : TE} {t : TA}
theorem pe_c (c : Cal X.prog X.w X.K X.mg X.base k x sp) (hr : Room j X.A) (hk : k ≤ j) (hg : Gl X x) (ha : PA X (e :: es) t)
    (hdb : (x == ("__debug__" : Str)) = false := by decide) (he : starEach (e :: es) X.env = (false, eval e X.env) :: starEach es X.env := by rfl) (hpl : (backTo pos (starEach es X.env)).any (·.1) = false := by rfl) :
    PE X (.Call (.Name x p) (e :: es) [] pos) (tCall sp [] E0 t) := by
  obtain ⟨f, fd, ps, F, hm, kp, b⟩ := c.ex
  exact pe_call F (hr.mono hk) hg hm kp b .nil pass0 ha hdb he hpl
theorem pe_mk (c : Mak X.prog X.w X.K X.mg X.base k x C sp) (hr : Room j X.A) (hk : k + 1 ≤ j) (hg : Gl X x) (ha : PA X (e :: es) t)
    (hdb : (x == ("__debug__" : Str)) = false := by decide) (he : starEach (e :: es) X.env = (false, eval e X.env) :: starEach es X.env := by rfl) (hpl : (backTo pos (starEach es X.env)).any (·.1) = false := by rfl) :
    PE X (.Call (.Name x p) (e :: es) [] pos) (tMake C sp [] E0 t) := by
  obtain ⟨f, fd, ps, M, F, hm, b⟩ := c.ex
  exact pe_make M F (hr.mono hk) hg hm b .nil pass0 ha hdb he hpl
theorem pe_mk0 (c : Mak X.prog X.w X.K X.mg X.base k x C sp) (hr : Room j X.A) (hk : k + 1 ≤ j) (hg : Gl X x) (hdb : (x == ("__debug__" : Str)) = false := by decide) :
    PE X (.Call (.Name x p) [] [] pos) (tMake C sp [] E0 tNil) := by
  obtain ⟨f, fd, ps, M, F, hm, b⟩ := c.ex
  exact pe_make0 M F (hr.mono hk) hg hm b .nil pass0 hdb
theorem pe_mt {pl : Sem Bool} (c : Met X.prog X.w X.K X.mg X.base k C m sp) (hr : Room j X.A) (hk : k ≤ j) (he : PE X o ta) (ha : PA X (e :: es) t)
    (hst : starEach (e :: es) X.env = (false, eval e X.env) :: starEach es X.env := by rfl) (hpl : (backTo pos (starEach es X.env)).any (·.1) = false := by rfl)
    (ht : eval (.Call (.Attribute o m apos) (e :: es) [] pos) X.env = (do
      let ov ← eval o X.env
      standAt apos.atName
      let (f, first) ← holding [ov] (getMethod ov m pl)
      callWith pos f first (backTo pos (starEach (e :: es) X.env)) (backToKw pos (keywordEach [] X.env))) := by rfl) :
    PE X (.Call (.Attribute o m apos) (e :: es) [] pos) (tMeth C m sp [] E0 ta t) := by
  obtain ⟨f, fd, ps, hc, hm, F, b⟩ := c.ex
  exact pe_meth (pl := pl) he hc hm F (hr.mono hk) b .nil pass0 ha hst hpl ht
theorem pe_mt0 {pl : Sem Bool} (c : Met X.prog X.w X.K X.mg X.base k C m sp) (hr : Room j X.A) (hk : k ≤ j) (he : PE X o ta)
    (ht : eval (.Call (.Attribute o m apos) [] [] pos) X.env = (do
      let ov ← eval o X.env
      standAt apos.atName
      let (f, first) ← holding [ov] (getMethod ov m pl)
      callWith pos f first (backTo pos (starEach [] X.env)) (backToKw pos (keywordEach [] X.env))) := by rfl) :
    PE X (.Call (.Attribute o m apos) [] [] pos) (tMeth C m sp [] E0 ta tNil) := by
  obtain ⟨f, fd, ps, hc, hm, F, b⟩ := c.ex
  exact pe_meth0 (pl := pl) he hc hm F (hr.mono hk) b .nil pass0 ht
end

/-! ### what the text has -/
def DefE (K : PySem.W.Frag) (mg : Str → Option Value) (x : Str) (st : Stmt) (ps : List Str) : Prop := ∃ (f : Addr) (fd : FuncData), Fun K x x st f fd ∧ mg x = some (.ref f) ∧ Binds K fd ps []
def MethE (K : PySem.W.Frag) (C : Addr) (x qual : Str) (st : Stmt) (ps : List Str) : Prop := ∃ (f : Addr) (fd : FuncData), Fun K x qual st f fd ∧ Meth K C x f ∧ Binds K fd ps []
def InitE (K : PySem.W.Frag) (mg : Str → Option Value) (cn : Str) (C : Addr) (qual : Str) (st : Stmt) (ps : List Str) : Prop := ∃ (f : Addr) (fd : FuncData), Fun K "__init__" qual st f fd ∧ Mk K C f ∧ mg cn = some (.ref C) ∧ Binds K fd ps []
/-- a global name of the module has the value v -/
abbrev GV (mg : Str → Option Value) (x : Str) (v : V) : Prop := ∃ u, mg x = some u ∧ RelV v u
section
variable {P : Program} {w : World} {K : PySem.W.Frag} {mg : Str → Option Value} {base : Heap}
theorem cal_of {x : Str} {st : Stmt} {ps N : List Str} {k : Nat} {sp : Sp} (D : DefE K mg x st ps) (S : FnScope N ps (defScope st)) (len : ∀ vs H Q E, sp vs H Q E → vs.length = ps.length)
    (hbody : ∀ (f : Addr) (cdv : Value) (A : Around) (outer : List Env) (s : Shared) (H : Hp) (vs : List V) (Q : VK) (E : XK), Room k (A.deeper (envOfC x (defScope st) s.heap.objs.size f cdv)) → sp vs H Q E →
      ∃ t, PSs (cxOf CX0 P w K mg base N x (defScope st) f cdv A outer s H E).nox (defBody st) t ∧ t { nx := fun _ H' => Q .non H', rt := Q } (start N vs) H) : Cal P w K mg base (k + 1) x sp := by
  obtain ⟨f, fd, F, hm, b⟩ := D
  exact ⟨f, fd, ps, F.ok S len (hbody f), hm, F.kp, b⟩
theorem met_of {C : Addr} {x qual : Str} {st : Stmt} {ps N : List Str} {k : Nat} {sp : Sp} (D : MethE K C x qual st ps) (c : Cls K C) (S : FnScope N ps (defScope st)) (len : ∀ vs H Q E, sp vs H Q E → vs.length = ps.length)
    (hbody : ∀ (f : Addr) (cdv : Value) (A : Around) (outer : List Env) (s : Shared) (H : Hp) (vs : List V) (Q : VK) (E : XK), Room k (A.deeper (envOfC qual (defScope st) s.heap.objs.size f cdv)) → sp vs H Q E →
      ∃ t, PSs (cxOf CX0 P w K mg base N qual (defScope st) f cdv A outer s H E).nox (defBody st) t ∧ t { nx := fun _ H' => Q .non H', rt := Q } (start N vs) H) : Met P w K mg base (k + 1) C x sp := by
  obtain ⟨f, fd, F, hm, b⟩ := D
  exact ⟨f, fd, ps, c, hm, F.ok S len (hbody f), b⟩
theorem mak_of {C : Addr} {cn qual : Str} {st : Stmt} {ps N : List Str} {k : Nat} {sp : Sp} (D : InitE K mg cn C qual st ps) (S : FnScope N ps (defScope st)) (len : ∀ vs H Q E, sp vs H Q E → vs.length = ps.length)
    (hbody : ∀ (f : Addr) (cdv : Value) (A : Around) (outer : List Env) (s : Shared) (H : Hp) (vs : List V) (Q : VK) (E : XK), Room k (A.deeper (envOfC qual (defScope st) s.heap.objs.size f cdv)) → sp vs H Q E →
      ∃ t, PSs (cxOf CX0 P w K mg base N qual (defScope st) f cdv A outer s H E).nox (defBody st) t ∧ t { nx := fun _ H' => Q .non H', rt := Q } (start N vs) H) : Mak P w K mg base (k + 1) cn C sp := by
  obtain ⟨f, fd, F, M, hm, b⟩ := D
  exact ⟨f, fd, ps, M, F.ok S len (hbody f), hm, b⟩
end
theorem ps_str_loc : True := trivial
end VL

set_option Elab.async false
set_option linter.all false
set_option maxRecDepth 100000
set_option maxHeartbeats 4000000
namespace VL
open PySem PySem.Spec PyProof.Rows L2

/-! ### a def that is called where nothing is being shown: the law's own; repr of nested data there -/
structure FnG (P : Program) (w : World) (K : PySem.W.Frag) (mg : Str → Option Value) (base : Heap) (k : Nat) (f : Addr) (fd : FuncData) (ps : List Str) (sp : Sp) : Prop where
  run : ∀ (A : Around) (outer : List Env) (s : Shared) (H : Hp) (args : Args) (us : List Value) (vs : List V) (Q : VK) (E : XK), A.guards = some [] → Room k A → Env0 P w K mg base A outer s H → BindsTo s fd args (ps.zip us) → Vals vs us → sp vs H Q E →
    codeAny (model P w) A (.call (.ref f) args) (CR CX0 outer P w H s Q E) s
theorem fnG_of {P : Program} {w : World} {K : PySem.W.Frag} {mg : Str → Option Value} {base : Heap} {x qual : Str} {st : Stmt} {f : Addr} {fd : FuncData} {N ps : List Str} {k : Nat} {sp : Sp} (F : Fun K x qual st f fd) (S : FnScope N ps (defScope st)) (len : ∀ vs H Q E, sp vs H Q E → vs.length = ps.length)
    (hb0 : ∀ (cdv : Value) (A : Around) (outer : List Env) (s : Shared) (H : Hp) (vs : List V) (Q : VK) (E : XK), A.guards = some [] → Room k (A.deeper (envOfC qual (defScope st) s.heap.objs.size f cdv)) → sp vs H Q E →
      ∃ t, PSs (cxOf CX0 P w K mg base N qual (defScope st) f cdv A outer s H E).nox (defBody st) t ∧ t { nx := fun _ H' => Q .non H', rt := Q } (start N vs) H) : FnG P w K mg base (k + 1) f fd ps sp := by
  obtain ⟨oc, od, kV, doc, pm, an, cdv, ct, osl, rfl, lk, hcd⟩ := F.ex
  refine ⟨fun A outer s H args us vs Q E gd hr en hb rv hsp => ?_⟩
  have hlen := len _ _ _ _ hsp
  have kin : K.In s.heap := en.mod.kin.keeps fun b o e => (en.bs b o e).1
  have nl : s.heap.NoLimit := en.mod.nolimit.keeps fun b o e => (en.bs b o e).1
  have kinds : ∀ y ∈ ps.zip us, (defScope st).names.lookup y.1 = some .local ∨ ((defScope st).names.lookup y.1 = some .cell ∧ ((cellsFrom (s.heap.objs.size + 1) (defScope st).names []).lookup y.1).isSome = true) := fun ⟨n, v⟩ hy => by
    rcases S.par n (List.of_mem_zip hy).1 with c | c
    · exact .inl c
    · exact .inr ⟨c, PySem.W.cellsFrom_some _ _ _ (.inl c)⟩
  refine codeAny_call_function hr.depth (kin _ _ lk) rfl S.co S.gen rfl (PySem.W.codeRec_of kin hcd) (hb _ _ _ _ ?_)
  refine wpAny_newFunctionEnv_cells S.kind kinds fun env he s1 ic => ?_
  subst he
  refine ⟨nl.keeps ic.toInCall.keep, codeAny_func ?_⟩
  obtain ⟨t, hd, hq⟩ := hb0 cdv A outer s H vs Q E gd (hr.deeper _) hsp
  have J0 : Inv (cxOf CX0 P w K mg base N qual (defScope st) f cdv A outer s H E) [] (start N vs) H s1 := inv_start S hr.hd en hlen rv ic
  refine wpAny_mono (hd.nox.run [] s1 (start N vs) H _ J0 hq) (fun fl s2 hs => ?_) fun e s2 hs => hs
  have done : ∀ {σ2 : L2.St} {H2 : Hp} {v : V} {u : Value}, Inv (cxOf CX0 P w K mg base N qual (defScope st) f cdv A outer s H E) [] σ2 H2 s2 → RelV v u → Q v H2 → CE outer P w H s Q u s2 :=
    fun {σ2 H2 v u} J rw q => ⟨v, H2, J.os, J.bare, J.base, J.hok, rw, q⟩
  cases fl with
  | ret u =>
    obtain ⟨v, σ2, H2, J, rw, q⟩ := hs
    exact done J rw q
  | next =>
    obtain ⟨σ2, H2, J, q⟩ := hs
    exact done (v := V.non) (u := Value.none) J rfl q
  | brk => exact hs.elim fun _ z => z.elim fun _ z => z.2.elim
  | cont => exact hs.elim fun _ z => z.elim fun _ z => z.2.elim
/-- the law's call, where nothing is being shown -/
theorem law_callG {P : Program} {w : World} {K : PySem.W.Frag} {mg mb : Str → Option Value} {k : Nat} {fa a : Addr} {fd : FuncData} {x : Str} {sp : Sp} {s₁ : Shared} {vs : List Value} {ns : List Int}
    (kin : K.In s₁.heap) (ng : s₁.heap.Ns mainGlobals mg) (nb : s₁.heap.Ns builtinsNs mb) (bb : ∀ x : Str, x ≠ "__name__" → mb x = bootBuiltins x) (nl : s₁.heap.NoLimit) (hgen : s₁.gens = #[])
    (ea : s₁.heap.get? a = some { cls := .type "list", data := .seq vs.toArray }) (hi : IntsAre vs ns) (hz : ns.length ≤ sizeLine) (hr : Room k callerA)
    (F : ∀ base : Heap, K.In base → base.Ns mainGlobals mg → FnG P w K mg base k fa fd [x] sp) (hbind : ∀ (s : Shared) (u : Value), BindsTo s fd ⟨[u], []⟩ [(x, u)])
    (hsp : ∀ H : Hp, Only H → SqL K H a (ns.map V.int) → sp [.ref a] H (fun v _ => v = .bl true) fun _ _ _ => False) :
    codeAny (model P w) callerA (.call (.ref fa) ⟨[.ref a], []⟩) (fun r s2 => r = .ok (.ret (.bool true)) ∧ OldK s₁.heap s2.heap ∧ s2.os = s₁.os ∧ AllBare s2.gens) s₁ := by
  have rel := vals_ints hi
  have lv := hi.length
  have go : ∀ H : Hp, Only H → SqL K H a (ns.map V.int) → HOk P w H s₁.heap → (∀ b, H b ≠ none → b = a) → (H a ≠ none → K.lookup a = none) →
      codeAny (model P w) callerA (.call (.ref fa) ⟨[.ref a], []⟩) (fun r s2 => r = .ok (.ret (.bool true)) ∧ OldK s₁.heap s2.heap ∧ s2.os = s₁.os ∧ AllBare s2.gens) s₁ := by
    intro H ho hq ok only out
    have low : ∀ {b : Addr} {o : Obj}, s₁.heap.get? b = some o → H b = none → (hidT s₁.heap H).get? b = some o := fun e n => hidT_get e n
    have nod : ∀ {b : Addr} {o : Obj} {es : Array DictEntry} {ep : Nat}, s₁.heap.get? b = some o → o.data = .dict es ep → H b = none := fun {b o es ep} e d => by
      cases c : H b with
      | none => rfl
      | some u =>
        obtain rfl : b = a := only b (by rw [c]; simp)
        rw [ea] at e
        cases e
        exact nomatch (show Data.seq vs.toArray _ = Data.dict es ep from d)
    have nsl : ∀ {b : Addr} {m : Str → Option Value}, s₁.heap.Ns b m → (hidT s₁.heap H).Ns b m := fun {b m} ⟨o, es, ep, e, d, r⟩ => ⟨o, es, ep, low e (nod e d), d, r⟩
    have kl : K.In (hidT s₁.heap H) := fun b o e => low (kin b o e) (by
      cases c : H b with
      | none => rfl
      | some u =>
        obtain rfl : b = a := only b (by rw [c]; simp)
        rw [out (by rw [c]; simp)] at e
        exact nomatch e)
    have md : Mod K mg (hidT s₁.heap H) := ⟨kl, nsl ng, ⟨mb, nsl nb, bb⟩, let ⟨mc, h1, h2⟩ := nl; ⟨mc, nsl h1, h2⟩⟩
    have en : Env0 P w K mg (hidT s₁.heap H) callerA [] s₁ H := ⟨rfl, md, fun b o e => of_hidT e, Nat.le_of_eq (hidT_size _ _), trivial, fun b hb => absurd (show b ∈ ([] : List Addr) from hb) (by simp), ok, .of_eq hgen⟩
    refine codeAny_mono ((F _ kl (nsl ng)).run callerA [] s₁ H ⟨[.ref a], []⟩ [.ref a] [.ref a] _ _ rfl hr en (hbind s₁ (.ref a)) (.cons rfl .nil) (hsp H ho hq)) fun r s2 h => ?_
    cases r with
    | error e => exact False.elim h
    | ok fl =>
      cases fl with
      | next => exact h.elim
      | brk => exact h.elim
      | cont => exact h.elim
      | ret u =>
        obtain ⟨v, H2, os, bare, un, ok2, r2, q⟩ := h
        obtain rfl : v = .bl true := q
        obtain rfl : u = Value.bool true := r2
        refine ⟨rfl, OldK.of_keep fun b o e => ?_, os, bare⟩
        cases c : H b with
        | none => exact un.keep b o e c (by intro z; exact absurd (show b ∈ ([] : List Addr) from z) (by simp)) (by simp)
        | some u =>
          rcases ho b with z | ⟨ob, xs, z⟩
          · exact nomatch c.symm.trans z
          · obtain ⟨e1, _⟩ := ok b _ z
            obtain ⟨e2, _⟩ := ok2 b _ (un.frzs b ob _ z)
            rw [e] at e1
            cases e1
            exact e2
  cases hk : K.lookup a with
  | some o =>
    have e := kin a o hk
    rw [ea] at e
    cases e
    exact go (fun _ => none) (fun _ => .inl rfl) (.inr ⟨_, vs.toArray, _, hk, rfl, rfl, rfl, by rw [List.size_toArray, lv]; exact hz, by simpa using rel⟩) (fun b u z => nomatch (show (none : Option HO) = some u from z)) (fun b z => absurd rfl z) fun z => absurd rfl z
  | none =>
    refine go (fun b => if b = a then some (.frz { cls := .type "list", data := .seq vs.toArray } (.lst (ns.map V.int))) else none) (fun b => ?_) (.inl (.inr ⟨{ cls := .type "list", data := .seq vs.toArray }, if_pos rfl⟩)) (fun b u z => ?_) (fun b z => ?_) fun _ => hk
    · by_cases hb : b = a
      · exact Or.inr ⟨_, _, if_pos hb⟩
      · exact Or.inl (if_neg hb)
    · by_cases hb : b = a
      · cases (if_pos hb).symm.trans z
        subst hb
        exact ⟨ea, by rw [List.length_map]; exact hz, vs, _, rel, ea⟩
      · exact nomatch (if_neg hb).symm.trans z
    · by_cases hb : b = a
      · exact hb
      · exact absurd (if_neg hb) z
theorem walk_ofG {l : PySem.W.OpenLaw} {n k : Nat} {q : Program} {loose : List Str} {XP : (Str → Option Value) → Heap → Prop} {YP : World → Heap → Prop} {d : DefRec} {K : Params → PySem.W.Frag} {sp : World → Sp} {x : Str}
    (hn : l.most = some n) (hn2 : n ≤ sizeLine) (hdf : d.params.defaults = []) (hr : Room k callerA) (hY : ∀ (w : World) (h : Heap), YP w h → (K w.params).In h)
    (F : ∀ (w : World) (mg : Str → Option Value) (fa : Addr) (h : Heap), (K w.params).In h → h.Ns mainGlobals mg → mg d.name = some (.ref fa) →
      ∃ fd : FuncData, (∀ (s : Shared) (u : Value), BindsTo s fd ⟨[u], []⟩ [(x, u)]) ∧ ∀ base : Heap, (K w.params).In base → base.Ns mainGlobals mg → FnG l.prog w (K w.params) mg base k fa fd [x] (sp w))
    (hsp : ∀ (w : World) (H : Hp) (a : Addr) (ns : List Int), ns.length ≤ n → Only H → SqL (K w.params) H a (ns.map V.int) → sp w [.ref a] H (fun v _ => v = .bl true) fun _ _ _ => False) :
    PySem.W.WalkO q loose XP YP l.row.toRowW d [] (fun f vs => PySem.call f vs) := by
  refine Att.attach_call hn hdf fun w s₀ s₁ mg mb fa o pm cd doc a vs ns G Y ho hd hcd hmg hobj hints hlen hgen => ?_
  have kin := hY w _ Y
  obtain ⟨fd, hb, hF⟩ := F w mg fa _ kin G.T.g hmg
  exact law_callG kin G.T.g G.T.b G.T.builtins G.T.nolimit hgen hobj hints (Nat.le_trans hlen hn2) hr hF hb fun H ho hq => hsp w H a ns hlen ho hq
end VL

set_option Elab.async false
set_option linter.all false
set_option maxRecDepth 100000
set_option maxHeartbeats 4000000
namespace VL
open PySem PySem.Spec PyProof.Rows L2 PyProof.V

/-! ### repr of a dict of nested data, where nothing is being shown -/
def enK : Key → PyData
  | .inl i => .int i
  | .inr x => .str x
def zipK : List (Key × V) → List PyData → List (PyData × PyData)
  | p :: ks, d :: ds => (enK p.1, d) :: zipK ks ds
  | _, _ => []
theorem zipK_vals : ∀ {ks : List (Key × V)} {ds : List PyData}, ks.length = ds.length → (zipK ks ds).map (·.2) = ds
  | [], [], _ => rfl
  | p :: ks, d :: ds, h => by
    show d :: (zipK ks ds).map (·.2) = d :: ds
    rw [zipK_vals (Nat.succ.inj h)]
theorem dpAll_len {K : PySem.W.Frag} {H : Hp} : ∀ {vs : List V} {ds : List PyData}, DpAll K H vs ds → vs.length = ds.length
  | _, _, .nil => rfl
  | _, _, .cons _ h => by simp [dpAll_len h]
section
variable {X : Cx} {pins : List (Addr × Obj)} {σ : L2.St} {H : Hp} {s : Shared}
theorem enK_reads {h : Heap} {P : Program} {w : World} (k : Key) (key : Value) (e : (mixKind P w).is k key = true) : Reads h key (enK k) [] := by
  rcases keyIs_shape (show keyIs k key = true from e) with ⟨i, t, rfl, rfl⟩ | ⟨x, t, rfl, rfl⟩
  · exact Reads.int i t
  · exact Reads.str x t
theorem pairs_read (I : Inv X pins σ H s) : ∀ {ks : List (Key × V)} {vs : List (Key × Value)} {ds : List PyData}, KV ks vs → DpAll X.K H (ks.map (·.2)) ds → ∃ bs, PairsRead s.heap enK vs (zipK ks ds) bs
  | [], _, _, r, h => by
    cases r
    exact ⟨[], by unfold zipK; exact .nil⟩
  | p :: ks, _, _, r, h => by
    cases r with
    | @cons _ q _ qs h1 h2 =>
      cases h with
      | @cons _ _ d ds g1 g2 =>
        obtain ⟨k, v⟩ := q
        obtain ⟨kp, vp⟩ := p
        obtain ⟨rfl, rv⟩ := h1
        obtain ⟨as, r1⟩ := Dp.reads I d _ _ g1 rv
        obtain ⟨bs, r2⟩ := pairs_read I h2 g2
        exact ⟨as ++ bs, .cons r1 r2⟩
def rRepD (K : PySem.W.Frag) : List V → Hp → VK → Prop := fun xs H Q => ∃ (a : Addr) (ks : List (Key × V)) (ds : List PyData), xs = [.ref a] ∧ H a = some (.dK ks) ∧ DpAll K H (ks.map (·.2)) ds ∧ PyData.showableKv (zipK ks ds) = true ∧ PyData.hasDictAll ds = false ∧
  PyData.depthKv (zipK ks ds) ≤ 40 ∧ (dictText (PyData.shownKv (zipK ks ds))).length ≤ sizeLine ∧ Q (.str (dictText (PyData.shownKv (zipK ks ds)))) H
theorem call_repD (gd : X.A.guards = some []) (hu : X.A.units + 64 < cLine) : CallR X (.builtin "repr") (rRepD X.K) := by
  intro pins s σ H xs us Q I r h
  obtain ⟨a, ks, ds, rfl, ha, hd, sh, nd, dep, len, q⟩ := h
  obtain ⟨u, rfl, ru⟩ := vals1 r
  cases (show u = Value.ref a from ru)
  obtain ⟨_, hsys, vs, rk, dic⟩ := (show ObjOk X.prog X.w H s.heap a (.dK ks) from I.hok a _ ha)
  obtain ⟨bs, pr⟩ := pairs_read I rk hd
  have rd := reads_dictOf (fun k key e => enK_reads k key e) dic pr
  obtain ⟨o, es, ep, ho, hx, hdat, _, hp, _⟩ := dic
  obtain ⟨rk1, rk2⟩ := readsAll_of_pairs (fun k key e => enK_reads k key e) hp pr
  obtain ⟨sh1, sh2⟩ := PyData.showableKv_split _ sh
  have vv : (zipK ks ds).map (·.2) = ds := zipK_vals (by have := dpAll_len hd; rw [List.length_map] at this; exact this)
  obtain ⟨b1, hb1, k1⟩ := ReprAllK.of_readsAll (prog := X.prog) (w := X.w) rk1 sh1 (fun _ z => nomatch z) (fun t ht => let ⟨p, hp, hl⟩ := PyData.shownKv_key_le _ t ht; Nat.le_trans hl (Nat.le_trans (dictText_mem_le hp) len))
  obtain ⟨b2, hb2, k2⟩ := ReprAllK.of_readsAll (prog := X.prog) (w := X.w) rk2 sh2 (fun z => by rw [vv, nd] at z; exact nomatch z) (fun t ht => let ⟨p, hp, hl⟩ := PyData.shownKv_val_le _ t ht; Nat.le_trans hl (Nat.le_trans (dictText_mem_le hp) len))
  have rm : ReadAtMost s.heap (PyData.depthKv (zipK ks ds)) (b1 ++ b2) := (hb1.mono (PyData.depthAll_keys_le _)).append (hb2.mono (PyData.depthAll_vals_le _))
  have na : a ∉ b1 ++ b2 := not_mem_of_deeper rd (by simp only [PyData.depth]; omega) rm
  have EK := ReprEntriesK.of_two es.toList _ _ (k1.more_le (fun b z => List.mem_append_left b2 z) (PyData.depthAll_keys_le (zipK ks ds))) (k2.more_le (fun b z => List.mem_append_right b1 z) (PyData.depthAll_vals_le (zipK ks ds)))
  rw [← PyData.shownKv_eq] at EK
  refine call_repr_slot (T := "dict") (idr := "dict.__repr__") (by omega) ⟨o, ho, hx.1⟩ F.slot_dict_repr (call_dict_reprK (h₀ := s.heap) ho hx.1 hdat hsys na EK gd (fun b _ => Clear.nil b) (by show X.A.units + 1 + (PyData.depthKv (zipK ks ds) + 1) < cLine; omega) (fun _ _ e => e) (fun h2 u tk hk => ?_) len)
  exact ⟨_, _, rfl, .str _, H, I.kept hk, ⟨u, rfl⟩, q⟩
end
theorem strApp (x y : Str) : (x ++ y).length = x.length + y.length := strLen_append x y
theorem textFrom_le : ∀ (ts : List Str) (k : Nat) (acc : Str), (textFrom k acc ts).length ≤ acc.length + piled ts
  | [], k, acc => by show acc.length ≤ _; omega
  | t :: ts, k, acc => by
    have ih := textFrom_le ts (k + 1) (acc ++ (if k > 0 then ", " else "" : String) ++ t)
    have e : (acc ++ (if k > 0 then ", " else "" : String) ++ t).length ≤ acc.length + 2 + t.length := by
      rw [strApp, strApp]
      split
      · exact Nat.le_of_eq rfl
      · show acc.length + 0 + t.length ≤ _
        omega
    show (textFrom (k + 1) (acc ++ (if k > 0 then ", " else "" : String) ++ t) ts).length ≤ _
    have : piled (t :: ts) = t.length + 2 + piled ts := by simp [piled]
    omega
theorem listText_le (ts : List Str) : (listText ts).length ≤ 2 + piled ts := by
  have := textFrom_le ts 0 "["
  have e1 : (("[" : String) : Str).length = 1 := rfl
  have e2 : (("]" : String) : Str).length = 1 := rfl
  unfold listText
  rw [strApp, e2]
  omega
theorem dictText_le (ts : List Str) : (dictText ts).length ≤ 2 + piled ts := by
  have e1 : (("{" : String) : Str).length = 1 := rfl
  have e2 : (("}" : String) : Str).length = 1 := rfl
  unfold dictText
  rw [strApp, strApp, e1, e2]
  by_cases h : ts = []
  · subst h
    show 1 + 0 + 1 ≤ _
    omega
  · have := join_length_add ts h
    omega
theorem piled_le {c : Nat} : ∀ {ts : List Str}, (∀ t ∈ ts, t.length ≤ c) → piled ts ≤ ts.length * (c + 2)
  | [], _ => by simp [piled]
  | t :: ts, h => by
    have ih := piled_le (ts := ts) fun x hx => h x (List.mem_cons_of_mem _ hx)
    have := h t List.mem_cons_self
    have e : piled (t :: ts) = t.length + 2 + piled ts := by simp [piled]
    have e2 : (t :: ts).length * (c + 2) = ts.length * (c + 2) + (c + 2) := by rw [List.length_cons, Nat.succ_mul]
    omega
end VL

set_option Elab.async false
set_option linter.all false
set_option maxRecDepth 100000
set_option maxHeartbeats 4000000
namespace VL
open PySem PySem.Spec PyProof.Rows L2 PyProof.V

/-! ### nested data with dicts: what stands there; repr of it, where nothing is being shown -/
mutual
inductive Dq (H : Hp) : V → PyData → Prop
  | non : Dq H .non .none
  | bl (b : Bool) : Dq H (.bl b) (.bool b)
  | int (i : Int) : Dq H (.int i) (.int i)
  | str (x : Str) : Dq H (.str x) (.str x)
  | lst {a : Addr} {xs : List V} {ds : List PyData} : H a = some (.lst xs) → DqAll H xs ds → Dq H (.ref a) (.list ds)
  | tup {a : Addr} {xs : List V} {ds : List PyData} : H a = some (.tup xs) → DqAll H xs ds → Dq H (.ref a) (.tuple ds)
  | dic {a : Addr} {ks : List (Key × V)} {ds : List PyData} : H a = some (.dK ks) → (ks.map (·.1)).Nodup → DqAll H (ks.map (·.2)) ds → Dq H (.ref a) (.dict (zipK ks ds))
inductive DqAll (H : Hp) : List V → List PyData → Prop
  | nil : DqAll H [] []
  | cons {v : V} {vs : List V} {d : PyData} {ds : List PyData} : Dq H v d → DqAll H vs ds → DqAll H (v :: vs) (d :: ds)
end
theorem DqAll.len {H : Hp} : ∀ {vs : List V} {ds : List PyData}, DqAll H vs ds → vs.length = ds.length
  | _, _, .nil => rfl
  | _, _, .cons _ h => by simp [DqAll.len h]
theorem DqAll.of_each {H : Hp} {P : V → PyData → Prop} : ∀ {vs : List V} {ds : List PyData}, DqAll H vs ds → (∀ v d, Dq H v d → P v d) → Paired P vs ds
  | _, _, .nil, _ => .nil
  | _, _, .cons a b, f => .cons (f _ _ a) (DqAll.of_each b f)
theorem DqAll.paired {H : Hp} : ∀ {vs : List V} {ds : List PyData}, DqAll H vs ds → Paired (Dq H) vs ds
  | _, _, .nil => .nil
  | _, _, .cons a b => .cons a (DqAll.paired b)
theorem DqAll.of_paired {H : Hp} : ∀ {vs : List V} {ds : List PyData}, Paired (Dq H) vs ds → DqAll H vs ds
  | _, _, .nil => .nil
  | _, _, .cons a b => .cons a (DqAll.of_paired b)
theorem dKv_le : ∀ (ks : List (Key × V)) (ds : List PyData), ks.length = ds.length → PyData.depthAll ds ≤ PyData.depthKv (zipK ks ds)
  | [], [], _ => Nat.le_refl _
  | p :: ks, d :: ds, h => by
    have ih := dKv_le ks ds (Nat.succ.inj h)
    show max (PyData.depth d) (PyData.depthAll ds) ≤ max (max (PyData.depth (enK p.1)) (PyData.depth d)) (PyData.depthKv (zipK ks ds))
    omega
theorem dq_mono_n {H H' : Hp} (s : Same H H') : ∀ (n : Nat) (d : PyData) (v : V), PyData.depth d ≤ n → Dq H v d → Dq H' v d := by
  intro n
  induction n with
  | zero =>
    intro d v hn h
    cases h with
    | non => exact .non
    | bl b => exact .bl b
    | int i => exact .int i
    | str x => exact .str x
    | lst _ _ => exact absurd hn (by simp [PyData.depth])
    | tup _ _ => exact absurd hn (by simp [PyData.depth])
    | dic _ _ _ => exact absurd hn (by simp [PyData.depth])
  | succ n ih =>
    have all : ∀ {vs : List V} {ds : List PyData}, DqAll H vs ds → PyData.depthAll ds ≤ n → DqAll H' vs ds := by
      intro vs
      induction vs with
      | nil => intro ds h _; cases h; exact .nil
      | cons v vs iv =>
        intro ds h hd
        cases h with
        | @cons _ _ d ds a b =>
          have hd' : max (PyData.depth d) (PyData.depthAll ds) ≤ n := hd
          exact .cons (ih d v (by omega) a) (iv b (by omega))
    intro d v hn h
    cases h with
    | non => exact .non
    | bl b => exact .bl b
    | int i => exact .int i
    | str x => exact .str x
    | lst h1 h2 => exact .lst (s _ _ h1) (all h2 (by simp only [PyData.depth] at hn; omega))
    | tup h1 h2 => exact .tup (s _ _ h1) (all h2 (by simp only [PyData.depth] at hn; omega))
    | @dic a ks ds h1 nd h2 =>
      have := dKv_le ks ds (by have := h2.len; rwa [List.length_map] at this)
      exact .dic (s _ _ h1) nd (all h2 (by simp only [PyData.depth] at hn; omega))
theorem Dq.same {H H' : Hp} {v : V} {d : PyData} (h : Dq H v d) (s : Same H H') : Dq H' v d := dq_mono_n s _ d v (Nat.le_refl _) h
theorem DqAll.same {H H' : Hp} (s : Same H H') : ∀ {vs : List V} {ds : List PyData}, DqAll H vs ds → DqAll H' vs ds
  | _, _, .nil => .nil
  | _, _, .cons a b => .cons (a.same s) (DqAll.same s b)
section
variable {X : Cx} {pins : List (Addr × Obj)} {σ : L2.St} {H : Hp} {s : Shared}
/-- what repr asks of a value that reads as d -/
def RpOk (X : Cx) (s : Shared) (u : Value) (d : PyData) : Prop := ∃ as bs, Reads s.heap u d as ∧ ReadAtMost s.heap (PyData.depth d) bs ∧ ReprK X.prog X.w bs s.heap (PyData.depth d) u (PyData.shown d)
def RpAll (X : Cx) (s : Shared) (us : List Value) (ds : List PyData) : Prop := ∃ as bs, ReadsAll s.heap us ds as ∧ ReadAtMost s.heap (PyData.depthAll ds) bs ∧ ReprAllK X.prog X.w bs s.heap (PyData.depthAll ds) us (PyData.shownAll ds)
theorem rp_all {n : Nat} (ih : ∀ (d : PyData) (v : V) (u : Value), PyData.depth d ≤ n → Dq H v d → RelV v u → PyData.showable d = true → (PyData.shown d).length ≤ sizeLine → RpOk X s u d) :
    ∀ {vs : List V} {us : List Value} {ds : List PyData}, DqAll H vs ds → PyData.depthAll ds ≤ n → Vals vs us → PyData.showableAll ds = true → (∀ t ∈ PyData.shownAll ds, t.length ≤ sizeLine) → RpAll X s us ds
  | [], us, ds, h, _, r, _, _ => by
    cases h
    cases r
    exact ⟨[], [], .nil, (fun _ h => nomatch h), .nil⟩
  | v :: vs, us, ds, h, hd, r, hs, hz => by
    cases h with
    | @cons _ _ d ds a b =>
      cases r with
      | @cons _ u _ us r1 r2 =>
        have hd' : max (PyData.depth d) (PyData.depthAll ds) ≤ n := hd
        have hs' : PyData.showable d = true ∧ PyData.showableAll ds = true := by simpa [PyData.showableAll] using hs
        obtain ⟨as1, bs1, x1, y1, z1⟩ := ih d v u (by omega) a r1 hs'.1 (hz _ (by simp only [PyData.shownAll]; exact List.mem_cons_self))
        obtain ⟨as2, bs2, x2, y2, z2⟩ := rp_all ih b (by omega) r2 hs'.2 (fun t ht => hz t (by simp only [PyData.shownAll]; exact List.mem_cons_of_mem _ ht))
        refine ⟨as1 ++ as2, bs1 ++ bs2, .cons x1 x2, fun b hm => ?_, ?_⟩
        · show ∃ d' as', Reads s.heap (.ref b) d' as' ∧ PyData.depth d' ≤ max (PyData.depth d) (PyData.depthAll ds)
          rcases List.mem_append.mp hm with hm | hm
          · obtain ⟨d', as', r', hd'⟩ := y1 b hm
            exact ⟨d', as', r', by omega⟩
          · obtain ⟨d', as', r', hd'⟩ := y2 b hm
            exact ⟨d', as', r', by omega⟩
        · simp only [PyData.depthAll, PyData.shownAll]
          exact .cons ((z1.more fun b hb => List.mem_append_left bs2 hb).level_le (Nat.le_max_left _ _)) (z2.more_le (fun b hb => List.mem_append_right bs1 hb) (Nat.le_max_right _ _))
theorem pairs_vals {P : Program} {w : World} : ∀ {es : List DictEntry} {kvs : List (Key × Value)}, Pairs (mixKind P w) es kvs → es.map (·.val) = kvs.map (·.2)
  | _, _, .nil => rfl
  | _, _, .cons _ hv hp => by rw [List.map_cons, List.map_cons, hv, pairs_vals hp]
theorem pairs_keys {h : Heap} {P : Program} {w : World} : ∀ {es : List DictEntry} {vs : List (Key × Value)} {ks : List (Key × V)} {ds : List PyData}, Pairs (mixKind P w) es vs → KV ks vs → ks.length = ds.length → ReadsAll h (es.map (·.key)) ((zipK ks ds).map (·.1)) []
  | _, _, [], [], .nil, _, _ => .nil
  | _, _, p :: ks, d :: ds, .cons (kv := q) hk hv hp, r, hl => by
    cases r with
    | cons r1 r2 =>
      have hk' := hk
      rw [← r1.1] at hk'
      exact ReadsAll.cons (enK_reads _ _ hk') (pairs_keys hp r2 (Nat.succ.inj hl))
  | _, _, p :: ks, d :: ds, .nil, r, hl => by cases r
  | _, _, [], [], .cons _ _ _, r, _ => by cases r
  | _, _, [], d :: ds, _, _, hl => nomatch hl
  | _, _, p :: ks, [], _, _, hl => nomatch hl
theorem kv_vals : ∀ {ks : List (Key × V)} {vs : List (Key × Value)}, KV ks vs → Vals (ks.map (·.2)) (vs.map (·.2))
  | _, _, .nil => .nil
  | _, _, .cons r rs => .cons r.2 (kv_vals rs)
theorem dq_rp (I : Inv X pins σ H s) : ∀ (n : Nat) (d : PyData) (v : V) (u : Value), PyData.depth d ≤ n → Dq H v d → RelV v u → PyData.showable d = true → (PyData.shown d).length ≤ sizeLine → RpOk X s u d := by
  intro n
  induction n with
  | zero =>
    intro d v u hn h r hs hz
    cases h with
    | non => cases r; exact ⟨_, [], .none, (fun _ h => nomatch h), by simp only [PyData.shown]; exact .of_is ReprIs.none _ _ _⟩
    | bl b => cases r; exact ⟨_, [], .bool b, (fun _ h => nomatch h), by simp only [PyData.shown]; exact .of_is (ReprIs.bool b) _ _ _⟩
    | int i =>
      obtain ⟨t, rfl⟩ := r
      exact ⟨_, [], .int i t, (fun _ h => nomatch h), by simp only [PyData.shown]; exact .of_is (ReprIs.int t (by simpa [PyData.showable] using hs)) _ _ _⟩
    | str x =>
      obtain ⟨t, rfl⟩ := r
      exact ⟨_, [], .str x t, (fun _ h => nomatch h), by simp only [PyData.shown]; exact .of_is (ReprIs.str x t (by simpa only [PyData.shown] using hz)) _ _ _⟩
    | lst _ _ => exact absurd hn (by simp [PyData.depth])
    | tup _ _ => exact absurd hn (by simp [PyData.depth])
    | dic _ _ _ => exact absurd hn (by simp [PyData.depth])
  | succ n ih =>
    intro d v u hn h r hs hz
    cases h with
    | non => exact ih _ _ _ (Nat.zero_le _) .non r hs hz
    | bl b => exact ih _ _ _ (Nat.zero_le _) (.bl b) r hs hz
    | int i => exact ih _ _ _ (Nat.zero_le _) (.int i) r hs hz
    | str x => exact ih _ _ _ (Nat.zero_le _) (.str x) r hs hz
    | @lst a xs ds h1 h2 =>
      cases (show u = Value.ref a from r)
      obtain ⟨_, its, m, rv, ho⟩ := (show ObjOk X.prog X.w H s.heap a (.lst xs) from I.hok a _ h1)
      have zz : (listText (PyData.shownAll ds)).length ≤ sizeLine := by simpa only [PyData.shown] using hz
      obtain ⟨as, bs, ra, rm, rk⟩ := rp_all ih h2 (by simp only [PyData.depth] at hn; omega) rv (by simpa [PyData.showable] using hs) (fun t ht => Nat.le_trans (listText_mem_le ht) zz)
      have rd : Reads s.heap (.ref a) (.list ds) (a :: as) := .list ho rfl rfl ra
      have na : a ∉ bs := not_mem_of_deeper rd (by simp only [PyData.depth]; omega) rm
      refine ⟨_, a :: bs, rd, ReadAtMost.cons rd (by simp only [PyData.depth]; omega) rm, ?_⟩
      simp only [PyData.depth, PyData.shown]
      cases its with
      | nil =>
        cases ra
        simp only [PyData.shownAll, listText_nil]
        exact ReprK.listEmpty ho rfl rfl
      | cons x l => exact ReprK.list ho rfl rfl na (by simpa using rk.length_eq) (fun i y e => rk.item i y (by simpa using e))
    | @tup a xs ds h1 h2 =>
      cases (show u = Value.ref a from r)
      obtain ⟨_, its, rv, o, ho, oc, m, od⟩ := (show ObjOk X.prog X.w H s.heap a (.tup xs) from I.hok a _ h1)
      have zz : (tupleText (PyData.shownAll ds)).length ≤ sizeLine := by simpa only [PyData.shown] using hz
      obtain ⟨as, bs, ra, rm, rk⟩ := rp_all ih h2 (by simp only [PyData.depth] at hn; omega) rv (by simpa [PyData.showable] using hs) (fun t ht => Nat.le_trans (tupleText_mem_le ht) zz)
      have rd : Reads s.heap (.ref a) (.tuple ds) as := .tuple ho oc od ra
      have na : a ∉ bs := not_mem_of_deeper rd (by simp only [PyData.depth]; omega) rm
      refine ⟨_, a :: bs, rd, ReadAtMost.cons rd (by simp only [PyData.depth]; omega) rm, ?_⟩
      simp only [PyData.depth, PyData.shown]
      exact ReprK.tuple ho oc od na rk
    | @dic a ks ds h1 nd h2 =>
      cases (show u = Value.ref a from r)
      obtain ⟨_, hsys, vs, rkv, dof⟩ := (show ObjOk X.prog X.w H s.heap a (.dK ks) from I.hok a _ h1)
      have kl : ks.length = ds.length := by have := h2.len; rwa [List.length_map] at this
      have zz : (dictText (PyData.shownKv (zipK ks ds))).length ≤ sizeLine := by simpa only [PyData.shown] using hz
      obtain ⟨o, es, ep, ho, hx, hdat, _, hp, _⟩ := dof
      have vv : (zipK ks ds).map (·.2) = ds := zipK_vals kl
      obtain ⟨sh1, sh2⟩ := PyData.showableKv_split _ (show PyData.showableKv (zipK ks ds) = true by simpa [PyData.showable] using hs)
      rw [vv] at sh2
      have rk1 : ReadsAll s.heap (es.toList.map (·.key)) ((zipK ks ds).map (·.1)) [] := pairs_keys hp rkv kl
      have dle := dKv_le ks ds kl
      obtain ⟨as2, b2, ra2, hb2, k2⟩ := rp_all ih h2 (by simp only [PyData.depth] at hn; omega) (kv_vals rkv) sh2 (fun t ht => by
        rw [← vv] at ht
        obtain ⟨p, hp, hl⟩ := PyData.shownKv_val_le _ t ht
        exact Nat.le_trans hl (Nat.le_trans (dictText_mem_le hp) zz))
      obtain ⟨b1, hb1, k1⟩ := ReprAllK.of_readsAll (prog := X.prog) (w := X.w) rk1 sh1 (fun _ z => nomatch z) (fun t ht => let ⟨p, hp, hl⟩ := PyData.shownKv_key_le _ t ht; Nat.le_trans hl (Nat.le_trans (dictText_mem_le hp) zz))
      have ev : es.toList.map (·.val) = vs.map (·.2) := pairs_vals hp
      rw [← ev] at ra2 k2
      have ra2' : ReadsAll s.heap (es.toList.map (·.val)) ((zipK ks ds).map (·.2)) as2 := by rw [vv]; exact ra2
      have rd : Reads s.heap (.ref a) (.dict (zipK ks ds)) (a :: [] ++ as2) := .dict ho hx.1 hdat rk1 ra2'
      have rm : ReadAtMost s.heap (PyData.depthKv (zipK ks ds)) (b1 ++ b2) := (hb1.mono (PyData.depthAll_keys_le _)).append (hb2.mono dle)
      have na : a ∉ b1 ++ b2 := not_mem_of_deeper rd (by simp only [PyData.depth]; omega) rm
      refine ⟨_, a :: (b1 ++ b2), rd, ReadAtMost.cons rd (by simp only [PyData.depth]; omega) rm, ?_⟩
      have EK := ReprEntriesK.of_two es.toList _ _ (k1.more_le (fun b z => List.mem_append_left b2 z) (PyData.depthAll_keys_le (zipK ks ds))) (k2.more_le (fun b z => List.mem_append_right b1 z) dle)
      rw [show PyData.shownAll ds = PyData.shownAll ((zipK ks ds).map (·.2)) by rw [vv], ← PyData.shownKv_eq] at EK
      simp only [PyData.depth, PyData.shown]
      exact ReprK.dict ho hx.1 hdat hsys na EK
theorem rp_list (I : Inv X pins σ H s) {vs : List V} {us : List Value} {ds : List PyData} (h : DqAll H vs ds) (r : Vals vs us) (hs : PyData.showableAll ds = true) (hz : ∀ t ∈ PyData.shownAll ds, t.length ≤ sizeLine) : RpAll X s us ds :=
  rp_all (fun d v u hn => dq_rp I _ d v u hn) h (Nat.le_refl _) r hs hz
def rRepQ : List V → Hp → VK → Prop := fun xs H Q => ∃ (a : Addr) (d : PyData), xs = [.ref a] ∧ Dq H (.ref a) d ∧ PyData.showable d = true ∧ PyData.depth d ≤ 40 ∧ (PyData.shown d).length ≤ sizeLine ∧ Q (.str (PyData.shown d)) H
theorem call_repQ (gd : X.A.guards = some []) (hu : X.A.units + 64 < cLine) : CallR X (.builtin "repr") rRepQ := by
  intro pins s σ H xs us Q I r h
  obtain ⟨a, d, rfl, hd, hs, dep, hz, q⟩ := h
  obtain ⟨u, rfl, ru⟩ := vals1 r
  cases (show u = Value.ref a from ru)
  have fin : ∀ (h' : Heap) (v : Tok) (tk : Nat), (∀ b o, s.heap.get? b = some o → h'.get? b = some o) → EP X pins σ Q (.str (PyData.shown d) v) { s with heap := h', toks := tk } := fun h' v tk hk => ⟨.str _, H, I.kept hk, ⟨v, rfl⟩, q⟩
  cases hd with
  | @lst _ xs ds h1 h2 =>
    obtain ⟨_, its, m, rv, ho⟩ := (show ObjOk X.prog X.w H s.heap a (.lst xs) from I.hok a _ h1)
    have zz : (listText (PyData.shownAll ds)).length ≤ sizeLine := by simpa only [PyData.shown] using hz
    obtain ⟨as, bs, ra, rm, rk⟩ := rp_list I h2 rv (by simpa [PyData.showable] using hs) (fun t ht => Nat.le_trans (listText_mem_le ht) zz)
    have rd : Reads s.heap (.ref a) (.list ds) (a :: as) := .list ho rfl rfl ra
    have na : a ∉ bs := not_mem_of_deeper rd (by simp only [PyData.depth]; omega) rm
    simp only [PyData.depth] at dep
    simp only [PyData.shown] at fin
    cases its with
    | nil =>
      cases ra
      simp only [PyData.shownAll, listText_nil] at fin
      exact call_repr_slot (T := "list") (by omega) ⟨_, ho, rfl⟩ F.slot_list_repr.toG (call_list_repr_empty ⟨_, ho, rfl⟩ ho rfl ⟨_, _, rfl, fin s.heap _ _ fun _ _ e => e⟩)
    | cons x l =>
      exact call_repr_slot (T := "list") (by omega) ⟨_, ho, rfl⟩ F.slot_list_repr.toG (call_list_reprK (h₀ := s.heap) ho rfl rfl na (by simpa using rk.length_eq) (fun i y e => rk.item i y (by simpa using e)) gd (fun b _ => Clear.nil b) (by show X.A.units + 1 + _ < cLine; omega) (fun _ _ e => e) (fun h' v tk hk => ⟨_, _, rfl, fin h' v tk hk⟩) zz)
  | @tup _ xs ds h1 h2 =>
    obtain ⟨_, its, rv, o, ho, oc, m, od⟩ := (show ObjOk X.prog X.w H s.heap a (.tup xs) from I.hok a _ h1)
    have zz : (tupleText (PyData.shownAll ds)).length ≤ sizeLine := by simpa only [PyData.shown] using hz
    obtain ⟨as, bs, ra, rm, rk⟩ := rp_list I h2 rv (by simpa [PyData.showable] using hs) (fun t ht => Nat.le_trans (tupleText_mem_le ht) zz)
    have rd : Reads s.heap (.ref a) (.tuple ds) as := .tuple ho oc od ra
    have na : a ∉ bs := not_mem_of_deeper rd (by simp only [PyData.depth]; omega) rm
    simp only [PyData.depth] at dep
    simp only [PyData.shown] at fin
    exact call_repr_slot (T := "tuple") (by omega) ⟨_, ho, oc⟩ F.slot_tuple_repr (call_tuple_reprK (h₀ := s.heap) ho oc od na rk gd (fun b _ => Clear.nil b) (by show X.A.units + 1 + _ < cLine; omega) (fun _ _ e => e) (fun h' v tk hk => ⟨_, _, rfl, fin h' v tk hk⟩) zz)
  | @dic _ ks ds h1 nd h2 =>
    obtain ⟨_, hsys, vs, rkv, dof⟩ := (show ObjOk X.prog X.w H s.heap a (.dK ks) from I.hok a _ h1)
    have kl : ks.length = ds.length := by have := h2.len; rwa [List.length_map] at this
    have zz : (dictText (PyData.shownKv (zipK ks ds))).length ≤ sizeLine := by simpa only [PyData.shown] using hz
    obtain ⟨o, es, ep, ho, hx, hdat, _, hp, _⟩ := dof
    have vv : (zipK ks ds).map (·.2) = ds := zipK_vals kl
    obtain ⟨sh1, sh2⟩ := PyData.showableKv_split _ (show PyData.showableKv (zipK ks ds) = true by simpa [PyData.showable] using hs)
    rw [vv] at sh2
    have rk1 : ReadsAll s.heap (es.toList.map (·.key)) ((zipK ks ds).map (·.1)) [] := pairs_keys hp rkv kl
    have dle := dKv_le ks ds kl
    obtain ⟨as2, b2, ra2, hb2, k2⟩ := rp_list I h2 (kv_vals rkv) sh2 (fun t ht => by
      rw [← vv] at ht
      obtain ⟨p, hp, hl⟩ := PyData.shownKv_val_le _ t ht
      exact Nat.le_trans hl (Nat.le_trans (dictText_mem_le hp) zz))
    obtain ⟨b1, hb1, k1⟩ := ReprAllK.of_readsAll (prog := X.prog) (w := X.w) rk1 sh1 (fun _ z => nomatch z) (fun t ht => let ⟨p, hp, hl⟩ := PyData.shownKv_key_le _ t ht; Nat.le_trans hl (Nat.le_trans (dictText_mem_le hp) zz))
    have ev : es.toList.map (·.val) = vs.map (·.2) := pairs_vals hp
    rw [← ev] at ra2 k2
    have ra2' : ReadsAll s.heap (es.toList.map (·.val)) ((zipK ks ds).map (·.2)) as2 := by rw [vv]; exact ra2
    have rd : Reads s.heap (.ref a) (.dict (zipK ks ds)) (a :: [] ++ as2) := .dict ho hx.1 hdat rk1 ra2'
    have rm : ReadAtMost s.heap (PyData.depthKv (zipK ks ds)) (b1 ++ b2) := (hb1.mono (PyData.depthAll_keys_le _)).append (hb2.mono dle)
    have na : a ∉ b1 ++ b2 := not_mem_of_deeper rd (by simp only [PyData.depth]; omega) rm
    have EK := ReprEntriesK.of_two es.toList _ _ (k1.more_le (fun b z => List.mem_append_left b2 z) (PyData.depthAll_keys_le (zipK ks ds))) (k2.more_le (fun b z => List.mem_append_right b1 z) dle)
    rw [show PyData.shownAll ds = PyData.shownAll ((zipK ks ds).map (·.2)) by rw [vv], ← PyData.shownKv_eq] at EK
    simp only [PyData.depth] at dep
    simp only [PyData.shown] at fin
    exact call_repr_slot (T := "dict") (idr := "dict.__repr__") (by omega) ⟨o, ho, hx.1⟩ F.slot_dict_repr (call_dict_reprK (h₀ := s.heap) ho hx.1 hdat hsys na EK gd (fun b _ => Clear.nil b) (by show X.A.units + 1 + _ < cLine; omega) (fun _ _ e => e) (fun h' v tk hk => ⟨_, _, rfl, fin h' v tk hk⟩) zz)
end
end VL

set_option Elab.async false
set_option linter.all false
set_option maxRecDepth 100000
set_option maxHeartbeats 4000000
namespace VL
open PySem PySem.Spec PyProof.Rows L2
/-! ### dict comprehensions over any walk; dicts read while locked -/
theorem dc_itQ {J : It} {n : Nat} {G : Hp → Prop} {Y : Nat → Hp → V → Hp → Prop} (w : Walk J n G Y) {g : TG} {tt : TT} {tk tv : TE} {vs : List Nat} {σ : L2.St} {H1 : Hp} {D : Addr} {Qd : Hp → Prop} (Pv : Nat → Hp → Prop) (h0 : Pv 0 (upd H1 D (.dK []))) (hG : ∀ i H, i ≤ n → Pv i H → G H)
    (hs : ∀ i x H H', i < n → Pv i H → Y i H x H' → g x (wipe σ vs) H' fun σ2 H2 => wipe σ2 vs = wipe σ vs ∧ tt σ2 H2 fun b H3 =>
      if b = true then tk σ2 H3 fun y H4 => tv σ2 H4 fun z H5 => ∃ kvs k, y = kV k ∧ H5 D = some (.dK kvs) ∧ kvs.length < sizeLine ∧ Pv (i + 1) (upd H5 D (.dK (putK kvs k z))) else Pv (i + 1) H3) (hd : ∀ H, Pv n H → Qd H) :
    ∃ W : Nat → Nat → Hp → Prop, (∃ m, W 0 m (upd H1 D (.dK []))) ∧ ∀ i m H, W i m H →
      (J.stop i H ∧ Qd H) ∨ (J.go i H ∧ ∃ Nx : Hp → Prop, (∀ H', Nx H' → ∃ m', m' < m ∧ W (i + 1) m' H') ∧ ∀ x H', J.yld i H x H' → g x (wipe σ vs) H' fun σ2 H2 => wipe σ2 vs = wipe σ vs ∧ tt σ2 H2 fun b H3 =>
        if b = true then tk σ2 H3 fun y H4 => tv σ2 H4 fun z H5 => ∃ kvs k, y = kV k ∧ H5 D = some (.dK kvs) ∧ kvs.length < sizeLine ∧ Nx (upd H5 D (.dK (putK kvs k z))) else Nx H3) := by
  refine ⟨fun i m H => m = n - i ∧ i ≤ n ∧ Pv i H, ⟨n, by simp, Nat.zero_le _, h0⟩, ?_⟩
  rintro i m H ⟨rfl, hi, p⟩
  have q := hG i H hi p
  by_cases hlt : i < n
  · refine .inr ⟨w.goes i H hlt q, Pv (i + 1), fun H' p' => ⟨n - (i + 1), by omega, rfl, hlt, p'⟩, fun x H' y => hs i x H H' hlt p (w.yields i H x H' hlt q y)⟩
  · have e : i = n := by omega
    subst e
    exact .inl ⟨w.stops H q, hd H p⟩
theorem dget_fz {H : Hp} {a : Addr} {o : Obj} {kvs : List (Key × V)} {k : Key} (e : H a = some (.frz o (.dK kvs))) : DGet H a (kV k) (valV kvs k) := .inl ⟨kvs, k, .inr ⟨o, e⟩, rfl, rfl⟩
theorem putK_nw {ks : List (Key × V)} {k : Key} {v : V} (h : valV ks k = none) : putK ks k v = ks ++ [(k, v)] := by
  unfold putK
  rw [valV_any, h]
  rfl
theorem valV_out {ks : List (Key × V)} {k : Key} (h : k ∉ ks.map (·.1)) : valV ks k = none := by
  induction ks with
  | nil => rfl
  | cons p ks ih =>
    rw [valV_neg (fun z => h (by rw [List.map_cons, ← z]; exact List.mem_cons_self))]
    exact ih fun z => h (List.mem_cons_of_mem _ z)
theorem valV_nd : ∀ {ks : List (Key × V)} {i : Nat} {k : Key} {v : V}, (ks.map (·.1)).Nodup → ks[i]? = some (k, v) → valV ks k = some v
  | [], _, _, _, _, h => by simp at h
  | p :: ks, 0, k, v, nd, h => by
    simp at h
    subst h
    exact valV_pos rfl
  | p :: ks, i + 1, k, v, nd, h => by
    simp at h
    rw [List.map_cons, List.nodup_cons] at nd
    have hm : k ∈ ks.map (·.1) := List.mem_map.mpr ⟨_, List.mem_of_getElem? h, rfl⟩
    rw [valV_neg (fun z => nd.1 (by rw [z]; exact hm))]
    exact valV_nd nd.2 h
theorem zipK_keys : ∀ {ks ls : List (Key × V)} {ds : List PyData}, ks.map (·.1) = ls.map (·.1) → zipK ks ds = zipK ls ds
  | [], [], _, _ => by unfold zipK; rfl
  | p :: ks, q :: ls, [], h => by unfold zipK; rfl
  | p :: ks, q :: ls, d :: ds, h => by
    rw [List.map_cons, List.map_cons] at h
    injection h with h1 h2
    show (enK p.1, d) :: zipK ks ds = (enK q.1, d) :: zipK ls ds
    rw [h1, zipK_keys h2]
  | [], q :: ls, _, h => nomatch h
  | p :: ks, [], _, h => nomatch h
theorem zipK_app : ∀ {ks ls : List (Key × V)} {ds es : List PyData}, ks.length = ds.length → zipK (ks ++ ls) (ds ++ es) = zipK ks ds ++ zipK ls es
  | [], ls, [], es, _ => rfl
  | p :: ks, ls, d :: ds, es, h => by
    show (enK p.1, d) :: zipK (ks ++ ls) (ds ++ es) = (enK p.1, d) :: zipK ks ds ++ zipK ls es
    rw [zipK_app (Nat.succ.inj h)]
    rfl
theorem enK_inj {a b : Key} (h : enK a = enK b) : a = b := by
  cases a with
  | inl i => cases b with
    | inl j => injection h with h; rw [h]
    | inr y => exact nomatch h
  | inr x => cases b with
    | inl j => exact nomatch h
    | inr y => injection h with h; rw [h]
/-! ### what stands there is one thing -/
theorem dq_det_n {H : Hp} : ∀ (n : Nat) (d d' : PyData) (v : V), PyData.depth d ≤ n → Dq H v d → Dq H v d' → d = d' := by
  intro n
  induction n with
  | zero =>
    intro d d' v hn h h'
    cases h with
    | non => cases h'; rfl
    | bl b => cases h'; rfl
    | int i => cases h'; rfl
    | str x => cases h'; rfl
    | lst _ _ => exact absurd hn (by simp [PyData.depth])
    | tup _ _ => exact absurd hn (by simp [PyData.depth])
    | dic _ _ _ => exact absurd hn (by simp [PyData.depth])
  | succ n ih =>
    have all : ∀ {vs : List V} {ds es : List PyData}, DqAll H vs ds → DqAll H vs es → PyData.depthAll ds ≤ n → ds = es := by
      intro vs
      induction vs with
      | nil => intro ds es h h' _; cases h; cases h'; rfl
      | cons v vs iv =>
        intro ds es h h' hd
        cases h with
        | @cons _ _ d ds a b =>
          cases h' with
          | @cons _ _ e es a' b' =>
            have hd' : max (PyData.depth d) (PyData.depthAll ds) ≤ n := hd
            rw [ih d e v (by omega) a a', iv b b' (by omega)]
    intro d d' v hn h h'
    cases h with
    | non => cases h'; rfl
    | bl b => cases h'; rfl
    | int i => cases h'; rfl
    | str x => cases h'; rfl
    | lst h1 h2 =>
      simp only [PyData.depth] at hn
      cases h' with
      | lst g1 g2 => rw [h1] at g1; cases g1; rw [all h2 g2 (by omega)]
      | tup g1 g2 => rw [h1] at g1; cases g1
      | dic g1 _ g2 => rw [h1] at g1; cases g1
    | tup h1 h2 =>
      simp only [PyData.depth] at hn
      cases h' with
      | lst g1 g2 => rw [h1] at g1; cases g1
      | tup g1 g2 => rw [h1] at g1; cases g1; rw [all h2 g2 (by omega)]
      | dic g1 _ g2 => rw [h1] at g1; cases g1
    | @dic a ks ds h1 nd h2 =>
      have := dKv_le ks ds (by have := h2.len; rwa [List.length_map] at this)
      simp only [PyData.depth] at hn
      cases h' with
      | lst g1 g2 => rw [h1] at g1; cases g1
      | tup g1 g2 => rw [h1] at g1; cases g1
      | dic g1 _ g2 => rw [h1] at g1; cases g1; rw [all h2 g2 (by omega)]
theorem Dq.det {H : Hp} {v : V} {d d' : PyData} (h : Dq H v d) (h' : Dq H v d') : d = d' := dq_det_n _ d d' v (Nat.le_refl _) h h'
/-- a store at what is deeper changes nothing -/
theorem dq_upd_n {H : Hp} {a : Addr} {da : PyData} {o : HO} (ha : Dq H (.ref a) da) : ∀ (n : Nat) (d : PyData) (v : V), PyData.depth d ≤ n → PyData.depth d < PyData.depth da → Dq H v d → Dq (upd H a o) v d := by
  intro n
  induction n with
  | zero =>
    intro d v hn _ h
    cases h with
    | non => exact .non
    | bl b => exact .bl b
    | int i => exact .int i
    | str x => exact .str x
    | lst _ _ => exact absurd hn (by simp [PyData.depth])
    | tup _ _ => exact absurd hn (by simp [PyData.depth])
    | dic _ _ _ => exact absurd hn (by simp [PyData.depth])
  | succ n ih =>
    have all : ∀ {vs : List V} {ds : List PyData}, DqAll H vs ds → PyData.depthAll ds ≤ n → PyData.depthAll ds < PyData.depth da → DqAll (upd H a o) vs ds := by
      intro vs
      induction vs with
      | nil => intro ds h _ _; cases h; exact .nil
      | cons v vs iv =>
        intro ds h hd hl
        cases h with
        | @cons _ _ d ds b c =>
          have hd' : max (PyData.depth d) (PyData.depthAll ds) ≤ n := hd
          have hl' : max (PyData.depth d) (PyData.depthAll ds) < PyData.depth da := hl
          exact .cons (ih d v (by omega) (by omega) b) (iv c (by omega) (by omega))
    intro d v hn hl h
    have ne : ∀ b : Addr, v = .ref b → b ≠ a := fun b e z => by
      subst e
      subst z
      rw [h.det ha] at hl
      exact Nat.lt_irrefl _ hl
    cases h with
    | non => exact .non
    | bl b => exact .bl b
    | int i => exact .int i
    | str x => exact .str x
    | lst h1 h2 =>
      simp only [PyData.depth] at hn hl
      exact .lst (by rw [upd_ne (ne _ rfl)]; exact h1) (all h2 (by omega) (by omega))
    | tup h1 h2 =>
      simp only [PyData.depth] at hn hl
      exact .tup (by rw [upd_ne (ne _ rfl)]; exact h1) (all h2 (by omega) (by omega))
    | @dic b ks ds h1 nd h2 =>
      have := dKv_le ks ds (by have := h2.len; rwa [List.length_map] at this)
      simp only [PyData.depth] at hn hl
      exact .dic (by rw [upd_ne (ne _ rfl)]; exact h1) nd (all h2 (by omega) (by omega))
theorem Dq.upd {H : Hp} {a : Addr} {da d : PyData} {v : V} {o : HO} (h : Dq H v d) (ha : Dq H (.ref a) da) (hl : PyData.depth d < PyData.depth da) : Dq (upd H a o) v d := dq_upd_n ha _ d v (Nat.le_refl _) hl h
theorem mem_depth {d : PyData} : ∀ {ds : List PyData}, d ∈ ds → PyData.depth d ≤ PyData.depthAll ds
  | e :: ds, h => by
    show _ ≤ max (PyData.depth e) (PyData.depthAll ds)
    rcases List.mem_cons.mp h with rfl | h
    · omega
    · have := mem_depth h
      omega
/-! ### reading a dict's data -/
def keyB : PyData → Key → Bool
  | .int i, .inl j => decide (i = j)
  | .str x, .inr y => decide (x = y)
  | _, _ => false
theorem keyB_en (a b : Key) : keyB (enK a) b = decide (a = b) := by
  cases a with
  | inl i => cases b with
    | inl j => show decide (i = j) = decide (Sum.inl i = Sum.inl j); by_cases e : i = j <;> simp [e]
    | inr y => show false = decide (Sum.inl i = Sum.inr y); simp
  | inr x => cases b with
    | inl j => show false = decide (Sum.inr x = Sum.inl j); simp
    | inr y => show decide (x = y) = decide (Sum.inr x = Sum.inr y); by_cases e : x = y <;> simp [e]
def lkp : List (PyData × PyData) → Key → Option PyData
  | [], _ => none
  | p :: r, k => if keyB p.1 k = true then some p.2 else lkp r k
theorem lkp_at {H : Hp} {k : Key} : ∀ {ks : List (Key × V)} {ds : List PyData}, DqAll H (ks.map (·.2)) ds → (lkp (zipK ks ds) k = none ∧ valV ks k = none) ∨ ∃ d v, lkp (zipK ks ds) k = some d ∧ valV ks k = some v ∧ Dq H v d
  | [], ds, h => by
    cases h
    exact .inl ⟨rfl, rfl⟩
  | p :: ks, _, .cons (d := d) (ds := ds) a b => by
    have e : lkp (zipK (p :: ks) (d :: ds)) k = if keyB (enK p.1) k = true then some d else lkp (zipK ks ds) k := rfl
    rw [e, keyB_en]
    by_cases q : p.1 = k
    · rw [if_pos (decide_eq_true q), valV_pos q]
      exact .inr ⟨d, p.2, rfl, rfl, a⟩
    · rw [if_neg (by simp [q]), valV_neg q]
      exact lkp_at b
theorem dq_dict {H : Hp} {v : V} {kvs : List (PyData × PyData)} (h : Dq H v (.dict kvs)) : ∃ a ks, v = .ref a ∧ H a = some (.dK ks) ∧ (ks.map (·.1)).Nodup ∧ ks.length = kvs.length ∧
    ∀ k, (lkp kvs k = none ∧ valV ks k = none) ∨ ∃ d v, lkp kvs k = some d ∧ valV ks k = some v ∧ Dq H v d := by
  cases h with
  | @dic a ks ds h1 nd h2 =>
    refine ⟨a, ks, rfl, h1, nd, ?_, fun k => lkp_at h2⟩
    have e : ks.length = ds.length := by have := h2.len; rwa [List.length_map] at this
    have : ((zipK ks ds).map (·.2)).length = ds.length := by rw [zipK_vals e]
    rw [List.length_map] at this
    omega
theorem dq_list {H : Hp} {v : V} {ds : List PyData} (h : Dq H v (.list ds)) : ∃ a xs, v = .ref a ∧ H a = some (.lst xs) ∧ DqAll H xs ds := by
  cases h with
  | @lst a xs _ h1 h2 => exact ⟨a, xs, rfl, h1, h2⟩
theorem dq_tup {H : Hp} {v : V} {ds : List PyData} (h : Dq H v (.tuple ds)) : ∃ a xs, v = .ref a ∧ H a = some (.tup xs) ∧ DqAll H xs ds := by
  cases h with
  | @tup a xs _ h1 h2 => exact ⟨a, xs, rfl, h1, h2⟩
theorem dqAll_at {H : Hp} : ∀ {vs : List V} {ds : List PyData}, DqAll H vs ds → ∀ {i : Nat} {d : PyData}, ds[i]? = some d → ∃ v, vs[i]? = some v ∧ Dq H v d
  | _, _, .nil, i, d, h => by simp at h
  | _, _, .cons a b, 0, d, h => by
    simp at h
    subst h
    exact ⟨_, rfl, a⟩
  | _, _, .cons a b, i + 1, d, h => by
    simp at h
    obtain ⟨v, h1, h2⟩ := dqAll_at b h
    exact ⟨v, by simpa using h1, h2⟩
theorem dqAll_ap {H : Hp} : ∀ {vs ws : List V} {ds es : List PyData}, DqAll H vs ds → DqAll H ws es → DqAll H (vs ++ ws) (ds ++ es)
  | _, _, _, _, .nil, q => q
  | _, _, _, _, .cons a b, q => .cons a (dqAll_ap b q)
/-! ### small data -/
structure Small (c k : Nat) (d : PyData) : Prop where
  sh : PyData.showable d = true
  dp : PyData.depth d ≤ k
  ln : (PyData.shown d).length ≤ c
theorem Small.mono {c k c' k' : Nat} {d : PyData} (h : Small c k d) (h1 : c ≤ c') (h2 : k ≤ k') : Small c' k' d := ⟨h.sh, Nat.le_trans h.dp h2, Nat.le_trans h.ln h1⟩
theorem tupText_le (ts : List Str) : (tupleText ts).length ≤ 3 + piled ts := by
  have e1 : ((("(" : String) : Str)).length = 1 := rfl
  have e3 : (((if ts.length == 1 then ",)" else ")" : String) : Str)).length ≤ 2 := by split <;> decide
  unfold tupleText
  rw [strApp, strApp, e1]
  by_cases h : ts = []
  · subst h
    have : (Str.join ", " ([] : List Str)).length = 0 := rfl
    omega
  · have := join_length_add ts h
    omega
theorem shAll_mem : ∀ {ds : List PyData}, (∀ d ∈ ds, PyData.showable d = true) → PyData.showableAll ds = true
  | [], _ => rfl
  | d :: ds, h => by
    show (PyData.showable d && PyData.showableAll ds) = true
    rw [h d List.mem_cons_self, shAll_mem fun x hx => h x (List.mem_cons_of_mem _ hx)]
    rfl
theorem dpAll_mem {k : Nat} : ∀ {ds : List PyData}, (∀ d ∈ ds, PyData.depth d ≤ k) → PyData.depthAll ds ≤ k
  | [], _ => Nat.zero_le _
  | d :: ds, h => by
    show max (PyData.depth d) (PyData.depthAll ds) ≤ k
    have := h d List.mem_cons_self
    have := dpAll_mem fun x hx => h x (List.mem_cons_of_mem _ hx)
    omega
theorem shownAll_len : ∀ ds : List PyData, (PyData.shownAll ds).length = ds.length
  | [] => rfl
  | d :: ds => by
    show (PyData.shownAll ds).length + 1 = _
    rw [shownAll_len ds]
    rfl
theorem shownAll_mem : ∀ {ds : List PyData} {t : Str}, t ∈ PyData.shownAll ds → ∃ d ∈ ds, t = PyData.shown d
  | d :: ds, t, h => by
    rcases List.mem_cons.mp (show t ∈ PyData.shown d :: PyData.shownAll ds from h) with rfl | h
    · exact ⟨d, List.mem_cons_self, rfl⟩
    · obtain ⟨e, h1, h2⟩ := shownAll_mem h
      exact ⟨e, List.mem_cons_of_mem _ h1, h2⟩
theorem piledAll {c k : Nat} {ds : List PyData} (h : ∀ d ∈ ds, Small c k d) : piled (PyData.shownAll ds) ≤ ds.length * (c + 2) := by
  have := piled_le (c := c) (ts := PyData.shownAll ds) fun t ht => by
    obtain ⟨d, hd, rfl⟩ := shownAll_mem ht
    exact (h d hd).ln
  rwa [shownAll_len] at this
theorem small_list {c k n : Nat} {ds : List PyData} (h : ∀ d ∈ ds, Small c k d) (hl : ds.length ≤ n) : Small (2 + n * (c + 2)) (k + 1) (.list ds) := by
  refine ⟨?_, ?_, ?_⟩
  · show PyData.showableAll ds = true
    exact shAll_mem fun d hd => (h d hd).sh
  · show PyData.depthAll ds + 1 ≤ k + 1
    have := dpAll_mem fun d hd => (h d hd).dp
    omega
  · show (listText (PyData.shownAll ds)).length ≤ _
    have h1 := listText_le (PyData.shownAll ds)
    have h2 := piledAll h
    have h3 := Nat.mul_le_mul_right (c + 2) hl
    omega
theorem small_tup {c k n : Nat} {ds : List PyData} (h : ∀ d ∈ ds, Small c k d) (hl : ds.length ≤ n) : Small (3 + n * (c + 2)) (k + 1) (.tuple ds) := by
  refine ⟨?_, ?_, ?_⟩
  · show PyData.showableAll ds = true
    exact shAll_mem fun d hd => (h d hd).sh
  · show PyData.depthAll ds + 1 ≤ k + 1
    have := dpAll_mem fun d hd => (h d hd).dp
    omega
  · show (tupleText (PyData.shownAll ds)).length ≤ _
    have h1 := tupText_le (PyData.shownAll ds)
    have h2 := piledAll h
    have h3 := Nat.mul_le_mul_right (c + 2) hl
    omega
theorem small_dict {c k n : Nat} {kvs : List (PyData × PyData)} (h : ∀ p ∈ kvs, Small c k p.1 ∧ Small c k p.2) (hl : kvs.length ≤ n) : Small (2 + n * (2 * c + 4)) (k + 1) (.dict kvs) := by
  have sh : ∀ L : List (PyData × PyData), (∀ p ∈ L, Small c k p.1 ∧ Small c k p.2) → PyData.showableKv L = true ∧ PyData.depthKv L ≤ k ∧ piled (PyData.shownKv L) ≤ L.length * (2 * c + 4) := by
    intro L
    induction L with
    | nil => exact fun _ => ⟨rfl, Nat.zero_le _, by simp [PyData.shownKv, piled]⟩
    | cons p L ih =>
      intro hp
      obtain ⟨i1, i2, i3⟩ := ih fun x hx => hp x (List.mem_cons_of_mem _ hx)
      obtain ⟨a, b⟩ := hp p List.mem_cons_self
      refine ⟨?_, ?_, ?_⟩
      · show (PyData.showable p.1 && PyData.showable p.2 && PyData.showableKv L) = true
        rw [a.sh, b.sh, i1]
        rfl
      · show max (max (PyData.depth p.1) (PyData.depth p.2)) (PyData.depthKv L) ≤ k
        have := a.dp
        have := b.dp
        omega
      · have e : PyData.shownKv (p :: L) = (PyData.shown p.1 ++ (": " : Str) ++ PyData.shown p.2) :: PyData.shownKv L := rfl
        have e2 : piled (PyData.shownKv (p :: L)) = (PyData.shown p.1 ++ (": " : Str) ++ PyData.shown p.2).length + 2 + piled (PyData.shownKv L) := by rw [e]; simp [piled]
        have e3 : ((": " : String) : Str).length = 2 := rfl
        have := a.ln
        have := b.ln
        have e4 : (p :: L).length * (2 * c + 4) = L.length * (2 * c + 4) + (2 * c + 4) := by rw [List.length_cons, Nat.succ_mul]
        rw [e2, strApp, strApp]
        omega
  obtain ⟨i1, i2, i3⟩ := sh kvs h
  refine ⟨i1, ?_, ?_⟩
  · show PyData.depthKv kvs + 1 ≤ k + 1
    omega
  · show (dictText (PyData.shownKv kvs)).length ≤ _
    have h1 := dictText_le (PyData.shownKv kvs)
    have h3 := Nat.mul_le_mul_right (2 * c + 4) hl
    omega
end VL

set_option Elab.async false
set_option linter.all false
set_option maxRecDepth 100000
set_option maxHeartbeats 4000000
namespace VL
open PySem PySem.Spec PyProof.Rows L2
/-! ### copies of values: what may be copied, what is new -/
mutual
def cpy : PyData → Bool
  | .list ds => decide (ds.length ≤ 1000) && cpyAll ds
  | .dict kvs => decide (kvs.length ≤ 1000) && cpyKv kvs
  | .tuple _ => false
  | .none | .bool _ | .int _ | .str _ => true
def cpyAll : List PyData → Bool
  | [] => true
  | d :: ds => cpy d && cpyAll ds
def cpyKv : List (PyData × PyData) → Bool
  | [] => true
  | (_, d) :: r => cpy d && cpyKv r
end
theorem cpyAll_mem : ∀ {ds : List PyData}, cpyAll ds = true → ∀ d ∈ ds, cpy d = true
  | e :: ds, h, d, hd => by
    have h' : cpy e = true ∧ cpyAll ds = true := by simpa [cpyAll] using h
    rcases List.mem_cons.mp hd with rfl | hd
    · exact h'.1
    · exact cpyAll_mem h'.2 d hd
theorem cpyKv_zip : ∀ {ks : List (Key × V)} {ds : List PyData}, ks.length = ds.length → cpyKv (zipK ks ds) = true → cpyAll ds = true
  | [], [], _, _ => rfl
  | p :: ks, d :: ds, hl, h => by
    have h' : cpy d = true ∧ cpyKv (zipK ks ds) = true := by
      have e : cpyKv (zipK (p :: ks) (d :: ds)) = (cpy d && cpyKv (zipK ks ds)) := rfl
      rw [e] at h
      simpa using h
    show (cpy d && cpyAll ds) = true
    rw [h'.1, cpyKv_zip (Nat.succ.inj hl) h'.2]
    rfl
/-- what has come since H -/
def newer (H H' : Hp) : Hp := fun b => match H b with
  | none => H' b
  | some _ => none
theorem newer_some {H H' : Hp} {b : Addr} {o : HO} (h : newer H H' b = some o) : H b = none ∧ H' b = some o := by
  unfold newer at h
  cases e : H b with
  | none => rw [e] at h; exact ⟨rfl, h⟩
  | some u => rw [e] at h; exact nomatch h
theorem newer_mk {H H' : Hp} {b : Addr} {o : HO} (h1 : H b = none) (h2 : H' b = some o) : newer H H' b = some o := by
  unfold newer
  rw [h1]
  exact h2
theorem newer_same (H H' : Hp) : Same (newer H H') H' := fun b o h => (newer_some h).2
def spCopy (n : Nat) : Sp := fun vs H Q _ => ∃ (v : V) (d : PyData), vs = [v] ∧ Dq H v d ∧ cpy d = true ∧ PyData.depth d ≤ n ∧ ∀ v' H', Same H H' → Dq (newer H H') v' d → Q v' H'
end VL

set_option Elab.async false
set_option linter.all false
set_option maxRecDepth 100000
set_option maxHeartbeats 4000000
namespace VL
open PySem PySem.Spec PyProof.Rows L2

/-! ### what the text has: methods with keyword-only parameters, properties, written tuples, own exceptions without a text of their own -/
def WrT (K : PySem.W.Frag) (a : Addr) (xs : List V) : Prop := ∃ (o : Obj) (its : Array Value) (n : Nat), K.lookup a = some o ∧ o.cls = .type "tuple" ∧ o.data = .seq its n ∧ its.size ≤ sizeLine ∧ Vals xs its.toList ∧ o.dict = none
abbrev catG {α : Type} (us ws : List α) : List α := us ++ ws
def MethKE (K : PySem.W.Frag) (C : Addr) (x qual : Str) (st : Stmt) (ps : List Str) (n : Nat) (ks : List Str) : Prop :=
  ∃ (f : Addr) (fd : FuncData), Fun K x qual st f fd ∧ Meth K C x f ∧ KBn K fd ps n ks catG catG
def PropE (K : PySem.W.Frag) (C : Addr) (x qual : Str) (st : Stmt) : Prop := ∃ (p g : Addr) (fd : FuncData), PropOf K C x p g ∧ Fun K x qual st g fd ∧ Binds K fd ["self"] []
structure ExT (K : PySem.W.Frag) (mg : Str → Option Value) (x : Str) (D : Addr) : Prop where
  g : mg x = some (.ref D)
  xx : PySem.W.excIn K D [.type "ValueError", .type "Exception", .type "BaseException", .type "object"] "ValueError.__new__" = true
  kp : PySem.W.keepIn K (.ref D) = true
  bP : PySem.W.subIn K (.ref D) (.type "BaseException") = some true
  tP : PySem.W.typeIn K (.ref D) = some (.type "type")
  em : PySem.W.exmOne K (.ref D) (.ref D) = some true
  ec : ExcC K D
theorem fun_kbn {K : PySem.W.Frag} {x qual : Str} {st : Stmt} {f : Addr} {fd : FuncData} {ps : List Str} (F : Fun K x qual st f fd) (n : Nat) (ks : List Str)
    (h : ∀ (kV doc pm : Value) (an : Option Addr) (cdv ct : Value) (us ws : List Value), us.length = n → ws.length = ks.length → bindArgs (PySem.W.fnOf x qual (defArgs st) (defBody st) (defScope st) .none kV doc pm an cdv ct) ⟨us, ks.zip ws⟩ = pure (ps.zip (us ++ ws))) :
    KBn K fd ps n ks catG catG := by
  obtain ⟨oc, od, kV, doc, pm, an, cdv, ct, osl, rfl, lk, hcd⟩ := F.ex
  exact ⟨fun s us ws X l1 l2 => .of_eq (h kV doc pm an cdv ct us ws l1 l2), fun r1 r2 => r1.append r2⟩
/-! ### as callers see them -/
structure MetK (P : Program) (w : World) (K : PySem.W.Frag) (mg : Str → Option Value) (base : Heap) (k : Nat) (C : Addr) (m : Str) (sp : Sp) (n : Nat) (ks : List Str) (gV : List V → List V → List V) : Prop where
  ex : ∃ (f : Addr) (fd : FuncData) (ps : List Str) (g : List Value → List Value → List Value), Cls K C ∧ Meth K C m f ∧ FnOk P w K mg base CX0 k f fd ps sp ∧ KBn K fd ps n ks g gV
structure Pro (P : Program) (w : World) (K : PySem.W.Frag) (mg : Str → Option Value) (base : Heap) (k : Nat) (C : Addr) (x : Str) (sp : Sp) : Prop where
  ex : ∃ (p g : Addr) (fd : FuncData), Cls K C ∧ PropOf K C x p g ∧ FnOk P w K mg base CX0 k g fd ["self"] sp ∧ Binds K fd ["self"] []
/-- o.m(.., k = v, ..): n is one more than the values written -/
def tMethK (C : Addr) (m : Str) (sp : Sp) (n kn : Nat) (gV : List V → List V → List V) (ta : TE) (t tk : TA) : TE := fun σ H Q => ta σ H fun x H1 => ∃ a dx fs, x = .ref a ∧ H1 a = some (.ins C dx fs) ∧ fs.lookup m = none ∧ t σ H1 fun vs H2 => tk σ H2 fun zs H3 => vs.length + 1 = n ∧ zs.length = kn ∧ sp (gV (.ref a :: vs) zs) H3 Q E0
section
variable {X : Cx} {k j n : Nat} {C : Addr} {m x : Str} {ks : List Str} {sp : Sp} {pos apos : Pos} {e o : Expr} {es : List Expr} {kws : List Keyword} {ta : TE} {t tk : TA} {gV : List V → List V → List V}
theorem pe_mtK {pl : Sem Bool} (c : MetK X.prog X.w X.K X.mg X.base k C m sp n ks gV) (hr : Room j X.A) (hk : k ≤ j) (he : PE X o ta) (ha : PA X (e :: es) t) (hkw : PK X kws tk)
    (hall : (backToKw pos (keywordEach kws X.env)).all (·.1.isSome) = true := by rfl) (hks : (backToKw pos (keywordEach kws X.env)).filterMap (·.1) = ks := by rfl)
    (hst : starEach (e :: es) X.env = (false, eval e X.env) :: starEach es X.env := by rfl)
    (hpl : ((backTo pos (starEach (e :: es) X.env)).any (·.1) || (backToKw pos (keywordEach kws X.env)).any (·.1.isNone)) = false := by rfl)
    (ht : eval (.Call (.Attribute o m apos) (e :: es) kws pos) X.env = (do
      let ov ← eval o X.env
      standAt apos.atName
      let (f, first) ← holding [ov] (getMethod ov m pl)
      callWith pos f first (backTo pos (starEach (e :: es) X.env)) (backToKw pos (keywordEach kws X.env))) := by rfl) :
    PE X (.Call (.Attribute o m apos) (e :: es) kws pos) (tMethK C m sp n ks.length gV ta t tk) := by
  obtain ⟨f, fd, ps, g, hc, hm, F, b⟩ := c.ex
  refine ⟨fun pins s σ H Q I h => ?_⟩
  refine PySem.W.methodCall_KW (pl := pl) (thn (he.run pins s σ H _ I h) fun u s1 ⟨x, H1, I1, rx, a, dx, fs, ex, ea, l, q⟩ => ?_) ht
  subst ex
  obtain rfl : u = Value.ref a := rx
  refine getmeth_ok I1 ea hc hm l ?_
  refine PySem.W.callWith_KW (first := [.ref a]) (h₀ := X.base) I.ok.mod.kin hm.kp hall (thn (ha.run pos pins s1 σ H1 _ I1 q) fun us s2 ⟨vs, H2, I2, r, q2⟩ => ?_) hpl hst
  refine thn (hkw.run pos pins s2 σ H2 _ I2 q2) fun ws s3 ⟨zs, H3, I3, rz, l1, l2, q3⟩ => ⟨I3.kIn, ?_⟩
  rw [hks]
  exact run_fnN (us := .ref a :: us) (vs := .ref a :: vs) F (hr.mono hk) b pass0 I3 (.cons rfl r) rz l1 l2 q3
theorem pe_mtK0 {pl : Sem Bool} (c : MetK X.prog X.w X.K X.mg X.base k C m sp n ks gV) (hr : Room j X.A) (hk : k ≤ j) (he : PE X o ta) (hkw : PK X kws tk)
    (hall : (backToKw pos (keywordEach kws X.env)).all (·.1.isSome) = true := by rfl) (hks : (backToKw pos (keywordEach kws X.env)).filterMap (·.1) = ks := by rfl)
    (hpl : ((backTo pos (starEach [] X.env)).any (·.1) || (backToKw pos (keywordEach kws X.env)).any (·.1.isNone)) = false := by rfl)
    (ht : eval (.Call (.Attribute o m apos) [] kws pos) X.env = (do
      let ov ← eval o X.env
      standAt apos.atName
      let (f, first) ← holding [ov] (getMethod ov m pl)
      callWith pos f first (backTo pos (starEach [] X.env)) (backToKw pos (keywordEach kws X.env))) := by rfl) :
    PE X (.Call (.Attribute o m apos) [] kws pos) (tMethK C m sp n ks.length gV ta tNil tk) := by
  obtain ⟨f, fd, ps, g, hc, hm, F, b⟩ := c.ex
  refine ⟨fun pins s σ H Q I h => ?_⟩
  refine PySem.W.methodCall_KW (pl := pl) (thn (he.run pins s σ H _ I h) fun u s1 ⟨x, H1, I1, rx, a, dx, fs, ex, ea, l, q⟩ => ?_) ht
  subst ex
  obtain rfl : u = Value.ref a := rx
  refine getmeth_ok I1 ea hc hm l ?_
  refine PySem.W.callWith_KW0 (first := [.ref a]) (h₀ := X.base) I.ok.mod.kin hm.kp hall ?_ hpl
  refine thn (hkw.run pos pins s1 σ H1 _ I1 q) fun ws s3 ⟨zs, H3, I3, rz, l1, l2, q3⟩ => ⟨I3.kIn, ?_⟩
  rw [hks]
  exact run_fnN (us := [.ref a]) (vs := [.ref a]) F (hr.mono hk) b pass0 I3 (.cons rfl .nil) rz l1 l2 q3
theorem pe_pr (c : Pro X.prog X.w X.K X.mg X.base k C x sp) (hr : Room j X.A) (hk : k + 1 ≤ j) (he : PE X e ta) (hab : attributeBase e x X.env (eval e X.env) = eval e X.env := by rfl) : PE X (.Attribute e x pos) (tProp C sp [] E0 ta) := by
  obtain ⟨p, g, fd, hc, hp, F, b⟩ := c.ex
  exact pe_prop he hc hp F (hr.mono hk) b .nil pass0 hab
end
section
variable {P : Program} {w : World} {K : PySem.W.Frag} {mg : Str → Option Value} {base : Heap}
theorem metK_of {C : Addr} {x qual : Str} {st : Stmt} {ps ks N : List Str} {k n : Nat} {sp : Sp} (D : MethKE K C x qual st ps n ks) (c : Cls K C) (S : FnScope N ps (defScope st)) (len : ∀ vs H Q E, sp vs H Q E → vs.length = ps.length)
    (hbody : ∀ (f : Addr) (cdv : Value) (A : Around) (outer : List Env) (s : Shared) (H : Hp) (vs : List V) (Q : VK) (E : XK), Room k (A.deeper (envOfC qual (defScope st) s.heap.objs.size f cdv)) → sp vs H Q E →
      ∃ t, PSs (cxOf CX0 P w K mg base N qual (defScope st) f cdv A outer s H E).nox (defBody st) t ∧ t { nx := fun _ H' => Q .non H', rt := Q } (start N vs) H) : MetK P w K mg base (k + 1) C x sp n ks catG := by
  obtain ⟨f, fd, F, hm, b⟩ := D
  exact ⟨f, fd, ps, _, c, hm, F.ok S len (hbody f), b⟩
theorem pro_of {C : Addr} {x qual : Str} {st : Stmt} {N : List Str} {k : Nat} {sp : Sp} (D : PropE K C x qual st) (c : Cls K C) (S : FnScope N ["self"] (defScope st)) (len : ∀ vs H Q E, sp vs H Q E → vs.length = 1)
    (hbody : ∀ (f : Addr) (cdv : Value) (A : Around) (outer : List Env) (s : Shared) (H : Hp) (vs : List V) (Q : VK) (E : XK), Room k (A.deeper (envOfC qual (defScope st) s.heap.objs.size f cdv)) → sp vs H Q E →
      ∃ t, PSs (cxOf CX0 P w K mg base N qual (defScope st) f cdv A outer s H E).nox (defBody st) t ∧ t { nx := fun _ H' => Q .non H', rt := Q } (start N vs) H) : Pro P w K mg base (k + 1) C x sp := by
  obtain ⟨p, g, fd, hp, F, b⟩ := D
  exact ⟨p, g, fd, c, hp, F.ok S len (hbody g), b⟩
end
end VL

set_option Elab.async false
set_option linter.all false
set_option maxRecDepth 100000
set_option maxHeartbeats 4000000
namespace VL
open PySem PySem.Spec PyProof.Rows L2
/-! ### rules whose readings speak of K, with K told: within comprehensions and except suites -/
theorem u65 {A : Around} {k : Nat} (r : Room k A) : A.units + 65 < cLine := by have := r.un; omega
section
variable {X : Cx} {K : PySem.W.Frag} {e o : Expr} {f : Str} {pos : Pos} {ta : TE}
theorem pe_fldS (hK : X.K = K) (he : PE X e ta) (hb : attributeBase e f X.env (eval e X.env) = eval e X.env) : PE X (.Attribute e f pos) (tFld K ta f) := by subst hK; exact pe_fld he hb
theorem pe_conS (hK : X.K = K) (he : PE X e ta) (hb : attributeBase e f X.env (eval e X.env) = eval e X.env) : PE X (.Attribute e f pos) (tCon K ta f) := by subst hK; exact pe_con he hb
theorem pe_cvalS (hK : X.K = K) (he : PE X e ta) (hb : attributeBase e f X.env (eval e X.env) = eval e X.env := by rfl) : PE X (.Attribute e f pos) (ClX.tCVal K ta f) := by subst hK; exact ClX.pe_cval he hb
theorem ix_listS (hK : X.K = K) : IxR X (rIxL K) := by subst hK; exact ix_list
theorem ix_tupS (hK : X.K = K) : IxR X (rIxT K) := by subst hK; exact ix_tup
theorem sl_listS (hK : X.K = K) : SlR X (rSlL K) := by subst hK; exact sl_list
theorem sl_tupS (hK : X.K = K) : SlR X (rSlT K) := by subst hK; exact sl_tup
theorem op_in_seqS (hK : X.K = K) : OpR X (compareOp .In) (rIn K false) := by subst hK; exact op_in_seq
theorem op_notIn_seqS (hK : X.K = K) : OpR X (compareOp .NotIn) (rIn K true) := by subst hK; exact op_notIn_seq
theorem call_len_seqS (hK : X.K = K) : CallR X (.builtin "len") (fun xs H Q => ∃ p ys, xs = [.ref p] ∧ (SqL K H p ys ∨ SqT K H p ys) ∧ Q (.int ys.length) H) := by subst hK; exact call_len_seq
theorem call_list_ofS (hK : X.K = K) : CallR X (.type "list") (fun xs H Q => ∃ p ys, xs = [.ref p] ∧ (SqL K H p ys ∨ SqT K H p ys) ∧ ∀ l, H l = none → Q (.ref l) (upd H l (.lst ys))) := by subst hK; exact call_list_of
theorem call_isiS (hK : X.K = K) : CallR X (.builtin "isinstance") (rIsi K) := by subst hK; exact call_isi
theorem op_eqDS (hK : X.K = K) (hu : X.A.units + 64 < cLine) : OpR X (compareOp .Eq) (rEqD K) := by subst hK; exact op_eqD hu
theorem op_neDS (hK : X.K = K) (hu : X.A.units + 64 < cLine) : OpR X (compareOp .NotEq) (rNeD K) := by subst hK; exact op_neD hu
theorem cr_maxS (hK : X.K = K) (hc : X.calm = true) : CallR X (.builtin "max") (rMax K) := by subst hK; exact cr_max hc
theorem cr_minS (hK : X.K = K) (hc : X.calm = true) : CallR X (.builtin "min") (rMin K) := by subst hK; exact cr_min hc
theorem op_inDS (hK : X.K = K) (hu : X.A.units + 65 < cLine) : OpR X (compareOp .In) (rInD K) := by subst hK; exact op_inD hu
theorem pt_truthS (hK : X.K = K) (ha : PE X e ta) (he : ∀ whole, isTrue e X.env whole = (do let v ← whole; standAt e.pos; holding [v] (truthy v))) :
    PT X e (fun σ H Q => ta σ H fun x H' => ∃ k, TruV K x H' k ∧ Q k H') := by subst hK; exact pt_truth ha he
theorem pi_listS {tg : Expr} (hK : X.K = K) (hl : PE X e ta) : PI X tg e (iList K ta) := by subst hK; exact pi_list hl
theorem pi_tupS {tg : Expr} (hK : X.K = K) (hl : PE X e ta) : PI X tg e (iTup K ta) := by subst hK; exact pi_tup hl
theorem pg_tupS {es : List Expr} {k : Nat} {t : TGs} {n : Nat} (hK : X.K = K) (hc : X.calm = true) (h : PGs X es t)
    (hn : (assignEach es X.env).length = n := by rfl) (hst : (assignEach es X.env).findIdx? (·.1) = none := by rfl) : PG X (.Tuple es k pos) (gTup K n t) := by subst hK; exact pg_tup hc h hn hst
end
end VL

set_option Elab.async false
set_option linter.all false
set_option maxRecDepth 100000
set_option maxHeartbeats 4000000
namespace VL
open PySem PySem.Spec PyProof.Rows L2

/-! ### texts as lists of signs -/
abbrev TX (l : List Nat) : Str := ⟨l.toArray⟩
theorem TX_tl (l : List Nat) : (TX l).cps.toList = l := by simp
theorem TX_len (l : List Nat) : (TX l).length = l.length := by simp [Str.length]
theorem TX_cat (a b : List Nat) : TX a ++ TX b = TX (a ++ b) := SX.S_cat a b
theorem TX_inj {a b : List Nat} (h : TX a = TX b) : a = b := SX.S_inj h
theorem vstr_TX {a b : List Nat} : decide (V.str (TX a) = V.str (TX b)) = decide (a = b) := by
  by_cases e : a = b
  · subst e; simp
  · have : ¬ V.str (TX a) = V.str (TX b) := fun q => e (TX_inj (V.str.inj q))
    rw [decide_eq_false this, decide_eq_false e]
theorem one_eq {c d : Nat} : decide (V.str (TX [c]) = V.str (TX [d])) = decide (c = d) := by
  rw [vstr_TX]
  by_cases e : c = d
  · subst e; simp
  · simp [e]
/-- the sign at a place -/
theorem at_mid {pre r : List Nat} {c : Nat} {i : Int} (hi : i = (pre.length : Int)) : atI (TX (pre ++ c :: r)).cps.toList i = some c := by
  subst hi
  rw [TX_tl]
  unfold atI ixN
  rw [if_pos (by omega), if_pos (by simp; omega)]
  show (pre ++ c :: r)[(pre.length : Int).toNat]? = _
  rw [Int.toNat_natCast]
  simp
theorem getD_TX (l : List Nat) (v : Nat) : (TX l).cps.getD v 0 = l.getD v 0 := by
  simp only [Array.getD, List.getD_eq_getElem?_getD]
  by_cases h : v < l.length
  · rw [dif_pos (by simpa using h)]
    simp [h]
  · rw [dif_neg (by simpa using h), List.getElem?_eq_none (by omega)]
    rfl
theorem lt_one {c d : Nat} : ([c] < [d]) ↔ c < d := by
  constructor
  · intro h
    cases h with
    | rel h => exact h
    | cons h => cases h
  · intro h
    exact .rel h
/-- s.startswith(y, i) -/
theorem starts_at {pre R y : List Nat} {i : Int} (hi : i = (pre.length : Int)) : Txt.startswith3 (TX (pre ++ R)) (TX y) i = (R.take y.length == y) := by
  subst hi
  have e : fromIndex (TX (pre ++ R)).length (pre.length : Int) = pre.length := by
    unfold fromIndex
    rw [if_neg (by omega)]
    omega
  unfold Txt.startswith3
  rw [e, StrLaws.subAt_eq]
  have h1 : (TX (pre ++ R)).cps.toList.drop pre.length = R := by simp
  rw [h1, TX_len, TX_len]
  show (decide (pre.length + y.length ≤ (pre ++ R).length) && (R.take y.length == (TX y).cps.toList)) = _
  rw [TX_tl, List.length_append]
  by_cases h : y.length ≤ R.length
  · rw [decide_eq_true (by omega)]
    rfl
  · rw [decide_eq_false (by omega)]
    have : (R.take y.length == y) = false := by
      refine beq_eq_false_iff_ne.mpr fun q => h ?_
      have := congrArg List.length q
      rw [List.length_take] at this
      omega
    rw [this]
    rfl
/-- s.find("\n", i) -/
theorem find_nl {pre c r : List Nat} {d : Nat} {i : Int} (hi : i = (pre.length : Int)) (hc : d ∉ c) : Txt.find3 (TX (pre ++ (c ++ d :: r))) (TX [d]) i = ((pre.length + c.length : Nat) : Int) := by
  subst hi
  have e : fromIndex (TX (pre ++ (c ++ d :: r))).length (pre.length : Int) = pre.length := by
    unfold fromIndex
    rw [if_neg (by omega)]
    omega
  have hg : ∀ v, v < (pre ++ (c ++ d :: r)).length → (TX (pre ++ (c ++ d :: r))).cps.getD v 0 = (pre ++ (c ++ d :: r)).getD v 0 := fun v _ => getD_TX _ v
  have hat : (pre ++ (c ++ d :: r)).getD (pre.length + c.length) 0 = d := by simp [List.getD_eq_getElem?_getD]
  have hlt : pre.length + c.length < (pre ++ (c ++ d :: r)).length := by rw [List.length_append, List.length_append, List.length_cons]; omega
  rcases StrLaws.find3_spec (TX (pre ++ (c ++ d :: r))) d (pre.length : Int) with ⟨_, h2⟩ | ⟨k, h1, h2, h3, h4, h5⟩
  · rw [e, TX_len] at h2
    exact absurd (by rw [hg _ hlt]; exact hat) (h2 (pre.length + c.length) (by omega) hlt)
  · rw [e] at h2 h5
    rw [TX_len] at h3
    rw [h1]
    have hk : k = pre.length + c.length := by
      rcases Nat.lt_trichotomy k (pre.length + c.length) with q | q | q
      · exfalso
        rw [hg k h3] at h4
        have e3 : (pre ++ (c ++ d :: r)).getD k 0 = c.getD (k - pre.length) 0 := by
          rw [List.getD_eq_getElem?_getD, List.getD_eq_getElem?_getD, List.getElem?_append_right h2, List.getElem?_append_left (by omega)]
        rw [e3] at h4
        apply hc
        have hlt2 : k - pre.length < c.length := by omega
        rw [List.getD_eq_getElem?_getD, List.getElem?_eq_getElem hlt2] at h4
        have h4 : c[k - pre.length] = d := h4
        rw [← h4]
        exact List.getElem_mem hlt2
      · exact q
      · exfalso
        exact h5 (pre.length + c.length) (by omega) q (by rw [hg _ hlt]; exact hat)
    rw [hk]
/-- s[i:j] -/
theorem cut_mid {pre m r : List Nat} {i j : Int} (hi : i = (pre.length : Int)) (hj : j = ((pre.length + m.length : Nat) : Int)) : cutS (TX (pre ++ (m ++ r))) (some i) (some j) = TX m := by
  subst hi hj
  unfold cutS
  rw [TX_len, HT.sIx_nat, HT.sIx_nat, TX_tl]
  have e1 : min pre.length (pre ++ (m ++ r)).length = pre.length := by simp
  have e2 : min (pre.length + m.length) (pre ++ (m ++ r)).length = pre.length + m.length := by simp
  rw [e1, e2]
  refine congrArg TX ?_
  rw [List.drop_left, Nat.add_sub_cancel_left, List.take_left]

/-! ### rows -/
def rws : List Nat → List Nat → List (List Nat)
  | acc, [] => [acc]
  | acc, c :: r => if c = 10 then acc :: rws [] r else rws (acc ++ [c]) r
theorem spl_rws : ∀ (l acc : List Nat), TL.spl [10] 0 acc l = rws acc l
  | [], acc => by rw [TL.spl_nil]; rfl
  | c :: r, acc => by
    unfold rws
    by_cases h : c = 10
    · subst h
      rw [if_pos rfl, TL.spl_hit (by rfl)]
      exact congrArg (acc :: ·) (spl_rws r [])
    · rw [if_neg h, TL.spl_miss (by
        show TL.pre [10] (c :: r) = false
        unfold TL.pre
        simp [h])]
      exact spl_rws r _
theorem rws_ne : ∀ (l acc : List Nat), rws acc l ≠ []
  | [], acc => by unfold rws; simp
  | c :: r, acc => by
    unfold rws
    split
    · simp
    · exact rws_ne r _
def lnOf (l : List Nat) : Nat := (rws [] l).length
def clOf (l : List Nat) : Nat := ((rws [] l).getLast (rws_ne _ _)).length
theorem rws_plain : ∀ (l acc m : List Nat), 10 ∉ m → ∃ fr la, rws acc l = fr ++ [la] ∧ rws acc (l ++ m) = fr ++ [la ++ m]
  | [], acc, m, h => by
    refine ⟨[], acc, rfl, ?_⟩
    show rws acc m = [acc ++ m]
    induction m generalizing acc with
    | nil => rw [List.append_nil]; rfl
    | cons c m ih =>
      have hc : c ≠ 10 := fun e => h (by rw [e]; exact List.mem_cons_self)
      unfold rws
      rw [if_neg hc, ih _ fun e => h (List.mem_cons_of_mem _ e), List.append_assoc]
      rfl
  | c :: r, acc, m, h => by
    rw [List.cons_append]
    unfold rws
    by_cases hc : c = 10
    · rw [if_pos hc, if_pos hc]
      obtain ⟨fr, la, e1, e2⟩ := rws_plain r [] m h
      exact ⟨acc :: fr, la, by rw [e1]; rfl, by rw [e2]; rfl⟩
    · rw [if_neg hc, if_neg hc]
      exact rws_plain r _ m h
theorem rws_nl : ∀ (l acc : List Nat), rws acc (l ++ [10]) = rws acc l ++ [[]]
  | [], acc => by
    show rws acc [10] = [acc] ++ [[]]
    unfold rws
    rw [if_pos rfl]
    rfl
  | c :: r, acc => by
    rw [List.cons_append]
    unfold rws
    split
    · rw [rws_nl r []]; rfl
    · exact rws_nl r _
theorem getLast_of {α : Type} {l fr : List α} {la : α} (h : l ≠ []) (e : l = fr ++ [la]) : l.getLast h = la := by
  subst e
  simp
theorem ln_plain (l m : List Nat) (h : 10 ∉ m) : lnOf (l ++ m) = lnOf l := by
  obtain ⟨fr, la, e1, e2⟩ := rws_plain l [] m h
  unfold lnOf
  rw [e1, e2]
  simp
theorem cl_plain (l m : List Nat) (h : 10 ∉ m) : clOf (l ++ m) = clOf l + m.length := by
  obtain ⟨fr, la, e1, e2⟩ := rws_plain l [] m h
  unfold clOf
  rw [getLast_of _ e1, getLast_of _ e2, List.length_append]
theorem ln_nl (l : List Nat) : lnOf (l ++ [10]) = lnOf l + 1 := by
  unfold lnOf
  rw [rws_nl]
  simp
theorem cl_nl (l : List Nat) : clOf (l ++ [10]) = 0 := by
  unfold clOf
  rw [getLast_of _ (rws_nl l [])]
  rfl
theorem cl_le : ∀ l : List Nat, clOf l ≤ l.length := by
  intro l
  have : ∀ (l acc : List Nat), ((rws acc l).getLast (rws_ne _ _)).length ≤ acc.length + l.length := by
    intro l
    induction l with
    | nil => intro acc; simp [rws]
    | cons c r ih =>
      intro acc
      by_cases hc : c = 10
      · have e : rws acc (c :: r) = acc :: rws [] r := by
          show (if c = 10 then _ else _) = _
          rw [if_pos hc]
        have e2 : (rws acc (c :: r)).getLast (rws_ne _ _) = (rws [] r).getLast (rws_ne _ _) := by
          simp only [e]
          exact List.getLast_cons (rws_ne _ _)
        rw [e2]
        have := ih []
        simp at this ⊢
        omega
      · have e : rws acc (c :: r) = rws (acc ++ [c]) r := by
          show (if c = 10 then _ else _) = _
          rw [if_neg hc]
        have e2 : (rws acc (c :: r)).getLast (rws_ne _ _) = (rws (acc ++ [c]) r).getLast (rws_ne _ _) := by simp only [e]
        rw [e2]
        have := ih (acc ++ [c])
        simp at this ⊢
        omega
  have := this l []
  simpa [clOf] using this
/-- row = source.split("\n"): how many, and the last one's length -/
theorem split_rows (l : List Nat) : Txt.split (TX l) (TX [10]) = (rws [] l).map TX := by
  have := SX.split_S (a := l) (b := [10]) (by simp) (by decide)
  rw [spl_rws] at this
  exact this
theorem rows_last (l : List Nat) : ∃ la : List Nat, atI ((rws [] l).map fun r => V.str (TX r)) (-1) = some (.str (TX la)) ∧ la.length = clOf l := by
  refine ⟨(rws [] l).getLast (rws_ne _ _), ?_, rfl⟩
  have hp : 0 < (rws [] l).length := List.length_pos_iff.mpr (rws_ne _ _)
  unfold atI ixN
  rw [if_neg (by decide), if_pos (by rw [List.length_map]; omega)]
  show ((rws [] l).map fun r => V.str (TX r))[_]? = _
  have e : (-1 + (((rws [] l).map fun r => V.str (TX r)).length : Int)).toNat = (rws [] l).length - 1 := by rw [List.length_map]; omega
  rw [e, List.getElem?_map, List.getElem?_eq_getElem (by omega), List.getLast_eq_getElem]
  rfl

/-! ### signs -/
def isLet (c : Nat) : Bool := (decide (97 ≤ c) && decide (c ≤ 122)) || (decide (65 ≤ c) && decide (c ≤ 90))
def isDig (c : Nat) : Bool := decide (48 ≤ c) && decide (c ≤ 57)
def isWs (c : Nat) : Bool := isLet c || isDig c || decide (c = 95)
end VL

set_option Elab.async false
set_option linter.all false
set_option maxRecDepth 100000
set_option maxHeartbeats 4000000
namespace PySem
section
variable {prog : Program} {w : World} {K : Type} [DecidableEq K] {knd : KeyKind prog w K} {A : Around} {E : Value → Shared → Prop} {s : Shared}
theorem wpAny_dictPut_pairs {d : Addr} {kvs : List (K × Value)} {k : K} {key v : Value} {Q : Unit → Shared → Prop} (hkey : knd.is k key = true) (hm : s.heap.DictOf knd d kvs)
    (hQ : ∀ h', h'.DictOf knd d (stored kvs k v) → Heap.SameBut d s.heap h' → Q () { s with heap := h' })
    (hsz : kvs.length ≤ sizeLine := by size_fits) :
    wpAny (model prog w) A (dictPut d (knd.hash k) key v) Q E s := by
  obtain ⟨o, es, ep, ho, hc, hd, hk, hp, hn⟩ := hm
  have hes : es.size ≤ sizeLine := by have e1 := hp.length; have e2 : es.toList.length = es.size := by simp
                                      omega
  unfold dictPut
  refine wpAny_bind (wpAny_dictFind_of hkey ho hd hk ?_)
  have hidx : (es.findIdx? fun e => knd.is k e.key) = kvs.findIdx? fun kv => decide (kv.1 = k) := by
    rw [← hp.findIdx k]; obtain ⟨l⟩ := es; simp
  cases hi : es.findIdx? fun e => knd.is k e.key with
  | some i =>
    refine wpAny_updateDict ho hd (hQ _ ⟨_, _, ep, Heap.get?_update_self _ ho (Obj.isFreed_of_dict (Obj.data_mapDict hd _)),
      hc.mapDict _, Obj.data_mapDict hd _, hk.modify _ _, ?_, ?_⟩ (Heap.SameBut.update ..))
    · rw [stored, if_pos (any_of_findIdx_some (hidx ▸ hi))]
      have hl : (es.toList.findIdx? fun e => knd.is k e.key) = some i := by rw [← hi]; obtain ⟨l⟩ := es; simp
      have := hp.modify hn hl v
      obtain ⟨l⟩ := es
      simpa using this
    · rw [stored, if_pos (any_of_findIdx_some (hidx ▸ hi)), keys_map_store]; exact hn
  | none =>
    have hnot : k ∉ kvs.map (·.1) := not_mem_of_findIdx_none (hidx ▸ hi)
    have hany : ¬ (kvs.any fun kv => decide (kv.1 = k)) = true := by
      rw [List.any_eq_true]; rintro ⟨kv, hkv, he⟩
      exact hnot (List.mem_map.mpr ⟨kv, hkv, of_decide_eq_true he⟩)
    refine wpAny_updateDictKeys (hz := hes) ho hd (hQ _ ⟨_, _, ep + 1, Heap.get?_update_self _ ho (Obj.isFreed_of_dict (Obj.data_mapDictKeys hd _)),
      hc.mapDictKeys _, Obj.data_mapDictKeys hd _, hk.push hkey _, ?_, ?_⟩ (Heap.SameBut.update ..))
    · rw [stored, if_neg hany]
      have := hp.append hkey (knd.hash k) v
      obtain ⟨l⟩ := es
      simpa using this
    · rw [stored, if_neg hany, List.map_append, List.nodup_append]
      refine ⟨hn, by simp, ?_⟩
      intro a ha b hb
      simp only [List.map_cons, List.map_nil, List.mem_singleton] at hb
      subst hb
      exact fun e => hnot (e ▸ ha)

/-- {**a, ..}: the entries of a dict put into another one -/
theorem wpAny_mergeMapping {d o : Addr} {kvs more : List (K × Value)} {Q : Unit → Shared → Prop} (hnr : ∀ k a, knd.is k (.ref a) = false) (hdo : d ≠ o) (hoS : (o == sysModules) = false)
    (hd : s.heap.DictOf knd d kvs) (ho : s.heap.DictOf knd o more)
    (hQ : ∀ h', h'.DictOf knd d (merged kvs more) → h'.DictOf knd o more → Heap.SameBut d s.heap h' → Q () { s with heap := h' })
    (hsz : kvs.length + more.length ≤ sizeLine := by size_fits) :
    wpAny (model prog w) A (mergeMapping d (.ref o) false) Q E s := by
  obtain ⟨od, esd, epd, hod, hcd, hdd, hkd, hpd, hnd⟩ := id hd
  obtain ⟨oo, eso, epo, hoo, hco, hdo', hko, hpo, hno⟩ := id ho
  have hlen : more.length = eso.size := by rw [← hpo.length]; simp
  unfold mergeMapping
  refine wpAny_bind (wpAny_isInstance ho.typeIs isSubtype_dict_dict ?_)
  dsimp only
  rw [if_pos rfl]
  refine wpAny_bind (wpAny_specialOf ho.typeIs F.slot_dict_iter.lookup ?_)
  refine wpAny_bind (wpAny_pure ?_)
  have e0 : (some (Value.builtin "dict.__iter__") == some (Value.builtin "dict.__iter__")) = true := by simp
  rw [e0]
  dsimp only
  rw [if_neg (by rw [hoS]; exact Bool.false_ne_true)]
  have loop : wpAny (model prog w) A (do
      let l0 ← dictEntries o
      let epoch ← dictEpoch o
      forIn (List.range l0.size) PUnit.unit fun i (_ : PUnit) => (do
          let l' ← dictEntries o
          match l'[i]? with
            | some e => do
              holding [e.key, e.val] (if false = true then do
                      let r ← dictFind d e.key e.hash
                      if r.isSome = true then do
                          rule "dict.merge.duplicate-key"
                          let x ← newExc (Value.type "KeyError") [e.key]
                          raiseNew x
                          dictPut d e.hash e.key e.val
                        else dictPut d e.hash e.key e.val
                    else dictPut d e.hash e.key e.val)
              let ep' ← dictEpoch o
              if (ep' != epoch) = true then do
                  (unsupported "dict.changed-during-merge" : Sem PUnit)
                  pure (ForInStep.yield PUnit.unit)
                else pure (ForInStep.yield PUnit.unit)
            | _ => do
              (unsupported "dict.changed-during-merge" : Sem PUnit)
              pure (ForInStep.yield PUnit.unit) : Sem (ForInStep PUnit))
      pure ()) Q E s := by
    refine wpAny_bind (wpAny_dictEntries hoo hdo' ?_)
    refine wpAny_bind (wpAny_dictEpoch hoo hdo' ?_)
    refine wpAny_bind ?_
    refine wpAny_forIn_list _
      (fun rest _ s' => ∃ h' i, s' = { s with heap := h' } ∧ rest = List.range' i (eso.size - i) ∧ i ≤ eso.size ∧ h'.DictOf knd d (merged kvs (more.take i)) ∧ h'.get? o = some oo ∧ Heap.SameBut d s.heap h')
      _ ?_ ?_ _ _ ⟨s.heap, 0, rfl, by simp [List.range_eq_range'], Nat.zero_le _, by simpa [merged] using hd, hoo, Heap.SameBut.refl _ _⟩
    · rintro x rest b s' ⟨h', i, rfl, hr, hi, hd', hoo', hs'⟩
      have hlt : i < eso.size := by
        rcases Nat.lt_or_ge i eso.size with h | h
        · exact h
        · rw [Nat.sub_eq_zero_of_le h] at hr; simp at hr
      obtain ⟨rfl, hrest⟩ : x = i ∧ rest = List.range' (i + 1) (eso.size - (i + 1)) := by
        have e : eso.size - i = (eso.size - (i + 1)) + 1 := by omega
        rw [e, List.range'_succ] at hr
        injection hr with h1 h2
        exact ⟨h1, h2⟩
      refine wpAny_bind (wpAny_dictEntries hoo' hdo' ?_)
      rw [Array.getElem?_eq_getElem hlt]
      obtain ⟨kv, hkv⟩ : ∃ kv, more[x]? = some kv := ⟨more[x]'(by rw [hlen]; exact hlt), List.getElem?_eq_getElem _⟩
      obtain ⟨k, v⟩ := kv
      obtain ⟨hkey, hval⟩ := hpo.get? (e := eso[x]) (by simp [hlt]) hkv
      obtain ⟨k', hkey', hhash⟩ := hko eso[x] (Array.getElem_mem hlt)
      obtain rfl : k' = k := knd.inj _ _ _ hkey' hkey
      have hmx : (merged kvs (more.take x)).length ≤ sizeLine := by
        have e1 := merged_length_le kvs (more.take x)
        have e2 : (more.take x).length ≤ more.length := by rw [List.length_take]; omega
        omega
      refine wpAny_bind (wpAny_holding ?_)
      rw [if_neg (by decide), hhash, hval]
      refine wpAny_dictPut_pairs (hsz := hmx) hkey hd' fun h'' hd'' hs'' => ?_
      have hoo'' : h''.get? o = some oo := (hs''.2 o (Ne.symm hdo)).trans hoo'
      refine wpAny_bind (wpAny_dictEpoch hoo'' hdo' ?_)
      rw [if_neg (by simp)]
      exact wpAny_pure ⟨h'', x + 1, rfl, hrest, hlt, by rw [merged_take_succ kvs more x (k', v) hkv]; exact hd'', hoo'', hs'.trans hs''⟩
    · rintro b s' ⟨h', i, rfl, hr, hi, hd', hoo', hs'⟩
      have hin : i = eso.size := by
        rcases Nat.lt_or_ge i eso.size with h | h
        · have e : eso.size - i = (eso.size - (i + 1)) + 1 := by omega
          rw [e, List.range'_succ] at hr; exact nomatch hr
        · exact Nat.le_antisymm hi h
      refine wpAny_pure (hQ h' ?_ ⟨oo, eso, epo, hoo', hco, hdo', hko, hpo, hno⟩ hs')
      rw [hin, ← hlen, List.take_length] at hd'; exact hd'
  refine wpAny_bind (wpAny_dictEntries hod hdd ?_)
  split
  · refine wpAny_bind (wpAny_dictEntries hoo hdo' ?_)
    refine wpAny_bind ?_
    rw [← Array.forIn_toList]
    refine wpAny_forIn_list _ (fun rest _ s' => s' = s ∧ ∀ e ∈ rest, e ∈ eso) _ ?_ ?_ _ _ ⟨rfl, fun e he => by simpa using he⟩
    · rintro x rest b s' ⟨rfl, hr⟩
      obtain ⟨k, hk, _⟩ := hko x (hr x List.mem_cons_self)
      have hx : ∀ a, x.key ≠ .ref a := fun a e => by rw [e, hnr] at hk; exact nomatch hk
      cases hkey : x.key with
      | ref a => exact absurd hkey (hx a)
      | _ => exact wpAny_pure ⟨rfl, fun e he => hr e (List.mem_cons_of_mem _ he)⟩
    · rintro b s' ⟨rfl, _⟩
      exact loop
  · exact loop
end
end PySem
namespace VL
open PySem PySem.Spec PyProof.Rows L2
/-- {**e, k: v} -/
def tStar (te tk tv : TE) : TE := fun σ H Q => ∀ p, H p = none → te σ (upd H p (.dK [])) fun x H1 => ∃ (a : Addr) (ks : List (Key × V)), x = .ref a ∧ a ≠ p ∧ H1 a = some (.dK ks) ∧ H1 p = some (.dK []) ∧ ks.length ≤ 1000 ∧
  ∀ q, (upd H1 p (.dK (mergeK [] ks))) q = none → tk σ (upd (upd H1 p (.dK (mergeK [] ks))) q (.dK [])) fun y H2 => tv σ H2 fun z H3 => ∃ (k : Key) (ks1 : List (Key × V)), y = kV k ∧ H3 q = some (.dK []) ∧ H3 p = some (.dK ks1) ∧ ks1.length ≤ 1000 ∧
    Q (.ref p) (upd (upd H3 q (.dK [(k, z)])) p (.dK (putK ks1 k z)))
theorem mix_ref (P : Program) (w : World) : ∀ (k : Key) (a : Addr), (mixKind P w).is k (.ref a) = false := fun k a => by
  cases e : (mixKind P w).is k (.ref a) with
  | false => rfl
  | true => rcases keyIs_shape e with ⟨i, t, _, h⟩ | ⟨x, t, _, h⟩ <;> exact nomatch h
theorem pe_star {X : Cx} {pos : Pos} {e k v : Expr} {te tk tv : TE} (he : PE X e te) (hk : PE X k tk) (hv : PE X v tv) : PE X (.Dict [none, some k] [e, v] pos) (tStar te tk tv) := by
  refine ⟨fun pins s σ H Q I h => ?_⟩
  have hn := I.hok.fresh (Nat.le_refl s.heap.objs.size)
  have I1 := I.laid (a := s.heap.objs.size) (o := .dK []) (h' := s.heap.push { cls := .type "dict", data := .dict #[] }) (t' := s.toks) (fun _ _ q => Heap.get?_push_of_some _ q) (Nat.le_refl _) (dk_empty s.heap I.big)
  rw [arm_eval_Dict]
  refine wpAny_bind (wpAny_standAt ?_)
  show wpAny _ _ (dictDisplay [(none, do let x ← eval e X.env; standAt pos; pure x), (some (eval k X.env), do let x ← eval v X.env; standAt pos; pure x)]) _ _ _
  unfold dictDisplay
  dsimp only
  rw [List.forIn_cons]
  dsimp only
  refine wpAny_bind (wpAny_bind (wpAny_bind ?_))
  rw [if_pos (show ([] : List (Sem Value × Sem Value)).isEmpty = true from rfl)]
  refine wpAny_pure ?_
  dsimp only
  refine wpAny_bind (wpAny_alloc ?_)
  refine wpAny_bind (wpAny_holding (wpAny_bind (thn (he.run pins _ σ _ _ I1 (h _ hn)) fun u s1 ⟨x, H1, I2, rx, a, ks, ex, hap, ha, hp, hl, q1⟩ => ?_)))
  subst ex
  obtain rfl : u = Value.ref a := rx
  refine wpAny_bind (wpAny_standAt (wpAny_pure ?_))
  obtain ⟨_, hsP, vp, rp, dp⟩ := dk_of I2.hok hp
  obtain ⟨_, hsA, va, ra, da⟩ := dk_of I2.hok ha
  cases rp
  have la : va.length ≤ 1000 := by rw [← ra.length]; exact hl
  refine wpAny_bind (wpAny_onRaise (wpAny_tryCatch (wpAny_onRaise (wpAny_holding (wpAny_mergeMapping (mix_ref X.prog X.w) (Ne.symm hap) hsA dp da (fun h' dd' oo' hs => ?_) (by rw [sizeLine_eq, List.length_nil]; omega))))))
  refine wpAny_pure ?_
  have hm1 : (mergeK [] ks).length ≤ sizeLine := by
    have := length_mergeK ks []
    rw [List.length_nil] at this
    rw [sizeLine_eq]; omega
  have I3 : Inv X pins σ (upd H1 s.heap.objs.size (.dK (mergeK [] ks))) { s1 with heap := h' } := by
    have hex : ∃ q, h'.get? s.heap.objs.size = some q := let ⟨q, _, _, hq, _⟩ := dd'; ⟨q, hq⟩
    exact d_write (t' := s1.toks) I2 (by rw [hp]; exact True.intro) hs hex (dk_new hm1 hsP (KV.merge ra .nil) dd')
  dsimp only
  rw [List.forIn_cons]
  dsimp only
  rw [if_neg (by simp)]
  refine wpAny_bind (wpAny_bind (wpAny_pure ?_))
  refine wpAny_pure ?_
  dsimp only
  rw [List.forIn_nil]
  refine wpAny_pure ?_
  dsimp only
  rw [if_neg (by simp)]
  have hn2 := I3.hok.fresh (Nat.le_refl h'.objs.size)
  have I4 := I3.laid (a := h'.objs.size) (o := .dK []) (h' := h'.push { cls := .type "dict", data := .dict #[] }) (t' := s1.toks) (fun _ _ q => Heap.get?_push_of_some _ q) (Nat.le_refl _) (dk_empty h' I3.big)
  refine wpAny_bind (wpAny_bind (wpAny_holding (wpAny_subDict (knd := mixKind X.prog X.w) (by simp) ?_)))
  refine wpAny_mono ((pps_cons (pos := pos) hk hv pps_nil).run pins _ σ _ (fun ps H3 => match ps with
    | [(y, z)] => ∃ (kk : Key) (ks1 : List (Key × V)), y = kV kk ∧ H3 h'.objs.size = some (.dK []) ∧ H3 s.heap.objs.size = some (.dK ks1) ∧ ks1.length ≤ 1000 ∧
        Q (.ref s.heap.objs.size) (upd (upd H3 h'.objs.size (.dK [(kk, z)])) s.heap.objs.size (.dK (putK ks1 kk z)))
    | _ => False) I4 (q1 _ hn2)) (fun ws s3 ⟨ps, H3, I5, rel, q3⟩ => ?_) fun _ _ e => e
  match ps, rel, q3 with
  | [(y, z)], rel, ⟨kk, ks1, ey, hq3, hp3, hl3, q3⟩ =>
    subst ey
    obtain ⟨rs, c, rk⟩ := carries_of (P := X.prog) (w := X.w) (kvs := [(kk, z)]) rel
    obtain ⟨_, hsQ, vq, rq, dq⟩ := dk_of I5.hok hq3
    cases rq
    refine ⟨rs, c, dq, fun h2 dd2 hs2 => ?_⟩
    have hex2 : ∃ q, h2.get? h'.objs.size = some q := let ⟨q, _, _, hq, _⟩ := dd2; ⟨q, hq⟩
    have I6 := d_write (t' := s3.toks + ws.length) I5 (by rw [hq3]; exact True.intro) hs2 hex2 (dk_new (kvs := mergeK [] [(kk, z)]) (by show 1 ≤ sizeLine; decide) hsQ (KV.merge rk .nil) dd2)
    have eM : mergeK [] [(kk, z)] = [(kk, z)] := rfl
    rw [eM] at I6
    have hne : s.heap.objs.size ≠ h'.objs.size := fun e => by
      rw [← e, upd_same] at hn2
      exact nomatch hn2
    have hp4 : upd H3 h'.objs.size (.dK [(kk, z)]) s.heap.objs.size = some (.dK ks1) := by rw [upd_ne hne]; exact hp3
    have hq4 : upd H3 h'.objs.size (.dK [(kk, z)]) h'.objs.size = some (.dK [(kk, z)]) := upd_same
    obtain ⟨_, _, v1, r1, d1⟩ := dk_of I6.hok hp4
    obtain ⟨_, _, v2, r2, d2⟩ := dk_of I6.hok hq4
    have l1 : v1.length ≤ 1000 := by rw [← r1.length]; exact hl3
    have l2 : v2.length = 1 := by rw [← r2.length]; rfl
    refine wpAny_bind (wpAny_onRaise (wpAny_holding (wpAny_mergeMapping (mix_ref X.prog X.w) hne hsQ d1 d2 (fun h3 dd3 oo3 hs3 => ?_) (by rw [sizeLine_eq]; omega))))
    refine wpAny_pure ?_
    have hex3 : ∃ q, h3.get? s.heap.objs.size = some q := let ⟨q, _, _, hq, _⟩ := dd3; ⟨q, hq⟩
    have hm3 : (mergeK ks1 [(kk, z)]).length ≤ sizeLine := by
      have := length_mergeK [(kk, z)] ks1
      have e1 : [(kk, z)].length = 1 := rfl
      rw [sizeLine_eq]; omega
    have I7 := d_write (t' := s3.toks + ws.length) I6 (by rw [hp4]; exact True.intro) hs3 hex3 (dk_new hm3 hsP (KV.merge r2 r1) dd3)
    exact wpAny_pure ⟨.ref s.heap.objs.size, _, I7, rfl, q3⟩
  | [], _, q3 => exact q3.elim
  | _ :: _ :: _, _, q3 => exact q3.elim
/-- a local name that holds one of the text's defs, called -/
def tCallT (P : Program) (w : World) (K : PySem.W.Frag) (mg : Str → Option Value) (base : Heap) (j i : Nat) (t : TA) : TE := fun σ H Q => ∃ (x : Str) (k : Nat) (sp : Sp) (f : Addr), k ≤ j ∧ Cal P w K mg base k x sp ∧ mg x = some (.ref f) ∧
  σ[i]? = some (some (.ref f)) ∧ t σ H fun vs H1 => sp vs H1 Q E0
section
variable {X : Cx} {j i : Nat} {x : Str} {p pos : Pos} {e : Expr} {es : List Expr} {t : TA}
theorem pe_callT (hr : Room j X.A) (hN : X.N[i]? = some x) (hv : Vis X.env.scope x) (ha : PA X (e :: es) t)
    (hd : (x == ("__debug__" : Str)) = false := by decide) (hcd : (x == ("__classdict__" : Str)) = false := by decide)
    (he : starEach (e :: es) X.env = (false, eval e X.env) :: starEach es X.env := by rfl) (hpl : (backTo pos (starEach es X.env)).any (·.1) = false := by rfl) :
    PE X (.Call (.Name x p) (e :: es) [] pos) (tCallT X.prog X.w X.K X.mg X.base j i t) := by
  refine ⟨fun pins s σ H Q I h => ?_⟩
  obtain ⟨y, k, sp, f, hk, c, hm, hs, ht⟩ := h
  obtain ⟨f2, fd, ps, F, hm2, kp, b⟩ := c.ex
  obtain rfl : f = f2 := by
    rw [hm] at hm2
    injection hm2 with e1
    injection e1
  refine wpAny_Call_Name_kw (thn ((pe_var (pos := p) hN hv hd hcd).run pins s σ H (fun v H1 => v = .ref f ∧ H1 = H) I ⟨.ref f, hs, rfl, rfl⟩) fun u s1 ⟨v, H1, I1, r1, q1⟩ => ?_)
  obtain ⟨rfl, rfl⟩ := q1
  cases r1
  refine PySem.W.callWith_K (h₀ := X.base) I.ok.mod.kin kp (thn (ha.run pos pins s1 σ _ _ I1 ht) fun us s2 ⟨vs, H2, I2, r, q⟩ => ⟨I2.kIn, ?_⟩) he hpl
  exact run_fn F (hr.mono hk) b .nil pass0 I2 r (by rw [List.append_nil]; exact q)
end
/-- an entry of a dict of the module that holds a def -/
def EntT (K : PySem.W.Frag) (w : World) (mg : Str → Option Value) (a : Addr) (key x : Str) : Prop := ∃ f, mg x = some (.ref f) ∧ KDct K w a key (.ref f)
end VL

set_option Elab.async false
set_option linter.all false
set_option maxRecDepth 100000
set_option maxHeartbeats 4000000
namespace VL
open PySem PySem.Spec PyProof.Rows L2
/-! ### a part of a heap, and a few objects beside it that change -/
structure Sb (G H : Hp) (M : List (Addr × HO)) : Prop where
  s : Same G H
  m : ∀ p ∈ M, G p.1 = none ∧ H p.1 = some p.2
  nd : (M.map (·.1)).Nodup
def joinH (G N : Hp) : Hp := fun b => match G b with
  | some o => some o
  | none => N b
theorem joinH_l {G N : Hp} : Same G (joinH G N) := fun b o e => by
  unfold joinH
  rw [e]
theorem joinH_r {G H H' : Hp} (s : Same G H) : Same (newer H H') (joinH G (newer H H')) := fun b o e => by
  obtain ⟨z, _⟩ := newer_some e
  unfold joinH
  cases g : G b with
  | none => exact e
  | some u => rw [s _ _ g] at z; exact nomatch z
theorem Sb.alloc {G H : Hp} {M : List (Addr × HO)} {t : Addr} {o : HO} (S : Sb G H M) (h : H t = none) : Sb (upd G t o) (upd H t o) M := by
  refine ⟨fun b u e => ?_, fun p hp => ?_, S.nd⟩
  · by_cases z : b = t
    · subst z
      rw [upd_same] at e ⊢
      exact e
    · rw [upd_ne z] at e ⊢
      exact S.s _ _ e
  · obtain ⟨h1, h2⟩ := S.m p hp
    have n : p.1 ≠ t := ne_of_none h2 h
    rw [upd_ne n, upd_ne n]
    exact ⟨h1, h2⟩
theorem Sb.gnone {G H : Hp} {M : List (Addr × HO)} {t : Addr} (S : Sb G H M) (h : H t = none) : G t = none := Same.free S.s h
theorem Sb.grow {G H : Hp} {M : List (Addr × HO)} {t : Addr} {o : HO} (S : Sb G H M) (h : H t = none) : Same G (upd G t o) := fun b u e => by rw [upd_ne (ne_of_none e (S.gnone h))]; exact e
theorem Sb.call {G H H' : Hp} {M : List (Addr × HO)} (S : Sb G H M) (s : Same H H') : Sb (joinH G (newer H H')) H' M := by
  refine ⟨fun b u e => ?_, fun p hp => ?_, S.nd⟩
  · unfold joinH at e
    cases g : G b with
    | some o => rw [g] at e; rw [← e]; exact s _ _ (S.s _ _ g)
    | none => rw [g] at e; exact (newer_some e).2
  · obtain ⟨h1, h2⟩ := S.m p hp
    refine ⟨?_, s _ _ h2⟩
    unfold joinH
    rw [h1]
    show newer H H' p.1 = none
    unfold newer
    rw [h2]
theorem Sb.add {G H : Hp} {M : List (Addr × HO)} {t : Addr} {o : HO} (S : Sb G H M) (h : H t = none) : Sb G (upd H t o) ((t, o) :: M) := by
  refine ⟨fun b u e => by rw [upd_ne (ne_of_none (S.s _ _ e) h)]; exact S.s _ _ e, fun p hp => ?_, ?_⟩
  · rcases List.mem_cons.mp hp with rfl | hp
    · exact ⟨S.gnone h, upd_same⟩
    · obtain ⟨h1, h2⟩ := S.m p hp
      exact ⟨h1, by rw [upd_ne (ne_of_none h2 h)]; exact h2⟩
  · rw [List.map_cons, List.nodup_cons]
    refine ⟨fun hm => ?_, S.nd⟩
    obtain ⟨p, hp, e⟩ := List.mem_map.mp hm
    have := (S.m p hp).2
    rw [e] at this
    rw [show H (t, o).1 = none from h] at this
    exact nomatch this
theorem Sb.put {G H : Hp} {M : List (Addr × HO)} {t : Addr} {o : HO} {u : HO} (S : Sb G H ((t, o) :: M)) : Sb G (upd H t u) ((t, u) :: M) := by
  have nd := S.nd
  rw [List.map_cons, List.nodup_cons] at nd
  have gt := (S.m (t, o) List.mem_cons_self).1
  refine ⟨fun b v e => by rw [upd_ne (ne_of_none e gt)]; exact S.s _ _ e, fun p hp => ?_, ?_⟩
  · rcases List.mem_cons.mp hp with rfl | hp
    · exact ⟨gt, upd_same⟩
    · obtain ⟨h1, h2⟩ := S.m p (List.mem_cons_of_mem _ hp)
      have n : p.1 ≠ t := fun z => nd.1 (List.mem_map.mpr ⟨p, hp, z⟩)
      exact ⟨h1, by rw [upd_ne n]; exact h2⟩
  · rw [List.map_cons, List.nodup_cons]
    exact nd
theorem Sb.swap {G H : Hp} {M : List (Addr × HO)} {p q : Addr × HO} (S : Sb G H (p :: q :: M)) : Sb G H (q :: p :: M) := by
  have nd := S.nd
  refine ⟨S.s, fun r hr => S.m r ?_, ?_⟩
  · rcases List.mem_cons.mp hr with rfl | hr
    · exact List.mem_cons_of_mem _ List.mem_cons_self
    · rcases List.mem_cons.mp hr with rfl | hr
      · exact List.mem_cons_self
      · exact List.mem_cons_of_mem _ (List.mem_cons_of_mem _ hr)
  · simp only [List.map_cons, List.nodup_cons, List.mem_cons] at nd ⊢
    refine ⟨fun z => ?_, fun z => nd.1 (.inr z), nd.2.2⟩
    rcases z with z | z
    · exact nd.1 (.inl z.symm)
    · exact nd.2.1 z
theorem Sb.drop {G H : Hp} {M : List (Addr × HO)} {t : Addr} {o : HO} (S : Sb G H ((t, o) :: M)) : Sb (upd G t o) H M ∧ Same G (upd G t o) := by
  have nd := S.nd
  rw [List.map_cons, List.nodup_cons] at nd
  obtain ⟨gt, ht⟩ := S.m (t, o) List.mem_cons_self
  refine ⟨⟨fun b u e => ?_, fun p hp => ?_, nd.2⟩, fun b u e => by rw [upd_ne (ne_of_none e gt)]; exact e⟩
  · by_cases z : b = t
    · subst z
      rw [upd_same] at e
      rw [← e]
      exact ht
    · rw [upd_ne z] at e
      exact S.s _ _ e
  · obtain ⟨h1, h2⟩ := S.m p (List.mem_cons_of_mem _ hp)
    have n : p.1 ≠ t := fun z => nd.1 (List.mem_map.mpr ⟨p, hp, z⟩)
    exact ⟨by rw [upd_ne n]; exact h1, h2⟩
theorem Sb.hd {G H : Hp} {M : List (Addr × HO)} {p : Addr × HO} (S : Sb G H (p :: M)) : H p.1 = some p.2 := (S.m p List.mem_cons_self).2
theorem Sb.hd2 {G H : Hp} {M : List (Addr × HO)} {p q : Addr × HO} (S : Sb G H (q :: p :: M)) : H p.1 = some p.2 := (S.m p (List.mem_cons_of_mem _ List.mem_cons_self)).2
theorem Sb.nil {H : Hp} : Sb H H [] := ⟨Same.refl _, (fun _ h => nomatch h), List.nodup_nil⟩
end VL

set_option Elab.async false
set_option linter.all false
set_option maxRecDepth 100000
set_option maxHeartbeats 4000000
namespace VL
open PySem PySem.Spec PyProof.Rows L2
theorem Sb.put2 {G H : Hp} {M : List (Addr × HO)} {p : Addr × HO} {t : Addr} {o u : HO} (S : Sb G H (p :: (t, o) :: M)) : Sb G (upd H t u) (p :: (t, u) :: M) := S.swap.put.swap
theorem Sb.more {G H H' : Hp} {M : List (Addr × HO)} (S : Sb G H M) (s : Same H H') : ∃ G', Sb G' H' M ∧ Same G G' := ⟨_, S.call s, joinH_l⟩
theorem flat_one {α : Type} (l : List α) : (l.map fun c => [c]).flatten = l := by
  induction l with
  | nil => rfl
  | cons c cs ih => simp [ih]
theorem valV_in2 {k : Key} : ∀ {ks : List (Key × V)}, k ∈ ks.map (·.1) → (valV ks k).isSome = true
  | p :: ks, h => by
    by_cases e : p.1 = k
    · rw [valV_pos e]
      rfl
    · rw [valV_neg e]
      refine valV_in2 ?_
      rcases List.mem_cons.mp (show k ∈ p.1 :: ks.map (·.1) from h) with z | z
      · exact absurd z.symm e
      · exact z
end VL

set_option Elab.async false
set_option linter.all false
set_option maxRecDepth 100000
set_option maxHeartbeats 4000000
namespace PySem.W
open PySem PyProof.Rows
section
variable {prog : Program} {w : World} {A A₀ : Around} {E : Value → Shared → Prop} {s : Shared} {K : Frag} {x C L f : Addr} {h₀ : Heap} {m : Str → Option Value} {ox : Obj} {od : Option Obj} {name : Str} {b tb : Value}
theorem ifBound_B {M : Model} {id : String} {T : String} {nm : Str} {args : List Value} {Q : Option Value → Shared → Prop} (X : K.In s.heap) (I : InstAt s.heap x ox C od) (hs : findIn K (.ref C) name = some (some (.builtin id))) (S : Slot T nm id)
    (h : wpAny M A (call (.builtin id) (.ref x :: args)) (fun v => Q (some v)) E s) : wpAny M A (callSpecialIfBound? (.ref x) name args) Q E s := by
  simp only [callSpecialIfBound?, bindSpecialIfBound?]
  refine wpAny_holding (wpAny_bind (wpAny_bind (wpAny_bind (I.type.here ((looks_findIn X hs).here ?_)))))
  simp only [S.bind]
  refine wpAny_bind (wpAny_askSetting (wpAny_ite ?_))
  have fin : wpAny M A (call (.builtin id) ([.ref x] ++ args) >>= fun v => pure (some v)) Q E s := wpAny_bind (wpAny_mono h (fun v s' h' => wpAny_pure h') fun _ _ h' => h')
  split
  · exact wpAny_bind (wpAny_pure (wpAny_pure (by exact fin)))
  · exact wpAny_tryCatch (wpAny_bind (wpAny_pure (wpAny_pure (by exact fin))))
theorem objNe_K {Q : Fin → Shared → Prop} (X : K.In s.heap) (I : InstAt s.heap x ox C od) (hs : findIn K (.ref C) "__eq__" = some (some (.ref f))) (hf : isFn K (.ref f) = true) (hu : A.units < cLine)
    (hcall : wpAny (model prog w) A (call (.ref f) [.ref x, b]) (fun v s' => ∃ r, v = .bool r ∧ Q (.done (.ret (.bool (!r)))) s') E s) :
    wpAny (model prog w) A (Builtin.«object.__ne__» ⟨[.ref x, b], []⟩) Q E s := by
  obtain ⟨hp, g, d, t, os⟩ := s
  unfold Builtin.«object.__ne__»
  repeat (first
    | with_reducible refine wpAny_cRoomFor hu ?_
    | (refine wpAny_bind (m := callSpecialIfBound? (.ref x) (Str.ofString "__eq__") [b])
        (ifBound_K X I hs hf (wpAny_mono hcall (fun r s' hr => by
          obtain ⟨z, rfl, hq⟩ := hr
          repeat (first | exact hq | exact wpAny_pure hq | exact wpAny_truthy_bool hq | (refine wpAny_bind (m := truthy (.bool _)) (wpAny_truthy_bool ?_)) | wp_step)) fun _ _ e => e)))
    | wp_step)
/-- x != b by the own == of x's class -/
theorem ne_K {Q : Value → Shared → Prop} (hu : A.units + 1 < cLine) (F : Fr h₀ L s.heap m) (X₀ : K.In h₀) (I : InstAt s.heap x ox C od) (hb : Looks (model prog w) s.heap (typeOf b) tb) (hn : notFirst K C tb = true)
    (hN : findIn K (.ref C) "__ne__" = some (some (.builtin "object.__ne__"))) (hob : mroIn K C (.type "object") = some true) (hs : findIn K (.ref C) "__eq__" = some (some (.ref f))) (hf : isFn K (.ref f) = true)
    (h : wpAny (model prog w) A.in1 (call (.ref f) [.ref x, b]) (fun v s' => ∃ r, v = .bool r ∧ Q (.bool (!r)) s') E s) : wpAny (model prog w) A (richCompare .NotEq (.ref x) b) Q E s := by
  have X := X₀.keeps F.keep
  have S : Slot "zip" "__ne__" "object.__ne__" := PySem.F.slot_zip_ne
  have sub : Looks (model prog w) s.heap (isInstance (.ref x) (.type "object")) true := I.type.andThen (looks_mroIn X hob)
  have one : wpAny (model prog w) A (tryCompare (.ref x) "__ne__" b) (fun r s' => ∃ v, r = some v ∧ Q v s') E s := by
    unfold tryCompare
    refine wpAny_bind (ifBound_B X I hN S (wpAny_call (codeAny_call_builtin S.plain PySem.F.cmpEntry_ne
      (@check_slot (model prog w) _ _ s "object.__ne__" "object" "__ne__" (.ref x) [b] [] _ PySem.F.cmpKind_ne PySem.F.cmpSplit_ne sub (PySem.F.cmpArgs_ne _ _)
        (objNe_K (A := A.in1) X I hs hf hu (wpAny_mono h (fun v s' hv => ?_) fun _ _ e => e))))))
    obtain ⟨r, rfl, hq⟩ := hv
    exact ⟨r, rfl, wpAny_pure ⟨_, rfl, hq⟩⟩
  unfold richCompare
  simp only [oneThing_ref]
  refine wpAny_holding (wpAny_bind (wpAny_cRoomFor (Nat.lt_of_succ_lt hu) ?_))
  rw [show (cmpInfo .NotEq).2.1 = "__ne__" from rfl]
  refine wpAny_bind (I.type.here (wpAny_bind (hb.here ?_)))
  split
  · rename_i q
    have e : subIn K tb (.ref C) = some false := by
      rcases Bool.or_eq_true_iff.mp hn with e | e
      · rw [beq_iff_eq.mp e] at q; simp at q
      · exact beq_iff_eq.mp e
    refine wpAny_bind ((looks_subIn X e).here ?_)
    simp only [Bool.false_eq_true, if_false]
    refine wpAny_bind (wpAny_mono one (fun r s' z => ?_) fun _ _ e => e)
    obtain ⟨v, rfl, hq⟩ := z
    exact wpAny_pure hq
  · refine wpAny_bind (wpAny_pure ?_)
    simp only [Bool.false_eq_true, if_false]
    refine wpAny_bind (wpAny_mono one (fun r s' z => ?_) fun _ _ e => e)
    obtain ⟨v, rfl, hq⟩ := z
    exact wpAny_pure hq
end
end PySem.W
namespace L2
open PySem PySem.Spec PyProof.Rows
def rNeG (D : Eqv) : R2 := fun x y H Q => D x y H ∧ ∀ H', Ext H H' → Q (.bl false) H'
section
variable {X : Cx} {n : Nat}
theorem op_neIns {CX : CXT} {C f : Addr} {fd : FuncData} {ps : List Str} {R : Addr → Addr → Hp → Prop} {E : XK} (F : FnOk X.prog X.w X.K X.mg X.base CX n f fd ps (spEq R))
    (hN : PySem.W.findIn X.K (.ref C) "__ne__" = some (some (.builtin "object.__ne__"))) (hob : PySem.W.mroIn X.K C (.type "object") = some true)
    (hs : PySem.W.findIn X.K (.ref C) "__eq__" = some (some (.ref f))) (hf : PySem.W.isFn X.K (.ref f) = true) (hb : Binds X.K fd ps []) (hx : Passes CX X E) (hr : Room (n + 1) X.A) : OpR X (compareOp .NotEq) (rNeG (DIns C R)) := by
  intro pins s σ H x y v u Q I rx ry hq
  obtain ⟨⟨a, b, dx, dy, fs, gs, rfl, rfl, ha, hb', hR⟩, q⟩ := hq
  cases rx
  cases ry
  show wpAny (model X.prog X.w) X.A (richCompare .NotEq (.ref a) (.ref b)) (EP X pins σ Q) X.xe s
  obtain ⟨mA, J, _⟩ := ins_get I.hok ha
  obtain ⟨mB, J', _⟩ := ins_get I.hok hb'
  obtain ⟨od, J, _⟩ := J.look
  obtain ⟨od', J', _⟩ := J'.look
  obtain ⟨m, hF⟩ := I.fr
  refine PySem.W.ne_K (tb := .ref C) (by have := hr.units; omega) hF I.ok.mod.kin J J'.type (by simp [PySem.W.notFirst]) hN hob hs hf ?_
  have hsp : spEq R [.ref a, .ref b] H (fun v H' => v = .bl true ∧ Ext H H') E := ⟨a, b, rfl, hR, fun H' e => ⟨rfl, e⟩⟩
  have e0 : Env0 X.prog X.w X.K X.mg X.base X.A.in1 X.stack s H := by
    have e := I.env0
    exact ⟨e.frames, e.mod, e.bs, e.bsz, e.funs, e.frf, e.hok, e.bare⟩
  have hl := F.len _ _ _ _ hsp
  have r2 : Vals [V.ref a, V.ref b] [Value.ref a, Value.ref b] := .cons rfl (.cons rfl .nil)
  refine wpAny_call (codeAny_mono (F.run X.A.in1 X.stack s H ⟨[.ref a, .ref b], []⟩ [.ref a, .ref b] [.ref a, .ref b] _ E hr.in1 e0 (by
    have := hb s [.ref a, .ref b] I.kIn (by simpa using hl)
    simpa using this) r2 hsp) fun r s' hq => ?_)
  cases r with
  | error e => exact hx pins σ H s e s' I hq
  | ok fl =>
    cases fl with
    | ret w =>
      obtain ⟨z, H', I', rz, ez, ex⟩ := I.after hq
      subst ez
      cases rz
      exact ⟨true, rfl, .bl false, H', I', rfl, q H' ex⟩
    | next => exact False.elim hq
    | brk => exact False.elim hq
    | cont => exact False.elim hq
end
end L2

set_option Elab.async false
set_option linter.all false
set_option maxRecDepth 100000
set_option maxHeartbeats 4000000
/-! sleeping generators stay as they are: a run over a state in which they cannot be woken goes the same where they can -/
namespace VG
open PySem
open Sem (wp)
def Frame.strip : Frame → Frame
  | .gen _ _ l c p => .ret (fun _ => .unsupported "") none false l c p []
  | f => f
theorem strip_where (f : Frame) : (Frame.strip f).where_ = f.where_ := by cases f <;> rfl
/-- no generator's frame among them -/
def NoGen (fs : List Frame) : Prop := ∀ f ∈ fs, ∀ g k l c p, f ≠ .gen g k l c p
theorem NoGen.nil : NoGen [] := fun _ h => nomatch h
theorem NoGen.tail {f : Frame} {fs : List Frame} (h : NoGen (f :: fs)) : NoGen fs := fun x hx => h x (List.mem_cons_of_mem _ hx)
theorem NoGen.app {l r : List Frame} (a : NoGen l) (b : NoGen r) : NoGen (l ++ r) := fun x hx => (List.mem_append.mp hx).elim (a x) (b x)
theorem NoGen.one {k h g l c p kp} : NoGen [.ret k h g l c p kp] := fun x hx => by
  rw [List.mem_singleton.mp hx]
  intro _ _ _ _ _ e
  cases e
theorem NoGen.strip (fs : List Frame) : NoGen (fs.map Frame.strip) := fun x hx => by
  obtain ⟨y, _, rfl⟩ := List.mem_map.mp hx
  intro _ _ _ _ _ e
  cases y <;> cases e
theorem NoGen.split : ∀ {fs : List Frame}, NoGen fs → splitAtGen fs = none
  | [], _ => rfl
  | .gen g k l c p :: fs, h => absurd rfl (h _ List.mem_cons_self g k l c p)
  | .ret _ _ _ _ _ _ _ :: fs, h => by
    show (splitAtGen fs).map _ = none
    rw [NoGen.split h.tail]
    rfl
/-- asleep for ever -/
def dead : GenState → GenState
  | .suspended _ l c p fs cl => .suspended (fun _ => .unsupported "") l c p (fs.map Frame.strip) cl
  | x => x
theorem dead_seen (x : GenState) : (dead x).seen = x.seen := by
  cases x with
  | suspended k l c p fs cl =>
    show (GenStatus.suspended, some ((c, p) :: (fs.map Frame.strip).map Frame.where_)) = (GenStatus.suspended, some ((c, p) :: fs.map Frame.where_))
    rw [List.map_map]
    have : Frame.where_ ∘ Frame.strip = Frame.where_ := funext strip_where
    rw [this]
  | _ => rfl
def Susp : GenState → Prop
  | .suspended .. => True
  | _ => False
def EndNG : End → Prop
  | .susp _ _ _ _ _ _ fs => NoGen fs
  | _ => True
def StNG : GenState → Prop
  | .suspended _ _ _ _ fs _ => NoGen fs
  | _ => True
theorem EndNG.st {e : End} (h : EndNG e) : StNG e.genState := by cases e <;> exact h
/-- A: where those of I are dead; G: where they sleep -/
structure Sw (I : Nat → Option GenState) (A G : Array GenState) : Prop where
  size : A.size = G.size
  at_ : ∀ i x, I i = some x → Susp x ∧ A[i]? = some (dead x) ∧ G[i]? = some x
  eq : ∀ i, I i = none → A[i]? = G[i]?
  ng : ∀ (i : Nat) (x : GenState), A[i]? = some x → StNG x
theorem Sw.set {I : Nat → Option GenState} {A G : Array GenState} {g : Nat} {x : GenState} (h : Sw I A G) (hg : I g = none) (hx : StNG x) : Sw I (A.setIfInBounds g x) (G.setIfInBounds g x) where
  size := by rw [Array.size_setIfInBounds, Array.size_setIfInBounds, h.size]
  at_ := fun i y hy => by
    have ne : g ≠ i := fun z => by rw [z, hy] at hg; cases hg
    rw [Array.getElem?_setIfInBounds_ne ne, Array.getElem?_setIfInBounds_ne ne]
    exact h.at_ i y hy
  eq := fun i hi => by
    by_cases z : g = i
    · subst z
      rw [Array.getElem?_setIfInBounds_self, Array.getElem?_setIfInBounds_self, h.size]
    · rw [Array.getElem?_setIfInBounds_ne z, Array.getElem?_setIfInBounds_ne z]
      exact h.eq i hi
  ng := fun i y hy => by
    by_cases z : g = i
    · subst z
      rw [Array.getElem?_setIfInBounds_self] at hy
      split at hy
      · cases hy; exact hx
      · cases hy
    · rw [Array.getElem?_setIfInBounds_ne z] at hy
      exact h.ng i y hy
theorem Sw.push {I : Nat → Option GenState} {A G : Array GenState} {x : GenState} (h : Sw I A G) (hx : StNG x) : Sw I (A.push x) (G.push x) where
  size := by rw [Array.size_push, Array.size_push, h.size]
  at_ := fun i y hy => by
    obtain ⟨a, b, c⟩ := h.at_ i y hy
    have h1 := (Array.getElem?_eq_some_iff.mp b).1
    have h2 := (Array.getElem?_eq_some_iff.mp c).1
    refine ⟨a, ?_, ?_⟩
    · rw [Array.getElem?_push_lt h1, ← Array.getElem?_eq_getElem h1]; exact b
    · rw [Array.getElem?_push_lt h2, ← Array.getElem?_eq_getElem h2]; exact c
  eq := fun i hi => by
    rw [Array.getElem?_push, Array.getElem?_push, h.size]
    split
    · rfl
    · exact h.eq i hi
  ng := fun i y hy => by
    rw [Array.getElem?_push] at hy
    split at hy
    · cases hy; exact hx
    · exact h.ng i y hy
theorem Sw.alive {I : Nat → Option GenState} {A G : Array GenState} {g : Nat} {x : GenState} (h : Sw I A G) (e : A[g]? = some x) (hx : ¬ Susp x) : I g = none ∧ G[g]? = some x := by
  cases z : I g with
  | none => exact ⟨rfl, by rw [← h.eq g z]; exact e⟩
  | some y =>
    obtain ⟨a, b, _⟩ := h.at_ g y z
    rw [b] at e
    cases e
    exact absurd (by cases y <;> first | exact a | exact True.intro) hx
section
variable {M : Model}
theorem no_unsup0 {Γ : Ctx} {p : Pos} {w : String} {s s' : Shared} {e : End} (h : Runs M Γ p (.unsupported w) [] s e s') : False := nomatch h
theorem no_unsup {Γ : Ctx} {p : Pos} {w : String} {fs : List Frame} {s s' : Shared} {e : End} (h : Runs M Γ p (.unsupported w) fs s e s') : False := by
  cases h with
  | segRet a _ => exact no_unsup0 a
  | segGen a _ => exact no_unsup0 a
  | segSuspOut _ a => exact no_unsup0 a
  | segSuspGen _ a _ _ => exact no_unsup0 a
end
end VG

set_option Elab.async false
set_option linter.all false
set_option maxRecDepth 100000
set_option maxHeartbeats 4000000
namespace VG
open PySem
open Sem (wp)
section
variable {M : Model} {I : Nat → Option GenState}
abbrev wg (s : Shared) (G : Array GenState) : Shared := { s with gens := G }
theorem runs_sw {Γ : Ctx} {p : Pos} {t : Sem PySem.Fin} {fs : List Frame} {s s' : Shared} {e : End} (h : Runs M Γ p t fs s e s') : NoGen fs → ∀ G, Sw I s.gens G →
    ∃ G', Sw I s'.gens G' ∧ EndNG e ∧ Runs M Γ p t fs (wg s G) e (wg s' G') := by
  induction h with
  | done => exact fun _ G w => ⟨G, w, True.intro, .done⟩
  | raise => exact fun _ G w => ⟨G, w, True.intro, .raise⟩
  | again hq r ih => intro _ G w; obtain ⟨G', a, b, c⟩ := ih .nil G w; exact ⟨G', a, b, .again hq c⟩
  | rule r ih => intro _ G w; obtain ⟨G', a, b, c⟩ := ih .nil G w; exact ⟨G', a, b, .rule c⟩
  | «at» r ih => intro _ G w; obtain ⟨G', a, b, c⟩ := ih .nil G w; exact ⟨G', a, b, .at c⟩
  | load ho r ih => intro _ G w; obtain ⟨G', a, b, c⟩ := ih .nil G w; exact ⟨G', a, b, .load ho c⟩
  | update ho r ih => intro _ G w; obtain ⟨G', a, b, c⟩ := ih .nil G w; exact ⟨G', a, b, .update ho c⟩
  | loadIfAlive r ih => intro _ G w; obtain ⟨G', a, b, c⟩ := ih .nil G w; exact ⟨G', a, b, .loadIfAlive c⟩
  | point r ih => intro _ G w; obtain ⟨G', a, b, c⟩ := ih .nil G w; exact ⟨G', a, b, .point c⟩
  | alloc r ih => intro _ G w; obtain ⟨G', a, b, c⟩ := ih .nil G w; exact ⟨G', a, b, .alloc c⟩
  | fresh r ih => intro _ G w; obtain ⟨G', a, b, c⟩ := ih .nil G w; exact ⟨G', a, b, .fresh c⟩
  | ask r ih => intro _ G w; obtain ⟨G', a, b, c⟩ := ih .nil G w; exact ⟨G', a, b, .ask c⟩
  | choose hn r ih => intro _ G w; obtain ⟨G', a, b, c⟩ := ih .nil G w; exact ⟨G', a, b, .choose hn c⟩
  | os r ih => intro _ G w; obtain ⟨G', a, b, c⟩ := ih .nil G w; exact ⟨G', a, b, .os c⟩
  | handled r ih => intro _ G w; obtain ⟨G', a, b, c⟩ := ih .nil G w; exact ⟨G', a, b, .handled c⟩
  | stack r ih => intro _ G w; obtain ⟨G', a, b, c⟩ := ih .nil G w; exact ⟨G', a, b, .stack c⟩
  | thread r ih => intro _ G w; obtain ⟨G', a, b, c⟩ := ih .nil G w; exact ⟨G', a, b, .thread c⟩
  | @genState g st Γ p k s e s' hs r ih =>
    intro _ G w
    obtain ⟨G', a, b, c⟩ := ih .nil G w
    refine ⟨G', a, b, ?_⟩
    cases z : I g with
    | none => exact .genState (st := st) (by show G[g]? = _; rw [← w.eq g z]; exact hs) c
    | some y =>
      obtain ⟨_, h2, h3⟩ := w.at_ g y z
      rw [h2] at hs
      cases hs
      rw [dead_seen] at c
      exact .genState (st := y) h3 c
  | @newGen Γ p k s e s' cc r ih =>
    intro _ G w
    obtain ⟨G', a, b, c⟩ := ih .nil _ (w.push (x := .fresh cc) True.intro)
    refine ⟨G', a, b, .newGen ?_⟩
    show Runs M Γ p (k G.size) [] _ _ _
    rw [← w.size]
    exact c
  | call r1 r2 ih1 ih2 =>
    intro _ G w
    obtain ⟨G1, a1, b1, c1⟩ := ih1 .nil G w
    obtain ⟨G2, a2, b2, c2⟩ := ih2 .nil G1 a1
    exact ⟨G2, a2, b2, .call c1 c2⟩
  | callSusp r1 ih1 =>
    intro _ G w
    obtain ⟨G1, a1, b1, c1⟩ := ih1 .nil G w
    exact ⟨G1, a1, NoGen.app b1 .one, .callSusp c1⟩
  | yield => exact fun _ G w => ⟨G, w, NoGen.nil, .yield⟩
  | resumeFresh hg r1 hq r2 ih1 ih2 =>
    intro _ G w
    obtain ⟨z, hg'⟩ := w.alive hg (fun z => z)
    obtain ⟨G1, a1, b1, c1⟩ := ih1 .nil _ (w.set z True.intro)
    obtain ⟨G2, a2, b2, c2⟩ := ih2 .nil _ (a1.set z b1.st)
    exact ⟨G2, a2, b2, .resumeFresh hg' c1 hq c2⟩
  | @resumeSuspended Γ p g r l k s k0 l0 c0 p0 fs cl e1 s1 e s' hg r1 hq r2 ih1 ih2 =>
    intro _ G w
    cases z : I g with
    | none =>
      have hg' : G[g]? = some (.suspended k0 l0 c0 p0 fs cl) := by rw [← w.eq g z]; exact hg
      obtain ⟨G1, a1, b1, c1⟩ := ih1 (w.ng g _ hg) _ (w.set z True.intro)
      obtain ⟨G2, a2, b2, c2⟩ := ih2 .nil _ (a1.set z b1.st)
      exact ⟨G2, a2, b2, .resumeSuspended hg' c1 hq c2⟩
    | some y =>
      obtain ⟨h1, h2, _⟩ := w.at_ g y z
      rw [h2] at hg
      cases y with
      | suspended k l c p fs cl =>
        cases hg
        exact (no_unsup r1).elim
      | _ => exact h1.elim
  | resumeJustStarted hg hv r ih =>
    intro _ G w
    obtain ⟨z, hg'⟩ := w.alive hg (fun z => z)
    obtain ⟨G', a, b, c⟩ := ih .nil G w
    exact ⟨G', a, b, .resumeJustStarted hg' hv c⟩
  | resumeThrowFresh hg r ih =>
    intro _ G w
    obtain ⟨z, hg'⟩ := w.alive hg (fun z => z)
    obtain ⟨G', a, b, c⟩ := ih .nil _ (w.set z True.intro)
    exact ⟨G', a, b, .resumeThrowFresh hg' c⟩
  | resumeRunning hg r ih =>
    intro _ G w
    obtain ⟨z, hg'⟩ := w.alive hg (fun z => z)
    obtain ⟨G', a, b, c⟩ := ih .nil G w
    exact ⟨G', a, b, .resumeRunning hg' c⟩
  | resumeFinished hg r ih =>
    intro _ G w
    obtain ⟨z, hg'⟩ := w.alive hg (fun z => z)
    obtain ⟨G', a, b, c⟩ := ih .nil G w
    exact ⟨G', a, b, .resumeFinished hg' c⟩
  | segRet r1 r2 ih1 ih2 =>
    intro hn G w
    obtain ⟨G1, a1, b1, c1⟩ := ih1 .nil G w
    obtain ⟨G2, a2, b2, c2⟩ := ih2 hn.tail G1 a1
    exact ⟨G2, a2, b2, .segRet c1 c2⟩
  | segGen r1 r2 ih1 ih2 => exact fun hn => absurd rfl (hn _ List.mem_cons_self _ _ _ _ _)
  | segSuspOut hs r ih =>
    intro hn G w
    obtain ⟨G', a, b, c⟩ := ih .nil G w
    exact ⟨G', a, NoGen.app b hn, .segSuspOut hs c⟩
  | segSuspGen hs r1 hq r2 ih1 ih2 =>
    intro hn
    rw [hn.split] at hs
    cases hs
theorem wakes_sw {Γ : Ctx} {p : Pos} {g : Nat} {r : Resume} {s s' : Shared} {res : GenResult} (h : Wakes M Γ p g r s res s') {G : Array GenState} (w : Sw I s.gens G) : ∃ G', Sw I s'.gens G' ∧ Wakes M Γ p g r (wg s G) res (wg s' G') := by
  unfold Wakes at h
  split at h
  · exact h.elim
  · rename_i c hg
    obtain ⟨z, hg'⟩ := w.alive hg (fun z => z)
    split at h
    · obtain ⟨e1, s1, r1, hq, hr, rfl⟩ := h
      obtain ⟨G1, a1, b1, c1⟩ := runs_sw r1 .nil _ (w.set z True.intro)
      refine ⟨_, a1.set z b1.st, ?_⟩
      unfold Wakes
      rw [show (wg _ G).gens[g]? = _ from hg']
      exact ⟨e1, _, c1, hq, hr, rfl⟩
    · rename_i v hv
      obtain ⟨hr, rfl⟩ := h
      refine ⟨G, w, ?_⟩
      unfold Wakes
      rw [show (wg _ G).gens[g]? = _ from hg']
      cases v with
      | none => exact (hv rfl).elim
      | _ => exact ⟨hr, rfl⟩
    · obtain ⟨hr, rfl⟩ := h
      refine ⟨_, w.set z True.intro, ?_⟩
      unfold Wakes
      rw [show (wg _ G).gens[g]? = _ from hg']
      exact ⟨hr, rfl⟩
  · rename_i k0 l0 c0 p0 fs cl hg
    obtain ⟨e1, s1, r1, hq, hr, rfl⟩ := h
    cases z : I g with
    | none =>
      have hg' : G[g]? = some (.suspended k0 l0 c0 p0 fs cl) := by rw [← w.eq g z]; exact hg
      obtain ⟨G1, a1, b1, c1⟩ := runs_sw r1 (w.ng g _ hg) _ (w.set z True.intro)
      refine ⟨_, a1.set z b1.st, ?_⟩
      unfold Wakes
      rw [show (wg _ G).gens[g]? = _ from hg']
      exact ⟨e1, _, c1, hq, hr, rfl⟩
    | some y =>
      obtain ⟨h1, h2, _⟩ := w.at_ g y z
      rw [h2] at hg
      cases y with
      | suspended k l c p fs cl =>
        cases hg
        exact (no_unsup r1).elim
      | _ => exact h1.elim
  · rename_i hg
    obtain ⟨z, hg'⟩ := w.alive hg (fun z => z)
    obtain ⟨hr, rfl⟩ := h
    refine ⟨G, w, ?_⟩
    unfold Wakes
    rw [show (wg _ G).gens[g]? = _ from hg']
    exact ⟨hr, rfl⟩
  · rename_i hg
    obtain ⟨z, hg'⟩ := w.alive hg (fun z => z)
    obtain ⟨hr, rfl⟩ := h
    refine ⟨G, w, ?_⟩
    unfold Wakes
    rw [show (wg _ G).gens[g]? = _ from hg']
    exact ⟨hr, rfl⟩
end
end VG

set_option Elab.async false
set_option linter.all false
set_option maxRecDepth 100000
set_option maxHeartbeats 4000000
namespace VG
open PySem
open Sem (wp)
section
variable {M : Model} {I : Nat → Option GenState}
/-- what was told of the state where they are dead -/
def QS (I : Nat → Option GenState) {α : Type} (Q : α → Pos → Shared → Prop) : α → Pos → Shared → Prop := fun a p s' => ∃ A, Sw I A s'.gens ∧ Q a p (wg s' A)
theorem wp_sw {α : Type} {Γ : Ctx} (t : Sem α) : ∀ (Q : α → Pos → Shared → Prop) (E : Value → Pos → Shared → Prop) (p : Pos) (s : Shared) (G : Array GenState), Sw I s.gens G → wp M Γ t Q E p s →
    wp M Γ t (QS I Q) (QS I E) p (wg s G) := by
  induction t with
  | pure a => intro Q E p s G w h; exact ⟨s.gens, w, h⟩
  | raise e => intro Q E p s G w h; exact ⟨s.gens, w, h⟩
  | unsupported _ => intro Q E p s G _ h; exact h
  | finish _ => intro Q E p s G _ h; exact h
  | rule _ k ih => intro Q E p s G w h; exact ih () Q E p s G w h
  | «at» p' k ih => intro Q E p s G w h; exact ih () Q E p' s G w h
  | load a _ k ih => intro Q E p s G w h; obtain ⟨o, ho, h⟩ := h; exact ⟨o, ho, ih o Q E p s G w h⟩
  | update a _ f k ih => intro Q E p s G w h; exact ⟨h.1, ih () Q E p { s with heap := s.heap.update a f } G w h.2⟩
  | loadIfAlive a k ih => intro Q E p s G w h; exact ih _ Q E p s G w h
  | point _ k ih => intro Q E p s G w h; exact ih () Q E p s G w h
  | register _ _ => intro Q E p s G _ h; exact h
  | alloc o k ih => intro Q E p s G w h; exact ih _ Q E p { s with heap := s.heap.push o } G w h
  | fresh k ih => intro Q E p s G w h; exact ih _ Q E p { s with toks := s.toks + 1 } G w h
  | ask k ih => intro Q E p s G w h; exact ih _ Q E p _ G w h
  | choose src m k ih => intro Q E p s G w h; exact ⟨h.1, ih _ Q E p { s with drawn := s.drawn.bump src } G w h.2⟩
  | os q _ k ih => intro Q E p s G w h; exact ih _ Q E p { s with os := (Os.step s.os q).1 } G w h
  | call c hd _ _ k ih =>
    intro Q E p s G w h
    obtain ⟨r, s', hr, h⟩ := h
    obtain ⟨G', a, _, c1⟩ := runs_sw hr .nil G w
    exact ⟨r, wg s' G', c1, ih r Q E p s' G' a h⟩
  | handled own k ih => intro Q E p s G w h; exact ih _ Q E p s G w h
  | genState g k ih =>
    intro Q E p s G w h
    obtain ⟨st, hs, h⟩ := h
    cases z : I g with
    | none => exact ⟨st, (by show G[g]? = _; rw [← w.eq g z]; exact hs), ih _ Q E p s G w h⟩
    | some y =>
      obtain ⟨_, h2, h3⟩ := w.at_ g y z
      rw [h2] at hs
      cases hs
      rw [dead_seen] at h
      exact ⟨y, h3, ih _ Q E p s G w h⟩
  | newGen c k ih =>
    intro Q E p s G w h
    have := ih _ Q E p _ (G.push (.fresh c)) (w.push (x := .fresh c) True.intro) h
    show wp M Γ (k G.size) _ _ p _
    rw [← w.size]
    exact this
  | resume g r _ k ih =>
    intro Q E p s G w h
    obtain ⟨res, s', hw, h⟩ := h
    obtain ⟨G', a, c1⟩ := wakes_sw hw w
    exact ⟨res, wg s' G', c1, ih res Q E p s' G' a h⟩
  | yield _ _ _ _ => intro Q E p s G _ h; exact h
  | stack k ih => intro Q E p s G w h; exact ih _ Q E p s G w h
  | fork _ _ => intro Q E p s G _ h; exact h
  | thread k ih => intro Q E p s G w h; exact ih _ Q E p s G w h
  | await _ _ _ _ _ => intro Q E p s G _ h; exact h
/-- the states of G that sleep -/
def sleepers (G : Array GenState) : Nat → Option GenState := fun i => match G[i]? with
  | some (.suspended k l c p fs cl) => some (.suspended k l c p fs cl)
  | _ => none
theorem sleepers_at {G : Array GenState} {i : Nat} {x : GenState} (h : sleepers G i = some x) : Susp x ∧ G[i]? = some x := by
  unfold sleepers at h
  split at h
  · cases h
    exact ⟨True.intro, by assumption⟩
  · cases h
theorem sleepers_of {G : Array GenState} {i : Nat} {x : GenState} (h : G[i]? = some x) (hx : Susp x) : sleepers G i = some x := by
  unfold sleepers
  rw [h]
  cases x <;> first | rfl | exact hx.elim
theorem dead_id {x : GenState} (h : ¬ Susp x) : dead x = x := by cases x <;> first | rfl | exact absurd True.intro h
theorem dead_ng (x : GenState) : StNG (dead x) := by cases x <;> first | exact NoGen.strip _ | exact True.intro
theorem sw_dead (G : Array GenState) : Sw (sleepers G) (G.map dead) G where
  size := Array.size_map ..
  at_ := fun i x h => by
    obtain ⟨a, b⟩ := sleepers_at h
    exact ⟨a, by rw [Array.getElem?_map, b]; rfl, b⟩
  eq := fun i h => by
    rw [Array.getElem?_map]
    cases z : G[i]? with
    | none => rfl
    | some x =>
      have : ¬ Susp x := fun q => by rw [sleepers_of z q] at h; cases h
      show some (dead x) = some x
      rw [dead_id this]
  ng := fun i x h => by
    rw [Array.getElem?_map] at h
    cases z : G[i]? with
    | none => rw [z] at h; cases h
    | some y =>
      rw [z] at h
      cases h
      exact dead_ng y
/-- THE RULE: shown where no sleeper can be woken, it holds where they sleep, and they sleep on -/
theorem wpAny_sleep {α : Type} {A : Around} {s : Shared} {t : Sem α} {Q : α → Shared → Prop} {E : Value → Shared → Prop} (h : wpAny M A t Q E (wg s (s.gens.map dead))) :
    wpAny M A t (fun a s' => ∃ B, Sw (sleepers s.gens) B s'.gens ∧ Q a (wg s' B)) (fun e s' => ∃ B, Sw (sleepers s.gens) B s'.gens ∧ E e (wg s' B)) s :=
  fun Γ p hΓ => wp_sw (I := sleepers s.gens) t _ _ p (wg s (s.gens.map dead)) s.gens (sw_dead s.gens) (h Γ p hΓ)
theorem wpAny_sw {α : Type} {A : Around} {s : Shared} {B0 : Array GenState} {t : Sem α} {Q : α → Shared → Prop} {E : Value → Shared → Prop} (w : Sw I B0 s.gens) (h : wpAny M A t Q E (wg s B0)) :
    wpAny M A t (fun a s' => ∃ B, Sw I B s'.gens ∧ Q a (wg s' B)) (fun e s' => ∃ B, Sw I B s'.gens ∧ E e (wg s' B)) s :=
  fun Γ p hΓ => wp_sw (I := I) t _ _ p (wg s B0) s.gens w (h Γ p hΓ)
theorem Sw.stays {G B G' : Array GenState} {g : Nat} {x : GenState} (h : Sw (sleepers G) B G') (e : G[g]? = some x) (hx : Susp x) : G'[g]? = some x := (h.at_ g x (sleepers_of e hx)).2.2
end
end VG

set_option Elab.async false
set_option linter.all false
set_option maxRecDepth 100000
set_option maxHeartbeats 4000000
/-! a generator's frame, left and entered again while its consumer does what it likes -/
namespace VG
open PySem PySem.Spec PyProof.Rows L2 GenW
def trunc (h : Heap) (n : Nat) : Heap := ⟨h.objs.extract 0 n, h.life⟩
theorem trunc_get {h : Heap} {n a : Nat} : (trunc h n).get? a = if a < n then h.get? a else none := by
  unfold trunc Heap.get?
  dsimp only
  rw [Array.getElem?_extract]
  by_cases c : a < n
  · rw [if_pos c]
    by_cases d : a < h.objs.size
    · rw [if_pos (by omega), Nat.zero_add]
    · rw [if_neg (by omega), Array.getElem?_eq_none (by omega)]
  · rw [if_neg c, if_neg (by omega)]
theorem trunc_some {h : Heap} {n a : Nat} {o : Obj} (e : (trunc h n).get? a = some o) : a < n ∧ h.get? a = some o := by
  rw [trunc_get] at e
  split at e
  · exact ⟨by assumption, e⟩
  · cases e
theorem trunc_of {h : Heap} {n a : Nat} {o : Obj} (c : a < n) (e : h.get? a = some o) : (trunc h n).get? a = some o := by rw [trunc_get, if_pos c, e]
theorem trunc_size {h : Heap} {n : Nat} (c : n ≤ h.objs.size) : (trunc h n).objs.size = n := by
  show (h.objs.extract 0 n).size = n
  rw [Array.size_extract]
  omega
theorem obj_get {P : Program} {w : World} {H : Hp} {h : Heap} {a : Addr} {u : HO} (x : ObjOk P w H h a u) : ∃ o, h.get? a = some o := by
  cases u with
  | lst xs => obtain ⟨_, _, _, _, e⟩ := x; exact ⟨_, e⟩
  | tup xs => obtain ⟨_, _, _, o, e, _⟩ := x; exact ⟨_, e⟩
  | dK kvs => obtain ⟨_, _, _, _, o, _, _, e, _⟩ := x; exact ⟨_, e⟩
  | dT kvs => obtain ⟨_, _, _, _, o, _, _, e, _⟩ := x; exact ⟨_, e⟩
  | set S n => obtain ⟨o, _, _, _, e, _⟩ := x; exact ⟨_, e⟩
  | ins C dx fs => obtain ⟨_, _, _, e, _⟩ := x; exact ⟨_, e⟩
  | own y => obtain ⟨_, e⟩ := x; exact ⟨_, e⟩
  | xd fs => obtain ⟨_, ⟨_, _, _, e, _⟩, _⟩ := x; exact ⟨_, e⟩
  | rng lo hi => obtain ⟨_, _, _, e⟩ := x; exact ⟨_, e⟩
  | frz ob u => obtain ⟨e, _⟩ := x; exact ⟨_, e⟩
  | tbl ps => exact ⟨_, (show h.get? a = some _ from x)⟩
  | met f y => exact ⟨_, (show h.get? a = some _ from x)⟩
  | ext φ => obtain ⟨_, ⟨_, e⟩, _⟩ := x; exact ⟨_, e⟩
abbrev fz (o : Obj) : HO := .frz o (.ext fun _ => True)
theorem fz_ok {P : Program} {w : World} {H : Hp} {h : Heap} {b : Addr} {o : Obj} (e : h.get? b = some o) : ObjOk P w H h b (fz o) := ⟨e, True.intro, ⟨o, e⟩, fun _ _ _ _ => True.intro⟩
abbrev re (X : Cx) (s0 : Shared) (H0 : Hp) : Cx := { X with s_0 := s0, H_0 := H0 }
/-- the frame's own objects -/
def own (X : Cx) : List Addr := X.env.locals :: X.env.cells.filterMap fun p => X.env.cells.lookup p.1
theorem own_cell {X : Cx} {x : Str} {c : Addr} (h : X.env.cells.lookup x = some c) : c ∈ own X :=
  List.mem_cons_of_mem _ (List.mem_filterMap.mpr ⟨(x, c), PySem.mem_of_lookup h, h⟩)
theorem own_of {X : Cx} {b : Addr} (h : b ∈ own X) : b = X.env.locals ∨ ∃ x, X.env.cells.lookup x = some b := by
  rcases List.mem_cons.mp h with h | h
  · exact .inl h
  · obtain ⟨p, _, e⟩ := List.mem_filterMap.mp h
    exact .inr ⟨p.1, e⟩
/-- what is fixed of it -/
structure GSt (X : Cx) (n0 : Nat) : Prop where
  kind : X.env.scope.kind = .function
  glob : X.env.globals = mainGlobals
  blt : X.env.builtins = builtinsNs
  inj : ∀ x y c, X.env.cells.lookup x = some c → X.env.cells.lookup y = some c → x = y
  has : ∀ x, (X.env.kindOf x = some .cell ∨ X.env.kindOf x = some .free) → ∃ c, X.env.cells.lookup x = some c
  above : n0 ≤ X.env.locals
  cab : ∀ x c, X.env.cells.lookup x = some c → n0 ≤ c
  st : X.stack = X.env :: X.outer
  frame : X.env.frame = some X.env.locals
  ex : X.ex = []
  pn : X.pn = []
  frl : ∀ b ∈ frs X.outer, b < n0
  bsz : X.base.objs.size ≤ n0
  hd : X.A.handled = none
  frames : X.A.frames = some X.stack
theorem GSt.own_ge {X : Cx} {n0 : Nat} (S : GSt X n0) {b : Addr} (h : b ∈ own X) : n0 ≤ b := by
  rcases own_of h with rfl | ⟨x, e⟩
  · exact S.above
  · exact S.cab x b e
/-- its names as they stand -/
structure Own (X : Cx) (σ : L2.St) (h : Heap) : Prop where
  loc : ∃ m, h.Ns X.env.locals m ∧ ∀ (i : Nat) (x : Str) (v : V), X.N[i]? = some x → σ[i]? = some (some v) → Vis X.env.scope x → ∃ u, RelV v u ∧ Look X.env h m x u
  cell : ∀ x c, X.env.cells.lookup x = some c → ∃ v, h.IsCell c v
  len : σ.length = X.N.length
theorem Own.keep {X : Cx} {σ : L2.St} {h h' : Heap} (O : Own X σ h) (k : ∀ b ∈ own X, ∀ o, h.get? b = some o → h'.get? b = some o) : Own X σ h' where
  loc := by
    obtain ⟨m, ⟨o, es, ep, e, r⟩, f⟩ := O.loc
    refine ⟨m, ⟨o, es, ep, k _ List.mem_cons_self o e, r⟩, fun i x v h1 h2 h3 => ?_⟩
    obtain ⟨u, ru, lk⟩ := f i x v h1 h2 h3
    refine ⟨u, ru, ?_⟩
    rcases lk with lk | ⟨a, c, e1, oc, e2, d⟩
    · exact .inl lk
    · exact .inr ⟨a, c, e1, oc, k c (own_cell e1) oc e2, d⟩
  cell := fun x c e => by
    obtain ⟨v, o, e2, d⟩ := O.cell x c e
    exact ⟨v, o, k c (own_cell e) o e2, d⟩
  len := O.len
open Classical in
/-- what the frame tracks: what is tracked around, and all else of age, known -/
noncomputable def ent (L : List Addr) (n0 : Nat) (H : Hp) (h : Heap) : Hp := fun b => if b ∈ L then none else match H b with
  | some o => some o
  | none => if n0 ≤ b then (h.get? b).map fz else none
theorem ent_own {L : List Addr} {n0 : Nat} {H : Hp} {h : Heap} {b : Addr} (e : b ∈ L) : ent L n0 H h b = none := by unfold ent; rw [if_pos e]
theorem ent_some {L : List Addr} {n0 : Nat} {H : Hp} {h : Heap} {b : Addr} {o : HO} (n : b ∉ L) (e : H b = some o) : ent L n0 H h b = some o := by unfold ent; rw [if_neg n, e]
theorem ent_old {L : List Addr} {n0 : Nat} {H : Hp} {h : Heap} {b : Addr} (e : H b = none) (c : b < n0) : ent L n0 H h b = none := by
  unfold ent
  split
  · rfl
  · rw [e]
    dsimp only
    rw [if_neg (Nat.not_le.mpr c)]
theorem ent_aux {L : List Addr} {n0 : Nat} {H : Hp} {h : Heap} {b : Addr} {o : Obj} (n : b ∉ L) (e : H b = none) (c : n0 ≤ b) (g : h.get? b = some o) : ent L n0 H h b = some (fz o) := by
  unfold ent
  rw [if_neg n, e]
  dsimp only
  rw [if_pos c, g]
  rfl
theorem ent_cases {L : List Addr} {n0 : Nat} {H : Hp} {h : Heap} {b : Addr} {u : HO} (e : ent L n0 H h b = some u) : b ∉ L ∧ (H b = some u ∨ (H b = none ∧ n0 ≤ b ∧ ∃ o, h.get? b = some o ∧ u = fz o)) := by
  unfold ent at e
  split at e
  · cases e
  · rename_i n
    refine ⟨n, ?_⟩
    cases z : H b with
    | some o => rw [z] at e; exact .inl e
    | none =>
      rw [z] at e
      dsimp only at e
      split at e
      · rename_i c
        cases g : h.get? b with
        | none => rw [g] at e; cases e
        | some o => rw [g] at e; cases e; exact .inr ⟨rfl, c, o, rfl, rfl⟩
      · cases e
theorem ent_hok {P : Program} {w : World} {L : List Addr} {n0 : Nat} {H : Hp} {h : Heap} (x : HOk P w H h) (hL : ∀ b ∈ L, H b = none) : HOk P w (ent L n0 H h) h := fun b u e => by
  obtain ⟨n, e | ⟨_, _, o, g, rfl⟩⟩ := ent_cases e
  · exact (x b u e).stay (fun _ _ _ q => q) (fun c q => ent_some (fun z => by rw [hL c z] at q; cases q) q) fun c xs q => ent_some (fun z => by rw [hL c z] at q; cases q) q
  · exact fz_ok g
theorem frames_trunc {h base : Heap} {n0 : Nat} : ∀ {l : List Env}, h.FunFrames base l → (∀ b ∈ frs l, b < n0) → (trunc h n0).FunFrames base l
  | [], _, _ => True.intro
  | e :: l, ⟨hk, ⟨L, o, hf, hn, ho, hd⟩, hr⟩, f => by
    have hL : L ∈ frs (e :: l) := List.mem_filterMap.mpr ⟨e, List.mem_cons_self, hf⟩
    refine ⟨hk, ⟨L, o, hf, hn, trunc_of (f L hL) ho, hd⟩, frames_trunc hr fun b hb => f b ?_⟩
    obtain ⟨e', he, q⟩ := List.mem_filterMap.mp hb
    exact List.mem_filterMap.mpr ⟨e', List.mem_cons_of_mem _ he, q⟩
section
variable {X : Cx} {n0 : Nat} {σ : L2.St} {H : Hp} {s : Shared} {Aw : Around}
/-- entered -/
theorem enter (S : GSt X n0) (e0 : Env0 X.prog X.w X.K X.mg X.base Aw X.outer s H) (hn : n0 ≤ s.heap.objs.size) (O : Own X σ s.heap) (hL : ∀ b ∈ own X, H b = none) :
    Inv (re X { s with heap := trunc s.heap n0 } (ent (own X) n0 H s.heap)) [] σ (ent (own X) n0 H s.heap) s := by
  have lt : ∀ b o, X.base.get? b = some o → b < n0 := fun b o e => Nat.lt_of_lt_of_le (Heap.lt_size e) S.bsz
  refine ⟨⟨e0.mod, S.kind, S.glob, S.blt, ?_, S.inj, S.has, fun x c _ e => ?_, fun _ => S.hd, S.frames, .inr ⟨S.st, S.frame⟩, fun b hb => ?_, fun b o e => ⟨trunc_of (lt b o e) (e0.bs b o e).1, ent_old (e0.bs b o e).2 (lt b o e)⟩, ?_, fun b o _ hb => ?_, fun b hb => ?_, ?_, fun b hb => ent_old (e0.frf b hb) (S.frl b hb)⟩,
    rfl, e0.bare, ⟨fun b o e _ _ _ => (trunc_some e).2, fun b o e _ _ _ => ⟨o.slots, (trunc_some e).2⟩, fun b o _ n _ => n, fun b o e _ => ⟨o, (trunc_some e).2⟩, fun _ _ q => q, fun _ _ _ q => q, fun _ _ q => ⟨#[], by simpa using q⟩⟩,
    O.loc, O.cell, ent_own List.mem_cons_self, fun x c e => ent_own (own_cell e), fun p hp => ?_, ent_hok e0.hok hL, O.len⟩
  · show (trunc s.heap n0).objs.size ≤ _
    rw [trunc_size hn]
    exact S.above
  · show (trunc s.heap n0).objs.size ≤ _
    rw [trunc_size hn]
    exact S.cab x c e
  · rw [show (re X _ _).ex = X.ex from rfl, S.ex] at hb
    cases hb
  · show _ ≤ (trunc s.heap n0).objs.size
    rw [trunc_size hn]
    exact S.bsz
  · rw [show (re X _ _).ex = X.ex from rfl, S.ex] at hb
    cases hb
  · rw [show (re X _ _).ex = X.ex from rfl, S.ex] at hb
    cases hb
  · show (trunc s.heap n0).FunFrames X.base X.outer
    exact frames_trunc e0.funs S.frl
  · rw [show (re X _ _).pn = X.pn from rfl, S.pn] at hp
    cases hp
open Classical in
/-- what the consumer is told: without what was only known -/
noncomputable def lv (L : List Addr) (n0 : Nat) (H : Hp) (h : Heap) (H1 : Hp) : Hp := fun b => if b ∉ L ∧ H b = none ∧ n0 ≤ b ∧ (h.get? b).isSome = true then none else H1 b
theorem lv_some {L : List Addr} {H H1 : Hp} {h : Heap} {b : Addr} {u : HO} (e : lv L n0 H h H1 b = some u) : H1 b = some u ∧ ¬ (b ∉ L ∧ H b = none ∧ n0 ≤ b ∧ (h.get? b).isSome = true) := by
  unfold lv at e
  split at e
  · cases e
  · exact ⟨e, by assumption⟩
theorem lv_of {L : List Addr} {H H1 : Hp} {h : Heap} {b : Addr} (n : ¬ (b ∉ L ∧ H b = none ∧ n0 ≤ b ∧ (h.get? b).isSome = true)) : lv L n0 H h H1 b = H1 b := by unfold lv; rw [if_neg n]
theorem lv_aux {L : List Addr} {H H1 : Hp} {h : Heap} {b : Addr} (n : b ∉ L ∧ H b = none ∧ n0 ≤ b ∧ (h.get? b).isSome = true) : lv L n0 H h H1 b = none := by unfold lv; rw [if_pos n]
/-- left -/
structure Left (X : Cx) (n0 : Nat) (H Ho : Hp) (s s1 : Shared) : Prop where
  os : s1.os = s.os
  bare : AllBare s1.gens
  un : Un (frs X.outer) (own X) H Ho s.heap s1.heap
  hok : HOk X.prog X.w Ho s1.heap
  own_ : ∀ b ∈ own X, Ho b = none
  nolim : s1.heap.NoLimit
theorem leave (S : GSt X n0) (hL : ∀ b ∈ own X, H b = none) {H1 : Hp} {s1 : Shared} {σ' : L2.St} (hn : n0 ≤ s.heap.objs.size) (I : Inv (re X { s with heap := trunc s.heap n0 } (ent (own X) n0 H s.heap)) [] σ' H1 s1) (tr : ∀ b u, H b = some u → b ∉ own X → H1 b ≠ none) :
    Left X n0 H (lv (own X) n0 H s.heap H1) s s1 ∧ Own X σ' s1.heap := by
  have base := I.base
  have aux : ∀ {b o}, b ∉ own X → H b = none → n0 ≤ b → s.heap.get? b = some o → s1.heap.get? b = some o := fun {b o} n e c g => by
    have q := base.frzs b o _ (ent_aux n e c g)
    exact (I.hok b _ q).1
  have hlv : ∀ {b u}, H1 b = some u → (∀ o, u ≠ fz o) → lv (own X) n0 H s.heap H1 b = some u := fun {b u} q d => by
    rw [lv_of, q]
    rintro ⟨n, e, c, g⟩
    obtain ⟨o, g⟩ := Option.isSome_iff_exists.mp g
    have := base.frzs b o _ (ent_aux n e c g)
    rw [q] at this
    exact d o (Option.some.inj this)
  have hlv2 : ∀ {b u}, H b = some u → H1 b = some u → lv (own X) n0 H s.heap H1 b = some u := fun {b u} e q => by
    rw [lv_of, q]
    rintro ⟨_, e', _⟩
    rw [e] at e'
    cases e'
  have fsn : ∀ b ∈ frs X.outer, b ∉ own X := fun b hb ho => by
    have h1 := S.frl b hb
    have h2 := S.own_ge ho
    exact absurd h1 (Nat.not_lt.mpr h2)
  refine ⟨⟨I.os, I.bare, ⟨fun b o g e hf n => ?_, fun b o g e hf n => ?_, fun b o g e n => ?_, fun b o g n => ?_, fun b xs e => ?_, fun b o u e => ?_, fun b ps e => ?_⟩, fun b u e => ?_, fun b hb => ?_, I.nolimit⟩, I.loc, I.cell, I.len⟩
  · by_cases c : b < n0
    · exact base.keep b o (trunc_of c g) (ent_old e c) hf (by rw [show (re X _ _).ex = X.ex from rfl, S.ex]; exact fun z => nomatch z)
    · exact aux n e (Nat.le_of_not_lt c) g
  · exact base.slot b o (trunc_of (S.frl b hf) g) (ent_old e (S.frl b hf)) hf (by rw [show (re X _ _).ex = X.ex from rfl, S.ex]; exact fun z => nomatch z)
  · by_cases c : b < n0
    · have q := base.free b o (trunc_of c g) (ent_old e c) (by rw [show (re X _ _).ex = X.ex from rfl, S.ex]; exact fun z => nomatch z)
      cases z : lv (own X) n0 H s.heap H1 b with
      | none => rfl
      | some u => rw [(lv_some z).1] at q; cases q
    · exact lv_aux ⟨n, e, Nat.le_of_not_lt c, by rw [g]; rfl⟩
  · by_cases c : b < n0
    · exact base.there b o (trunc_of c g) (by rw [show (re X _ _).ex = X.ex from rfl, S.ex]; exact fun z => nomatch z)
    · cases e : H b with
      | none => exact ⟨o, aux n e (Nat.le_of_not_lt c) g⟩
      | some u =>
        obtain ⟨u1, e1⟩ := Option.ne_none_iff_exists'.mp (tr b u e n)
        exact obj_get (I.hok b u1 e1)
  · by_cases n : b ∈ own X
    · rw [hL b n] at e
      cases e
    · exact hlv2 e (base.tups b xs (ent_some n e))
  · by_cases n : b ∈ own X
    · rw [hL b n] at e
      cases e
    · exact hlv2 e (base.frzs b o u (ent_some n e))
  · by_cases n : b ∈ own X
    · rw [hL b n] at e
      cases e
    · obtain ⟨more, q⟩ := base.tbls b ps (ent_some n e)
      exact ⟨more, hlv q fun o z => by cases z⟩
  · obtain ⟨q, n⟩ := lv_some e
    refine (I.hok b u q).stay (fun _ _ _ z => z) (fun c z => hlv z fun o y => by cases y) fun c xs z => hlv z fun o y => by cases y
  · have q : H1 b = none := by
      rcases own_of hb with rfl | ⟨x, e⟩
      · exact I.free
      · exact I.freeC x b e
    cases z : lv (own X) n0 H s.heap H1 b with
    | none => rfl
    | some u => rw [(lv_some z).1] at q; cases q
end
end VG

set_option Elab.async false
set_option linter.all false
set_option maxRecDepth 100000
set_option maxHeartbeats 4000000
/-! a generator: statements, then a while that hands out one item a turn; its consumer does what it likes -/
namespace VG
open PySem PySem.Spec PyProof.Rows L2 GenW VL
/-- the consumer's heap Ho, told from the frame's H2; H: where the turn began -/
structure Told (H H2 Ho : Hp) : Prop where
  new : ∀ b u, H2 b = some u → (∀ o, u ≠ fz o) → Ho b = some u
  old : ∀ b u, H b = some u → H2 b = some u → Ho b = some u
  sub : ∀ b u, Ho b = some u → H2 b = some u
section
variable {X : Cx} {n0 N : Nat} {Aw : Around} {Gh : Nat → Shared → Hp × L2.St} {Z : Nat → L2.St → Hp → Prop} {Yl : Nat → L2.St → Hp → V → L2.St → Hp → Prop} {En : Nat → L2.St → Hp → Hp → Prop}
/-- it may be woken at s' -/
structure Wakes (X : Cx) (n0 : Nat) (Aw : Around) (Zi : Hp → Prop) (H : Hp) (s' : Shared) : Prop where
  e0 : Env0 X.prog X.w X.K X.mg X.base Aw X.outer s' H
  sz : n0 ≤ s'.heap.objs.size
  own_ : ∀ b ∈ own X, H b = none
  z : Zi H
def YW (X : Cx) (n0 N : Nat) (Aw : Around) (Gh : Nat → Shared → Hp × L2.St) (Z : Nat → L2.St → Hp → Prop) (Yl : Nat → L2.St → Hp → V → L2.St → Hp → Prop) : Protocol := fun n s₀ v s₁ kap => ∃ i x Ho σ', i + n + 1 = N ∧ Left X n0 (Gh (n + 1) s₀).1 Ho s₀ s₁ ∧ n0 ≤ s₁.heap.objs.size ∧ RelV x v ∧ Yl i (Gh (n + 1) s₀).2 (Gh (n + 1) s₀).1 x σ' Ho ∧
  Own X σ' s₁.heap ∧ Z (i + 1) σ' Ho ∧ ∀ s', Wakes X n0 Aw (Z (i + 1) (Gh n s').2) (Gh n s').1 s' → Own X (Gh n s').2 s'.heap → kap (.send .none) s'
def FW (X : Cx) (n0 N : Nat) (Gh : Nat → Shared → Hp × L2.St) (En : Nat → L2.St → Hp → Hp → Prop) (n : Nat) (s₀ s₁ : Shared) : Prop := ∃ i Ho, i + n = N ∧ Left X n0 (Gh n s₀).1 Ho s₀ s₁ ∧ En i (Gh n s₀).2 (Gh n s₀).1 Ho
def RW (X : Cx) (n0 N : Nat) (Gh : Nat → Shared → Hp × L2.St) (En : Nat → L2.St → Hp → Hp → Prop) : GenEnd := fun n s₀ r s₁ => ((r = .ok (.ret .none) ∨ r = .ok .next) ∧ FW X n0 N Gh En n s₀ s₁) ∨ ∃ e, r = .error e ∧ False
/-- what is shown of the body -/
structure Body (X : Cx) (N : Nat) (Z : Nat → L2.St → Hp → Prop) (Yl : Nat → L2.St → Hp → V → L2.St → Hp → Prop) (En : Nat → L2.St → Hp → Hp → Prop) (pre st1 st2 : Stmt) (test e : Expr) (tpre t1 t2 : TS) (tc : TT) (te : TE) (Head : Nat → L2.St → Hp → L2.St → Hp → Prop) : Prop where
  pre : ∀ s0 H0, PS (re X s0 H0) pre tpre
  test : ∀ s0 H0, PT (re X s0 H0) test tc
  st1 : ∀ s0 H0, PS (re X s0 H0) st1 t1
  e : ∀ s0 H0, PE (re X s0 H0) e te
  st2 : ∀ s0 H0, PS (re X s0 H0) st2 t2
  start : ∀ σ H Hg, Z 0 σ H → Same H Hg → tpre { nx := Head 0 σ H, rt := fun _ _ => False } σ Hg
  resume : ∀ i σ H Hg, Z (i + 1) σ H → Same H Hg → t2 { nx := Head (i + 1) σ H, rt := fun _ _ => False } σ Hg
  head : ∀ i σp H σ Hg, Head i σp H σ Hg → tc σ Hg fun b H1 => if b = true then
        i < N ∧ t1 { nx := fun σ' H' => te σ' H' fun x H2 => (∀ b u, H b = some u → H2 b ≠ none) ∧ ∀ Ho, Told H H2 Ho → Yl i σp H x σ' Ho ∧ Z (i + 1) σ' Ho, rt := fun _ _ => False } σ H1
      else (∀ b u, H b = some u → H1 b ≠ none) ∧ ∀ Ho, Told H H1 Ho → En i σp H Ho
end
section
variable {X : Cx} {n0 N : Nat} {Aw : Around} {Gh : Nat → Shared → Hp × L2.St} {Z : Nat → L2.St → Hp → Prop} {Yl : Nat → L2.St → Hp → V → L2.St → Hp → Prop} {En : Nat → L2.St → Hp → Hp → Prop} {pre st1 st2 : Stmt} {test e : Expr} {wp yp xp : Pos} {tpre t1 t2 : TS} {tc : TT} {te : TE} {Head : Nat → L2.St → Hp → L2.St → Hp → Prop}
theorem same_ent {L : List Addr} {H : Hp} {h : Heap} (hL : ∀ b ∈ L, H b = none) : Same H (ent L n0 H h) := fun b o e => ent_some (fun z => by rw [hL b z] at e; cases e) e
theorem told_lv {L : List Addr} {H H1 : Hp} {h : Heap} (aux : ∀ b o, b ∉ L → H b = none → n0 ≤ b → h.get? b = some o → H1 b = some (fz o)) : Told H H1 (lv L n0 H h H1) where
  new := fun b u q d => by
    rw [lv_of, q]
    rintro ⟨n, e, c, g⟩
    obtain ⟨o, g⟩ := Option.isSome_iff_exists.mp g
    have := aux b o n e c g
    rw [q] at this
    exact d o (Option.some.inj this)
  old := fun b u e q => by
    rw [lv_of, q]
    rintro ⟨_, e', _⟩
    rw [e] at e'
    cases e'
  sub := fun b u e => (lv_some e).1
theorem Inv.szle {pins : List (Addr × Obj)} {s0 : Shared} {H0 : Hp} {σ : L2.St} {H : Hp} {s1 : Shared} (S : GSt X n0) (I : Inv (re X s0 H0) pins σ H s1) : n0 ≤ s1.heap.objs.size := by
  have h1 : (re X s0 H0).env.locals < s1.heap.objs.size := I.lt
  have h2 := S.above
  exact Nat.le_of_lt (Nat.lt_of_le_of_lt h2 h1)
theorem seg_turns (S : GSt X n0) (hxe : X.xe = fun _ _ => False) (hco : X.env.scope.isCoroutine = false) (hi : interactive X.env = false) (B : Body X N Z Yl En pre st1 st2 test e tpre t1 t2 tc te Head)
    {kk : Result → Sem PySem.Fin} {cf : Code} {p : Pos} (hkk : kk (.ok .next) = .pure (.done (.ret .none))) (hover : Aw.over cf [] = X.A) :
    ∀ (n i : Nat) (s₀ s : Shared) (σ : L2.St) (Hg : Hp), i + n = N → n0 ≤ s₀.heap.objs.size → (∀ b ∈ own X, (Gh n s₀).1 b = none) →
      L2.Inv (re X { s₀ with heap := trunc s₀.heap n0 } (ent (own X) n0 (Gh n s₀).1 s₀.heap)) [] σ Hg s → Head i (Gh n s₀).2 (Gh n s₀).1 σ Hg →
      Seg (model X.prog X.w) Aw (RW X n0 N Gh En) (YW X n0 N Aw Gh Z Yl) n s₀ (.whileLoop test [st1, .Expr (.Yield (some e) yp) xp, st2] [] X.env) ((model X.prog X.w).den (.whileLoop test [st1, .Expr (.Yield (some e) yp) xp, st2] [] X.env)) [.ret kk none false [] cf p []] s := by
  have nox : ∀ {s0 H0 u s'}, (re X s0 H0).xe u s' → False := fun {s0 H0 u s'} h => by
    have : X.xe u s' := h
    rw [hxe] at this
    exact this
  have ov : Aw.over (.whileLoop test [st1, .Expr (.Yield (some e) yp) xp, st2] [] X.env) [.ret kk none false [] cf p []] = X.A := (over_loop rfl rfl).trans hover
  intro n
  induction n with
  | zero =>
    intro i s₀ s σ Hg hin hsz hown I hd
    have aux : ∀ {σ' H' s'}, L2.Inv (re X { s₀ with heap := trunc s₀.heap n0 } (ent (own X) n0 (Gh 0 s₀).1 s₀.heap)) [] σ' H' s' → ∀ b o, b ∉ own X → (Gh 0 s₀).1 b = none → n0 ≤ b → s₀.heap.get? b = some o → H' b = some (fz o) := fun I b o n e c g => I.base.frzs b o _ (ent_aux n e c g)
    refine seg_whileLoop ?_
    rw [ov]
    refine wpAny_mono ((B.test { s₀ with heap := trunc s₀.heap n0 } (ent (own X) n0 (Gh 0 s₀).1 s₀.heap)).run [] s σ Hg _ I (B.head i _ _ σ Hg hd)) (fun b s' hb => ?_) fun x s' hx => (nox hx).elim
    obtain ⟨H2, I2, q2⟩ := hb
    cases b with
    | true =>
      obtain ⟨lt, _⟩ := q2
      omega
    | false =>
      rw [if_neg Bool.false_ne_true]
      refine seg_execs_nil ?_
      obtain ⟨tr, fin⟩ := q2
      refine seg_leaf (.ok .next) ?_
      rw [hkk]
      exact seg_end (.ok (.ret .none)) (.inl ⟨.inl rfl, i, _, hin, (leave S hown hsz I2 fun b u q _ => tr b u q).1, fin _ (told_lv (aux I2))⟩)
  | succ m ih =>
    intro i s₀ s σ Hg hin hsz hown I hd
    have aux : ∀ {σ' H' s'}, L2.Inv (re X { s₀ with heap := trunc s₀.heap n0 } (ent (own X) n0 (Gh (m + 1) s₀).1 s₀.heap)) [] σ' H' s' → ∀ b o, b ∉ own X → (Gh (m + 1) s₀).1 b = none → n0 ≤ b → s₀.heap.get? b = some o → H' b = some (fz o) := fun I b o n e c g => I.base.frzs b o _ (ent_aux n e c g)
    refine seg_whileLoop ?_
    rw [ov]
    refine wpAny_mono ((B.test { s₀ with heap := trunc s₀.heap n0 } (ent (own X) n0 (Gh (m + 1) s₀).1 s₀.heap)).run [] s σ Hg _ I (B.head i _ _ σ Hg hd)) (fun b s' hb => ?_) fun x s' hx => (nox hx).elim
    obtain ⟨H2, I2, q2⟩ := hb
    cases b with
    | false =>
      rw [if_neg Bool.false_ne_true]
      refine seg_execs_nil ?_
      obtain ⟨tr, fin⟩ := q2
      refine seg_leaf (.ok .next) ?_
      rw [hkk]
      exact seg_end (.ok (.ret .none)) (.inl ⟨.inl rfl, i, _, hin, (leave S hown hsz I2 fun b u q _ => tr b u q).1, fin _ (told_lv (aux I2))⟩)
    | true =>
      obtain ⟨lt, q2⟩ := q2
      rw [if_pos rfl]
      refine seg_execs_cons ?_
      refine seg_wrap ?_
      rw [ov]
      refine wpAny_mono ((B.st1 { s₀ with heap := trunc s₀.heap n0 } (ent (own X) n0 (Gh (m + 1) s₀).1 s₀.heap)).run [] s' σ H2 _ I2 q2) (fun f s3 hs => ?_) fun x s' hx => (nox hx).elim
      cases f with
      | brk => obtain ⟨_, _, _, q⟩ := hs; exact q.elim
      | cont => obtain ⟨_, _, _, q⟩ := hs; exact q.elim
      | ret v => obtain ⟨_, _, _, _, _, q⟩ := hs; exact q.elim
      | next =>
        obtain ⟨σ3, H3, I3, q3⟩ := hs
        refine seg_execs_cons ?_
        refine seg_Expr_Yield rfl rfl rfl ?_ hco hi
        rw [ov]
        refine wpAny_mono ((B.e { s₀ with heap := trunc s₀.heap n0 } (ent (own X) n0 (Gh (m + 1) s₀).1 s₀.heap)).run [] s3 σ3 H3 _ I3 q3) (fun v s4 hv => ?_) fun x s' hx => (nox hx).elim
        obtain ⟨x, H4, I4, rv, tr, yl⟩ := hv
        intro kap hk
        obtain ⟨L4, O4⟩ := leave S hown hsz I4 fun b u q _ => tr b u q
        obtain ⟨y1, z1⟩ := yl _ (told_lv (aux I4))
        refine ⟨i, x, _, σ3, by omega, L4, Inv.szle S I4, rv, y1, O4, z1, fun s5 W5 O5 => hk .none s5 ?_⟩
        have I5 := enter S W5.e0 W5.sz O5 W5.own_
        refine seg_execs_cons ?_
        refine seg_wrap ?_
        rw [ov]
        refine wpAny_mono ((B.st2 { s5 with heap := trunc s5.heap n0 } (ent (own X) n0 (Gh m s5).1 s5.heap)).run [] s5 _ _ _ I5 (B.resume i _ _ _ W5.z (same_ent W5.own_))) (fun f s6 hs => ?_) fun x s' hx => (nox hx).elim
        cases f with
        | brk => obtain ⟨_, _, _, q⟩ := hs; exact q.elim
        | cont => obtain ⟨_, _, _, q⟩ := hs; exact q.elim
        | ret v => obtain ⟨_, _, _, _, _, q⟩ := hs; exact q.elim
        | next =>
          obtain ⟨σ6, H6, I6, q6⟩ := hs
          refine seg_execs_nil ?_
          exact seg_again rfl (ih (i + 1) s5 s6 σ6 H6 (by omega) W5.sz W5.own_ I6 q6)
theorem seg_walk (S : GSt X n0) (hxe : X.xe = fun _ _ => False) (hA : Aw.deeper X.env = X.A) (hco : X.env.scope.isCoroutine = false) (hi : interactive X.env = false) (B : Body X N Z Yl En pre st1 st2 test e tpre t1 t2 tc te Head) (s : Shared)
    (W : Wakes X n0 Aw (Z 0 (Gh N s).2) (Gh N s).1 s) (O : Own X (Gh N s).2 s.heap) :
    Seg (model X.prog X.w) Aw (RW X n0 N Gh En) (YW X n0 N Aw Gh Z Yl) N s (.func [pre, .While test [st1, .Expr (.Yield (some e) yp) xp, st2] [] wp] X.env) ((model X.prog X.w).den (.func [pre, .While test [st1, .Expr (.Yield (some e) yp) xp, st2] [] wp] X.env)) [] s := by
  have nox : ∀ {s0 H0 u s'}, (re X s0 H0).xe u s' → False := fun {s0 H0 u s'} h => by
    have : X.xe u s' := h
    rw [hxe] at this
    exact this
  refine seg_func ?_
  refine seg_execs_cons ?_
  refine seg_wrap ?_
  rw [over_func, hA]
  have I0 := enter S W.e0 W.sz O W.own_
  refine wpAny_mono ((B.pre { s with heap := trunc s.heap n0 } (ent (own X) n0 (Gh N s).1 s.heap)).run [] s _ _ _ I0 (B.start _ _ _ W.z (same_ent W.own_))) (fun f s1 hs => ?_) fun x s' hx => (nox hx).elim
  cases f with
  | brk => obtain ⟨_, _, _, q⟩ := hs; exact q.elim
  | cont => obtain ⟨_, _, _, q⟩ := hs; exact q.elim
  | ret v => obtain ⟨_, _, _, _, _, q⟩ := hs; exact q.elim
  | next =>
    obtain ⟨σ1, H1, I1, q1⟩ := hs
    refine seg_execs_cons ?_
    refine seg_While fun p => ?_
    exact seg_turns S hxe hco hi B rfl (over_func.trans hA) N 0 s s1 σ1 H1 (Nat.zero_add _) W.sz W.own_ I1 q1
end
end VG

set_option Elab.async false
set_option linter.all false
set_option maxRecDepth 100000
set_option maxHeartbeats 4000000
/-! a call of a generator def: a generator that has not begun -/
namespace VG
open PySem PySem.Spec PyProof.Rows L2 GenW VL
/-- the context of its frame, woken from Aw -/
abbrev gX (P : Program) (w : World) (K : PySem.W.Frag) (mg : Str → Option Value) (base : Heap) (N : List Str) (qual : Str) (scope : Scope) (f : Addr) (cdv : Value) (Aw : Around) (outer : List Env) (s : Shared) (H : Hp) : Cx :=
  (cxOf CX0 P w K mg base N qual scope f cdv Aw outer s H E0).nox
structure GNew (P : Program) (w : World) (K : PySem.W.Frag) (mg : Str → Option Value) (base : Heap) (N : List Str) (qual : Str) (scope : Scope) (body : List Stmt) (f : Addr) (cdv : Value) (outer : List Env) (s : Shared) (H : Hp) (vs : List V) (u : Value) (s' : Shared) (a g : Nat) : Prop where
  val : u = .ref a
  ge : s.heap.objs.size ≤ a
  gen : s'.heap.IsGen a g
  st : s'.gens[g]? = some (.fresh (.func body (envOfC qual scope s.heap.objs.size f cdv)))
  os : s'.os = s.os
  bare : AllBare s'.gens
  nolim : s'.heap.NoLimit
  keep : ∀ b o, s.heap.get? b = some o → s'.heap.get? b = some o
  sz : s.heap.objs.size ≤ s'.heap.objs.size
  fr : ∀ Aw : Around, Aw.handled = none → Aw.frames = some outer → GSt (gX P w K mg base N qual scope f cdv Aw outer s H) s.heap.objs.size ∧ Own (gX P w K mg base N qual scope f cdv Aw outer s H) (L2.start N vs) s'.heap ∧
    a ∉ own (gX P w K mg base N qual scope f cdv Aw outer s H)
theorem gen_call {P : Program} {w : World} {K : PySem.W.Frag} {mg : Str → Option Value} {base : Heap} {f : Addr} {name qual : Str} {params : Arguments} {body : List Stmt} {scope : Scope} {dV kV doc pm cdv ct oc : Value} {an od : Option Addr}
    {osl : Array (Option Value)} {N ps : List Str} (lk : K.lookup f = some ⟨oc, od, .func (PySem.W.fnOf name qual params body scope dV kV doc pm an cdv ct), osl⟩) (hcd : PySem.W.codeIn K cdv qual = true) (S : GScope N ps scope)
    {A : Around} {outer : List Env} {s : Shared} {H : Hp} {args : Args} {us : List Value} {vs : List V} (hdp : A.depth < recursionLimit) (e0 : Env0 P w K mg base A outer s H) (hb : BindsTo s (PySem.W.fnOf name qual params body scope dV kV doc pm an cdv ct) args (ps.zip us)) (r : Vals vs us) (hl : vs.length = ps.length) :
    codeAny (model P w) A (.call (.ref f) args) (fun r s' => match r with | .ok (.ret u) => ∃ a g, GNew P w K mg base N qual scope body f cdv outer s H vs u s' a g | _ => False) s := by
  have kin : K.In s.heap := e0.mod.kin.keeps fun b o z => (e0.bs b o z).1
  have nol : s.heap.NoLimit := e0.mod.nolimit.keeps fun b o z => (e0.bs b o z).1
  refine codeAny_call_generator hdp (kin _ _ lk) rfl S.co S.gen rfl (PySem.W.codeRec_of kin hcd) (hb _ _ _ _ ?_)
  refine wpAny_newFunctionEnv_cells S.kind (fun ⟨n, v⟩ hy => ?_) fun env he s1 x => ?_
  · exact (S.par n (List.of_mem_zip hy).1).imp id fun q => ⟨q, PySem.W.cellsFrom_some _ _ _ (.inl q)⟩
  subst he
  have nol1 : s1.heap.NoLimit := nol.keeps x.toInCall.keep
  refine ⟨nol1, ?_⟩
  obtain ⟨h1, tk, esq, hkq⟩ := x.done
  have oseq : s1.os = s.os := by rw [esq]
  have geq : s1.gens = s.gens := by rw [esq]
  have below : s.heap.objs.size < s1.heap.objs.size := x.toInCall.ns.lt
  have kpt : ∀ b o, s.heap.get? b = some o → s1.heap.get? b = some o := x.toInCall.keep
  have laid : ∀ (gob : Obj) (nm qn : Value) (tkn : Nat), gob.cls = .type "generator" → gob.data = .fields #[.int s1.gens.size 0, nm, qn] → gob.slots = #[] → (∀ h : Heap, (h.push gob).get? h.objs.size = some gob) →
      ∃ a g, GNew P w K mg base N qual scope body f cdv outer s H vs (.ref s1.heap.objs.size) { s1 with gens := s1.gens.push (.fresh (.func body (envOfC qual scope s.heap.objs.size f cdv))), toks := tkn, heap := s1.heap.push gob } a g := by
    intro gob nm qn tkn hgc hgd0 hgs hgp
    have kp2 : ∀ b o, s1.heap.get? b = some o → (s1.heap.push gob).get? b = some o := fun b o e => Heap.get?_push_of_some _ e
    refine ⟨s1.heap.objs.size, s1.gens.size, rfl, Nat.le_of_lt below, ⟨gob, nm, qn, hgp _, hgc, hgd0, hgs⟩, Array.getElem?_push_size .., oseq, ?_, nol1.keeps kp2, fun b o e => kp2 b o (kpt b o e), ?_, fun Aw hh hf => ?_⟩
    · exact AllBare.push (by rw [geq]; exact e0.bare) rfl
    · show _ ≤ (s1.heap.push gob).objs.size
      rw [Heap.size_push]
      exact Nat.le_succ_of_le (Nat.le_of_lt below)
    have e0w : Env0 P w K mg base Aw outer s H := ⟨hf, e0.mod, e0.bs, e0.bsz, e0.funs, e0.frf, e0.hok, e0.bare⟩
    have I1 : L2.Inv (gcxOf P w K mg base N qual scope f cdv Aw outer s H E0 []) [] (L2.start N vs) H s1 := inv_startG S hh e0w hl r x
    have O1 : Own (gX P w K mg base N qual scope f cdv Aw outer s H) (L2.start N vs) s1.heap := ⟨I1.loc, I1.cell, I1.len⟩
    refine ⟨⟨I1.ok.kind, rfl, rfl, I1.ok.inj, I1.ok.has, Nat.le_refl _, fun y c e => ?_, rfl, rfl, rfl, rfl, fun b hb => ?_, e0.bsz, hh, Around.frames_deeper hf⟩, O1.keep fun b _ o e => kp2 b o e, fun hm => ?_⟩
    · exact Nat.le_of_lt (x.above y c (PySem.mem_of_lookup e))
    · obtain ⟨_, o, e, _⟩ := e0.funs.mem hb
      exact Heap.lt_size e
    · rcases own_of hm with e | ⟨y, e⟩
      · exact absurd e (Nat.ne_of_gt below)
      · obtain ⟨v, o, e2, _⟩ := I1.cell y _ e
        exact absurd (Heap.lt_size e2) (Nat.lt_irrefl _)
  exact laid _ _ _ _ rfl rfl rfl fun h => Heap.get?_push_size _ rfl
end VG

set_option Elab.async false
set_option linter.all false
set_option maxRecDepth 100000
set_option maxHeartbeats 4000000
/-! the consumer: what sleeps is known, dropped, known again -/
namespace VG
open PySem PySem.Spec PyProof.Rows L2 GenW VL
open Classical in
noncomputable def drop (L : List Addr) (H : Hp) : Hp := fun b => if b ∈ L then none else H b
open Classical in
noncomputable def frzL (L : List Addr) (h : Heap) (H : Hp) : Hp := fun b => if b ∈ L then (h.get? b).map fz else H b
theorem drop_in {L : List Addr} {H : Hp} {b : Addr} (h : b ∈ L) : drop L H b = none := by unfold drop; rw [if_pos h]
theorem drop_out {L : List Addr} {H : Hp} {b : Addr} (h : b ∉ L) : drop L H b = H b := by unfold drop; rw [if_neg h]
/-- Hf is Ho, what stands at L is known -/
structure Fz (L : List Addr) (Ho Hf : Hp) : Prop where
  out : ∀ b, b ∉ L → Hf b = Ho b
  in_ : ∀ b ∈ L, ∃ o, Hf b = some (fz o)
def Frozen (L : List Addr) (H : Hp) : Prop := ∀ b ∈ L, ∃ o, H b = some (fz o)
theorem frzL_fz {L : List Addr} {h : Heap} {H : Hp} (hex : ∀ b ∈ L, ∃ o, h.get? b = some o) : Fz L H (frzL L h H) where
  out := fun b hb => by unfold frzL; rw [if_neg hb]
  in_ := fun b hb => by
    obtain ⟨o, e⟩ := hex b hb
    exact ⟨o, by unfold frzL; rw [if_pos hb, e]; rfl⟩
theorem drop_fz {L : List Addr} {Ho Hf : Hp} (h : Fz L Ho Hf) (hn : ∀ b ∈ L, Ho b = none) : drop L Hf = Ho := by
  funext b
  by_cases c : b ∈ L
  · rw [drop_in c, hn b c]
  · rw [drop_out c, h.out b c]
/-- L is younger than the consumer's run so far, and is not its own -/
structure Cons (X : Cx) (pins : List (Addr × Obj)) (L : List Addr) : Prop where
  loc : X.env.locals ∉ L
  fs : ∀ b ∈ L, b ∉ X.fs
  ge : ∀ b ∈ L, b ∈ X.ex ∨ X.s_0.heap.objs.size ≤ b
  cell : ∀ x c, X.env.cells.lookup x = some c → c ∉ L
  pin : ∀ p ∈ X.pn ++ pins, p.1 ∉ L
  tup : ∀ b ∈ L, ∀ xs, X.H_0 b ≠ some (.tup xs)
  frz : ∀ b ∈ L, ∀ o u, X.H_0 b ≠ some (.frz o u)
  tbl : ∀ b ∈ L, ∀ ps, X.H_0 b ≠ some (.tbl ps)
section
variable {X : Cx} {pins : List (Addr × Obj)} {L : List Addr} {σ : L2.St} {H : Hp} {s : Shared}
theorem cons_of (I : L2.Inv X pins σ H s) (h : ∀ b ∈ L, s.heap.objs.size ≤ b) : Cons X pins L := by
  have fp := fun b hb => I.fpOk (h b hb) (I.hok.fresh (h b hb))
  have no : ∀ b ∈ L, ∀ u, H b ≠ some u := fun b hb u e => by rw [I.hok.fresh (h b hb)] at e; cases e
  exact ⟨fun hm => (fp _ hm).2.1 rfl, fun b hb => (fp b hb).2.2.1, fun b hb => .inr (Nat.le_trans I.sz (h b hb)), fun x c e hm => (fp c hm).2.2.2.2.1 x c e rfl, fun p hp hm => (fp _ hm).2.2.2.2.2 p hp rfl,
    fun b hb xs e => no b hb _ (I.base.tups b xs e), fun b hb o u e => no b hb _ (I.base.frzs b o u e), fun b hb ps e => by
      obtain ⟨m, q⟩ := I.base.tbls b ps e
      exact no b hb _ q⟩
theorem Cons.ch (C : Cons X pins L) : ∀ b ∈ L, (b ∈ X.ex ∨ X.s_0.heap.objs.size ≤ b) ∧ b ≠ X.env.locals ∧ (∀ x c, X.env.cells.lookup x = some c → c ≠ b) ∧ ∀ p ∈ X.pn ++ pins, p.1 ≠ b :=
  fun b hb => ⟨C.ge b hb, fun e => C.loc (e ▸ hb), fun x c e z => C.cell x c e (z ▸ hb), fun p hp z => C.pin p hp (z ▸ hb)⟩
theorem inv_drop (C : Cons X pins L) (I : L2.Inv X pins σ H s) (hf : Frozen L H) : L2.Inv X pins σ (drop L H) s := by
  have keep : ∀ {b u}, H b = some u → (∀ o, u ≠ fz o) → drop L H b = some u := fun {b u} e d => by
    rw [drop_out, e]
    intro hm
    obtain ⟨o, q⟩ := hf b hm
    rw [e] at q
    exact d o (Option.some.inj q)
  have none_ : ∀ {b}, H b = none → drop L H b = none := fun {b} e => by
    by_cases c : b ∈ L
    · exact drop_in c
    · rw [drop_out c, e]
  refine ⟨I.ok, I.os, I.bare, ⟨I.base.keep, I.base.slot, fun b o g n hx => none_ (I.base.free b o g n hx), I.base.there, fun b xs e => ?_, fun b o u e => ?_, fun b ps e => ?_⟩, I.loc, I.cell, none_ I.free, fun x c e => none_ (I.freeC x c e), fun p hp => ?_, fun b u e => ?_, I.len⟩
  · rw [drop_out fun hm => C.tup b hm xs e]
    exact I.base.tups b xs e
  · rw [drop_out fun hm => C.frz b hm o u e]
    exact I.base.frzs b o u e
  · rw [drop_out fun hm => C.tbl b hm ps e]
    exact I.base.tbls b ps e
  · obtain ⟨h1, h2, h3⟩ := I.pin p hp
    exact ⟨h1, none_ h2, h3⟩
  · by_cases c : b ∈ L
    · rw [drop_in c] at e
      cases e
    · rw [drop_out c] at e
      exact (I.hok b u e).stay (fun _ _ _ q => q) (fun d q => keep q fun o z => by cases z) fun d xs q => keep q fun o z => by cases z
theorem inv_frz (C : Cons X pins L) (I : L2.Inv X pins σ H s) (hn : ∀ b ∈ L, H b = none) (hex : ∀ b ∈ L, ∃ o, s.heap.get? b = some o) : L2.Inv X pins σ (frzL L s.heap H) s := by
  have out : ∀ {b}, b ∉ L → frzL L s.heap H b = H b := fun {b} hb => by unfold frzL; rw [if_neg hb]
  have keep : ∀ {b u}, H b = some u → frzL L s.heap H b = some u := fun {b u} e => by
    rw [out, e]
    intro hm
    rw [hn b hm] at e
    cases e
  refine ⟨I.ok, I.os, I.bare, ⟨I.base.keep, I.base.slot, fun b o g n hx => ?_, I.base.there, fun b xs e => keep (I.base.tups b xs e), fun b o u e => keep (I.base.frzs b o u e), fun b ps e => ?_⟩, I.loc, I.cell, ?_, fun x c e => ?_, fun p hp => ?_, fun b u e => ?_, I.len⟩
  · rw [out fun hm => (C.ge b hm).elim hx fun z => absurd (Nat.lt_of_lt_of_le (Heap.lt_size g) z) (Nat.lt_irrefl _)]
    exact I.base.free b o g n hx
  · obtain ⟨m, q⟩ := I.base.tbls b ps e
    exact ⟨m, keep q⟩
  · rw [out C.loc]
    exact I.free
  · rw [out (C.cell x c e)]
    exact I.freeC x c e
  · obtain ⟨h1, h2, h3⟩ := I.pin p hp
    exact ⟨h1, by rw [out (C.pin p hp)]; exact h2, h3⟩
  · by_cases c : b ∈ L
    · obtain ⟨o, g⟩ := hex b c
      have q : frzL L s.heap H b = some (fz o) := by unfold frzL; rw [if_pos c, g]; rfl
      rw [q] at e
      cases e
      exact fz_ok g
    · rw [out c] at e
      exact (I.hok b u e).stay (fun _ _ _ q => q) (fun d q => keep q) fun d xs q => keep q
/-- the generators alone are others -/
theorem inv_gens {G : Array GenState} (I : L2.Inv X pins σ H s) (h : AllBare G) : L2.Inv X pins σ H (wg s G) := ⟨I.ok, I.os, h, I.base, I.loc, I.cell, I.free, I.freeC, I.pin, I.hok, I.len⟩
end
theorem bare_dead {G : Array GenState} (h : AllBare G) : AllBare (G.map dead) := fun y hy => by
  obtain ⟨z, hz, e⟩ := Array.mem_map.mp hy
  have q := h z hz
  rw [← e]
  cases z <;> exact q
theorem bare_sw {G B G' : Array GenState} (w : Sw (sleepers G) B G') (hG : AllBare G) (hB : AllBare B) : AllBare G' := fun y hy => by
  obtain ⟨i, hi, e⟩ := Array.mem_iff_getElem.mp hy
  have e' : G'[i]? = some y := by rw [Array.getElem?_eq_getElem hi, e]
  cases z : sleepers G i with
  | none => exact hB y (Array.mem_of_getElem? (by rw [w.eq i z]; exact e'))
  | some x =>
    have h2 := (w.at_ i x z).2.2
    rw [h2] at e'
    rw [← Option.some.inj e']
    exact hG x (Array.mem_of_getElem? (sleepers_at z).2)
end VG

set_option Elab.async false
set_option linter.all false
set_option maxRecDepth 100000
set_option maxHeartbeats 4000000
/-! next of a generator: what it leaves is asleep -/
namespace VG
open PySem PySem.Spec PyProof.Rows L2 GenW VL
section
variable {M : Model} {A : Around} {R : GenEnd} {Y : Protocol} {n g : Nat} {E : Value → Shared → Prop} {s : Shared} {gs : GenState}
/-- what may follow, told of the state that sleeps -/
def kapOf (M : Model) (A : Around) (R : GenEnd) (Y : Protocol) (n : Nat) (x : GenState) : Resume → Shared → Prop := fun r s' => match n with
  | 0 => False
  | m + 1 => x.Goes M A R Y m r s'
theorem wakes_on {α : Type} {r : Resume} {l : List Value} {k : GenResult → Sem α} {Q : α → Shared → Prop} (hg : s.gens[g]? = some gs) (hgo : gs.Goes M A R Y n r (s.setGen g .running))
    (hR : ∀ x s1, R n (s.setGen g .running) x s1 → wpAny M A (k (End.ret x).result) Q E (s1.setGen g .finished))
    (hY : ∀ v s1 x, Susp x → x.bare = true → Y (n - 1) (s.setGen g .running) v s1 (kapOf M A R Y n x) → wpAny M A (k (.yielded v)) Q E (s1.setGen g x)) :
    wpAny M A (.resume g r l k) Q E s := by
  intro Γ p hΓ
  rw [Sem.wp_resume]
  have wk := fun c => hΓ.wake c p
  have after : ∀ e1 s1, SegEnd R Y n (Seg.next M A R Y n) (s.setGen g .running) e1 s1 → e1.quiet = true ∧ Sem.wp M Γ (k e1.result) (fun a _ s' => Q a s') (fun e _ s' => E e s') p (s1.setGen g e1.genState) := by
    intro e1 s1 he
    cases e1 with
    | ret x => exact ⟨rfl, hR x s1 he Γ p hΓ⟩
    | susp v g0 l0 k0 c0 p0 fs0 =>
      refine ⟨he.1, hY v s1 (.suspended k0 l0 c0 p0 fs0 (g0 || fs0.any Frame.guarded)) True.intro (End.bare_of_quiet he.1) ?_ Γ p hΓ⟩
      cases n with
      | zero => exact he.2
      | succ m => exact he.2
  cases gs with
  | running => exact hgo.elim
  | finished => exact hgo.elim
  | fresh c =>
    obtain ⟨rfl, hs⟩ := hgo
    obtain ⟨e1, s1, run, he⟩ := seg_iff.mp hs (Γ.wake c p) p rfl (wk c)
    obtain ⟨q1, q2⟩ := after e1 s1 he
    refine ⟨_, _, ?_, q2⟩
    unfold PySem.Wakes
    rw [hg]
    exact ⟨e1, s1, run, q1, rfl, rfl⟩
  | suspended k0 l0 c0 p0 fs0 cl =>
    obtain ⟨e1, s1, run, he⟩ := seg_iff.mp hgo (Γ.wake c0 p) p0 rfl (wk c0)
    obtain ⟨q1, q2⟩ := after e1 s1 he
    refine ⟨_, _, ?_, q2⟩
    unfold PySem.Wakes
    rw [hg]
    exact ⟨e1, s1, run, q1, rfl, rfl⟩
end
section
variable {P : Program} {w : World} {A : Around} {E : Value → Shared → Prop} {s : Shared}
abbrev REnd0 (F : Nat → Shared → Shared → Prop) : GenEnd := fun n s₀ r s₁ => ((r = .ok (.ret .none) ∨ r = .ok .next) ∧ F n s₀ s₁) ∨ ∃ e, r = .error e ∧ False
theorem next_on {a : Addr} {g n : Nat} {gs : GenState} {F : Nat → Shared → Shared → Prop} {Y : Protocol} {Q : Option Value → Shared → Prop} (hh : A.handled = none)
    (hl : s.heap.NoLimit) (hd : A.depth < recursionLimit) (hg : s.heap.IsGen a g) (hgs : s.gens[g]? = some gs) (hgo : gs.Goes (model P w) A.in1 (REnd0 F) Y n (.send .none) (s.setGen g .running))
    (hY : ∀ v s1 x, Susp x → x.bare = true → Y (n - 1) (s.setGen g .running) v s1 (kapOf (model P w) A.in1 (REnd0 F) Y n x) → Q (some v) (s1.setGen g x))
    (hP : ∀ s1, F n (s.setGen g .running) s1 → ∀ h', (∀ b o, s1.heap.get? b = some o → h'.get? b = some o) → Q none { s1.setGen g .finished with heap := h' }) :
    wpAny (model P w) A (pyNext (.ref a)) Q E s := by
  unfold pyNext
  refine wpAny_bind (wpAny_attempt (wpAny_callSpecial?_slot (name := Str.ofString "__next__") hg.typeIs slot_gen_next (wpAny_call_entry slot_gen_next hg.typeIs entry_gen_next ?_ (args_gen_next _))))
  show wpAny _ A.in1 (Builtin.Generator.genWake (.ref a) (.send .none)) _ _ s
  unfold Builtin.Generator.genWake
  refine wpAny_bind (wpAny_holding (wpAny_genNumber hg (wpAny_bind (wpAny_genState hgs ?_))))
  cases gs with
  | running => exact hgo.elim
  | finished => exact hgo.elim
  | _ =>
    refine wpAny_bind (wpAny_roomToWake hl hd ?_)
    show wpAny _ A.in1 (.resume g (.send .none) [] _) _ _ s
    refine wakes_on hgs hgo (fun x s1 hx => ?_) (fun v s1 y hs hb hv => wpAny_pure ⟨v, rfl, wpAny_pure (hY v s1 y hs hb hv)⟩)
    obtain ⟨hr, hp⟩ := hx.resolve_right fun z => z.elim fun _ q => q.2
    have er : End.result (.ret x) = .returned .none := by
      rcases hr with hr | hr <;> rw [hr] <;> rfl
    first | rw [er] | simp only [er]
    show wpAny _ A.in1 (newExc (.type "StopIteration") [] >>= _) _ _ _
    refine wpAny_bind ?_
    simp only [newExc, newTuple]
    refine wpAny_bind (wpAny_newObj_type ?_ (by size_fits))
    refine wpAny_bind (m := firstArgMember _ _) (wpAny_of_eq (a := Value.none) (by first | rfl | (simp only [firstArgMember]; rfl)) ?_)
    refine wpAny_newObj_type ?_ (by size_fits)
    simp only [raiseNew]
    refine wpAny_bind (wpAny_bind (wpAny_handled ?_))
    first | rw [show A.in1.handled = none from hh] | rw [hh]
    refine wpAny_throw (wpAny_bind (wpAny_isInstance (T := "StopIteration") (b := true) ⟨_, Heap.get?_push_size _ rfl, rfl⟩ isSubtype_stop ?_))
    exact wpAny_pure (hP s1 hp _ fun b o z => Heap.get?_push_of_some _ (Heap.get?_push_of_some _ z))
end
end VG

set_option Elab.async false
set_option linter.all false
set_option maxRecDepth 100000
set_option maxHeartbeats 4000000
/-! for x in g(..): body, g a generator def of one's own -/
namespace VG
open PySem PySem.Spec PyProof.Rows L2 GenW VL
/-- the consumer's state at turn i: its names, its heap, the sleeper's names -/
structure JG (X G : Cx) (pins : List (Addr × Obj)) (L : List Addr) (Z : Nat → L2.St → Hp → Prop) (Pv : Nat → L2.St → L2.St → Hp → Prop) (i : Nat) (s : Shared) (t : L2.St × Hp × L2.St) : Prop where
  inv : L2.Inv X pins t.1 t.2.1 s
  fz : Frozen L t.2.1
  ow : Own G t.2.2 s.heap
  z : Z i t.2.2 (drop L t.2.1)
  pv : Pv i t.2.2 t.1 t.2.1
theorem JG.gens {X G : Cx} {pins : List (Addr × Obj)} {L : List Addr} {Z : Nat → L2.St → Hp → Prop} {Pv : Nat → L2.St → L2.St → Hp → Prop} {i : Nat} {s : Shared} {t : L2.St × Hp × L2.St} (h : JG X G pins L Z Pv i s t) {B : Array GenState} (hb : AllBare B) : JG X G pins L Z Pv i (wg s B) t :=
  ⟨inv_gens h.inv hb, h.fz, h.ow, h.z, h.pv⟩
open Classical in
noncomputable def ghost (X G : Cx) (pins : List (Addr × Obj)) (L : List Addr) (Z : Nat → L2.St → Hp → Prop) (Pv : Nat → L2.St → L2.St → Hp → Prop) (N : Nat) : Nat → Shared → Hp × L2.St := fun n s => if h : ∃ t, JG X G pins L Z Pv (N - n) s t then (drop L (Classical.choose h).2.1, (Classical.choose h).2.2) else (fun _ => none, [])
theorem ghost_at {X G : Cx} {pins : List (Addr × Obj)} {L : List Addr} {Z : Nat → L2.St → Hp → Prop} {Pv : Nat → L2.St → L2.St → Hp → Prop} {N n : Nat} {s : Shared} (h : ∃ t, JG X G pins L Z Pv (N - n) s t) : ∃ t, JG X G pins L Z Pv (N - n) s t ∧ ghost X G pins L Z Pv N n s = (drop L t.2.1, t.2.2) :=
  ⟨Classical.choose h, Classical.choose_spec h, by unfold ghost; rw [dif_pos h]⟩
/-- it sleeps at g and goes on so -/
def Alive (X G : Cx) (n0 : Nat) (pins : List (Addr × Obj)) (L : List Addr) (Z : Nat → L2.St → Hp → Prop) (Pv : Nat → L2.St → L2.St → Hp → Prop) (Yl : Nat → L2.St → Hp → V → L2.St → Hp → Prop) (En : Nat → L2.St → Hp → Hp → Prop) (N n : Nat) (gs : GenState) : Prop :=
  ∀ s', Wakes G n0 X.A.in1 (Z (N - n) (ghost X G pins L Z Pv N n s').2) (ghost X G pins L Z Pv N n s').1 s' → Own G (ghost X G pins L Z Pv N n s').2 s'.heap →
    gs.Goes (model X.prog X.w) X.A.in1 (RW G n0 N (ghost X G pins L Z Pv N) En) (YW G n0 N X.A.in1 (ghost X G pins L Z Pv N) Z Yl) n (.send .none) s'
section
variable {X : Cx} {pins : List (Addr × Obj)} {Nm : List Str} {qual : Str} {scope : Scope} {f : Addr} {cdv : Value} {sc : Shared} {Hsc : Hp} {Z : Nat → L2.St → Hp → Prop} {Pv : Nat → L2.St → L2.St → Hp → Prop} {Yl : Nat → L2.St → Hp → V → L2.St → Hp → Prop} {En : Nat → L2.St → Hp → Hp → Prop} {N : Nat}
abbrev GX (X : Cx) (Nm : List Str) (qual : Str) (scope : Scope) (f : Addr) (cdv : Value) (sc : Shared) (Hsc : Hp) : Cx := gX X.prog X.w X.K X.mg X.base Nm qual scope f cdv X.A.in1 X.stack sc Hsc
/-- one turn -/
theorem turn_gen {a g n i : Nat} {gs : GenState} {s : Shared} {Q : Option Value → Shared → Prop} {E : Value → Shared → Prop} (hh : X.A.handled = none) (hd : X.A.depth < recursionLimit)
    (C : Cons X pins (a :: own (GX X Nm qual scope f cdv sc Hsc))) (hao : a ∉ own (GX X Nm qual scope f cdv sc Hsc)) (hin : i + n = N) (hn1 : 1 ≤ n)
    (S : GSt (GX X Nm qual scope f cdv sc Hsc) sc.heap.objs.size)
    (J : ∃ t, JG X (GX X Nm qual scope f cdv sc Hsc) pins (a :: own (GX X Nm qual scope f cdv sc Hsc)) Z Pv i s t) (hg : s.heap.IsGen a g) (hgs : s.gens[g]? = some gs)
    (al : Alive X (GX X Nm qual scope f cdv sc Hsc) sc.heap.objs.size pins (a :: own (GX X Nm qual scope f cdv sc Hsc)) Z Pv Yl En N n gs)
    (hY : ∀ σ H σp x v Ho σg m s1 y, n = m + 1 → Pv i σp σ H → Frozen (a :: own (GX X Nm qual scope f cdv sc Hsc)) H → Yl i σp (drop (a :: own (GX X Nm qual scope f cdv sc Hsc)) H) x σg Ho → Z (i + 1) σg Ho → (∀ b ∈ a :: own (GX X Nm qual scope f cdv sc Hsc), Ho b = none) → RelV x v →
      L2.Inv X pins σ Ho s1 → (∀ b ∈ a :: own (GX X Nm qual scope f cdv sc Hsc), ∃ o, s1.heap.get? b = some o) → s1.heap.IsGen a g → Own (GX X Nm qual scope f cdv sc Hsc) σg s1.heap → s1.gens[g]? = some y → Susp y →
      Alive X (GX X Nm qual scope f cdv sc Hsc) sc.heap.objs.size pins (a :: own (GX X Nm qual scope f cdv sc Hsc)) Z Pv Yl En N m y → Q (some v) s1)
    (hP : ∀ σ H σp Ho s1, Pv i σp σ H → Frozen (a :: own (GX X Nm qual scope f cdv sc Hsc)) H → En i σp (drop (a :: own (GX X Nm qual scope f cdv sc Hsc)) H) Ho → (∀ b ∈ a :: own (GX X Nm qual scope f cdv sc Hsc), Ho b = none) → L2.Inv X pins σ Ho s1 → Q none s1) :
    wpAny (model X.prog X.w) X.A (pyNext (.ref a)) Q E s := by
  obtain ⟨t0, J0⟩ := J
  have hi : N - n = i := by omega
  have hgl : g < s.gens.size := (Array.getElem?_eq_some_iff.mp hgs).1
  have b0 : AllBare (s.setGen g .running).gens := allBare_setGen J0.inv.bare rfl
  obtain ⟨t, Jt, eg⟩ := ghost_at (N := N) (n := n) (s := s.setGen g .running) ⟨t0, by rw [hi]; exact J0.gens b0⟩
  rw [hi] at Jt
  have Id := inv_drop C Jt.inv Jt.fz
  have hown : ∀ b ∈ own (GX X Nm qual scope f cdv sc Hsc), drop (a :: own (GX X Nm qual scope f cdv sc Hsc)) t.2.1 b = none := fun b hb => drop_in (List.mem_cons_of_mem _ hb)
  have e0 := Id.env0
  have W : Wakes (GX X Nm qual scope f cdv sc Hsc) sc.heap.objs.size X.A.in1 (Z (N - n) (ghost X (GX X Nm qual scope f cdv sc Hsc) pins (a :: own (GX X Nm qual scope f cdv sc Hsc)) Z Pv N n (s.setGen g .running)).2) (ghost X (GX X Nm qual scope f cdv sc Hsc) pins (a :: own (GX X Nm qual scope f cdv sc Hsc)) Z Pv N n (s.setGen g .running)).1 (s.setGen g .running) := by
    rw [eg, hi]
    refine ⟨⟨e0.frames, e0.mod, e0.bs, e0.bsz, e0.funs, e0.frf, e0.hok, e0.bare⟩, ?_, hown, Jt.z⟩
    obtain ⟨m, hm, _⟩ := Jt.ow.loc
    exact Nat.le_of_lt (Nat.lt_of_le_of_lt S.above hm.lt)
  have left : ∀ {Ho s1}, Left (GX X Nm qual scope f cdv sc Hsc) sc.heap.objs.size (drop (a :: own (GX X Nm qual scope f cdv sc Hsc)) t.2.1) Ho (s.setGen g .running) s1 → L2.Inv X pins t.1 Ho s1 ∧ s1.heap.IsGen a g ∧ ∀ b ∈ a :: own (GX X Nm qual scope f cdv sc Hsc), Ho b = none := by
    intro Ho s1 lf
    have I1 : L2.Inv X pins t.1 Ho s1 := Id.call' lf.os lf.un lf.hok lf.bare fun b hb => C.ch b (List.mem_cons_of_mem _ hb)
    obtain ⟨o, nm, qn, ho, r⟩ := hg
    have ha : drop (a :: own (GX X Nm qual scope f cdv sc Hsc)) t.2.1 a = none := drop_in List.mem_cons_self
    have hfs : a ∉ frs X.stack := fun hm => by
      rcases List.mem_cons.mp (Id.stkSub a hm) with z | z
      · exact C.loc (z ▸ List.mem_cons_self)
      · exact C.fs a List.mem_cons_self z
    have hk : s1.heap.get? a = some o := lf.un.keep a o ho ha hfs hao
    refine ⟨I1, ⟨o, nm, qn, hk, r⟩, fun b hb => ?_⟩
    rcases List.mem_cons.mp hb with rfl | hb
    · exact lf.un.free b o ho ha hao
    · exact lf.own_ b hb
  refine wpAny_gsz (n := g + 1) hgl (next_on hh J0.inv.nolimit hd hg hgs (al _ W (by rw [eg]; exact Jt.ow)) (fun v s1 y hs hb hv hsz => ?_) fun s1 hF h' hk hsz => ?_)
  · obtain ⟨m, rfl⟩ : ∃ m, n = m + 1 := ⟨n - 1, by omega⟩
    obtain ⟨i', x, Ho, σ', e1, lf, sz1, rv, yl, ow, z, kp⟩ := hv
    have ei : i' = i := by
      have : i' + m + 1 = N := e1
      omega
    subst ei
    rw [show m + 1 - 1 + 1 = m + 1 from rfl, eg] at lf yl
    obtain ⟨I1, hg1, hn⟩ := left lf
    have hsz' : g + 1 ≤ s1.gens.size := by rw [setGen_size] at hsz; exact hsz
    refine hY t.1 t.2.1 t.2.2 x v Ho σ' m _ y rfl Jt.pv Jt.fz yl z hn rv (inv_gens I1 (allBare_setGen lf.bare hb)) (fun b hb' => ?_) hg1 ow (setGen_at hsz') hs fun s' W' O' => ?_
    · rcases List.mem_cons.mp hb' with rfl | hb'
      · obtain ⟨o, _, _, ho, _⟩ := hg1
        exact ⟨o, ho⟩
      · rcases own_of hb' with rfl | ⟨c, e⟩
        · obtain ⟨mm, ⟨o, _, _, ho, _⟩, _⟩ := ow.loc
          exact ⟨o, ho⟩
        · obtain ⟨_, o, ho, _⟩ := ow.cell c b e
          exact ⟨o, ho⟩
    · have em : N - m = i' + 1 := by omega
      rw [em] at W'
      exact kp s' W' O'
  · obtain ⟨i', Ho, e1, lf, en⟩ := hF
    have ei : i' = i := by omega
    subst ei
    rw [eg] at lf en
    obtain ⟨I1, hg1, hn⟩ := left lf
    exact hP t.1 t.2.1 t.2.2 Ho _ Jt.pv Jt.fz en hn (inv_gens (I1.kept (t' := s1.toks) hk) (allBare_setGen lf.bare rfl))
end
end VG

set_option Elab.async false
set_option linter.all false
set_option maxRecDepth 100000
set_option maxHeartbeats 4000000
namespace VG
open PySem PySem.Spec PyProof.Rows L2 GenW VL
/-- what a generator def promises: for its arguments and the heap, how many items at most, what holds while it sleeps, what it hands out, its end -/
abbrev SpW := List V → Hp → Nat → (Nat → L2.St → Hp → Prop) → (Nat → L2.St → Hp → V → L2.St → Hp → Prop) → (Nat → L2.St → Hp → Hp → Prop) → Prop
structure Wlk (P : Program) (w : World) (K : PySem.W.Frag) (mg : Str → Option Value) (base : Heap) (k : Nat) (x : Str) (sp : SpW) : Prop where
  ex : ∃ (f : Addr) (fd : FuncData) (qual : Str) (scope : Scope) (cdv : Value) (Nm ps : List Str) (pre st1 st2 : Stmt) (test e : Expr) (wp yp xp : Pos), mg x = some (.ref f) ∧ PySem.W.keepIn K (.ref f) = true ∧ Binds K fd ps [] ∧ scope.isCoroutine = false ∧ (∀ n, interactive (envOfC qual scope n f cdv) = false) ∧
    (∀ vs H N Z Yl En, sp vs H N Z Yl En → vs.length = ps.length ∧ (∀ H', Same H H' → Z 0 (L2.start Nm vs) H') ∧ (∀ i σp H x σg Ho, Yl i σp H x σg Ho → i < N) ∧
      ∀ (Aw : Around) (outer : List Env) (s : Shared), Room k (Aw.deeper (envOfC qual scope s.heap.objs.size f cdv)) → ∃ tpre t1 t2 tc te Head, Body (gX P w K mg base Nm qual scope f cdv Aw outer s H) (N + 1) Z Yl En pre st1 st2 test e tpre t1 t2 tc te Head) ∧
    ∀ (A : Around) (outer : List Env) (s : Shared) (H : Hp) (args : Args) (us : List Value) (vs : List V), A.depth < recursionLimit → Env0 P w K mg base A outer s H → BindsTo s fd args (ps.zip us) → Vals vs us → vs.length = ps.length →
      codeAny (model P w) A (.call (.ref f) args) (fun r s' => match r with | .ok (.ret u) => ∃ a g, GNew P w K mg base Nm qual scope [pre, .While test [st1, .Expr (.Yield (some e) yp) xp, st2] [] wp] f cdv outer s H vs u s' a g | _ => False) s
theorem wlk_of {P : Program} {w : World} {K : PySem.W.Frag} {mg : Str → Option Value} {base : Heap} {k : Nat} {x : Str} {st : Stmt} {ps Nm : List Str} {sp : SpW} {pre st1 st2 : Stmt} {test e : Expr} {wp yp xp : Pos} (D : DefE K mg x st ps) (S : GScope Nm ps (defScope st))
    (hb : defBody st = [pre, .While test [st1, .Expr (.Yield (some e) yp) xp, st2] [] wp]) (hint : ∀ (n : Nat) (f : Addr) (cdv : Value), interactive (envOfC x (defScope st) n f cdv) = false)
    (hbody : ∀ vs H N Z Yl En, sp vs H N Z Yl En → vs.length = ps.length ∧ (∀ H', Same H H' → Z 0 (L2.start Nm vs) H') ∧ (∀ i σp H x σg Ho, Yl i σp H x σg Ho → i < N) ∧
      ∀ (f : Addr) (cdv : Value) (Aw : Around) (outer : List Env) (s : Shared), Room k (Aw.deeper (envOfC x (defScope st) s.heap.objs.size f cdv)) → ∃ tpre t1 t2 tc te Head, Body (gX P w K mg base Nm x (defScope st) f cdv Aw outer s H) (N + 1) Z Yl En pre st1 st2 test e tpre t1 t2 tc te Head) :
    Wlk P w K mg base k x sp := by
  obtain ⟨f, fd, F, hm, bi⟩ := D
  have F0 := F
  obtain ⟨oc, od, kV, doc, pm, an, cdv, ct, osl, rfl, lk, hcd⟩ := F.ex
  refine ⟨f, _, x, defScope st, cdv, Nm, ps, pre, st1, st2, test, e, wp, yp, xp, hm, F0.kp, bi, S.co, fun n => hint n f cdv, fun vs H N Z Yl En h => ?_, fun A outer s H args us vs hd e0 hbi r hl => ?_⟩
  · obtain ⟨h1, h2, h3, h4⟩ := hbody vs H N Z Yl En h
    exact ⟨h1, h2, h3, fun Aw outer s => h4 f cdv Aw outer s⟩
  · have := gen_call lk hcd S (A := A) (outer := outer) (s := s) (H := H) (args := args) (us := us) (vs := vs) hd e0 hbi r hl
    rw [hb] at this
    exact this
def Nxt (L : List Addr) (Z : Nat → L2.St → Hp → Prop) (Pv : Nat → L2.St → L2.St → Hp → Prop) (i : Nat) (σg : L2.St) (Hf : Hp) : L2.St → Hp → Prop := fun σ' H' => (∀ b ∈ L, H' b = Hf b) ∧ Z (i + 1) σg (drop L H') ∧ Pv (i + 1) σg σ' H'
/-- L: the own addresses of what sleeps -/
def tForG (sp : SpW) (t : TA) (g : TG) (tb : TS) : TS := fun D σ H => t σ H fun vs H1 => ∃ N Z Yl En, sp vs H1 N Z Yl En ∧ ∀ L : List Addr, (∀ b ∈ L, H1 b = none) → ∃ Pv : Nat → L2.St → L2.St → Hp → Prop,
  (∀ Hf σp, Fz L H1 Hf → Pv 0 σp σ Hf) ∧
  (∀ i σp σ H x Ho Hf σg, Pv i σp σ H → Frozen L H → Yl i σp (drop L H) x σg Ho → Z (i + 1) σg Ho → Fz L Ho Hf → (∀ b ∈ L, Ho b = none) → g x σ Hf fun σ2 H2 => tb { D with nx := Nxt L Z Pv i σg Hf, ct := Nxt L Z Pv i σg Hf, bk := D.nx } σ2 H2) ∧
  ∀ i σp σ H Ho, Pv i σp σ H → Frozen L H → En i σp (drop L H) Ho → (∀ b ∈ L, Ho b = none) → D.nx σ Ho
section
variable {X : Cx} {pins : List (Addr × Obj)} {L : List Addr} {G : Cx}
/-- what is known stays -/
theorem own_frz {σg : L2.St} {h h' : Heap} {Ho H' : Hp} {P : Program} {w : World} (hL : ∀ b ∈ own G, b ∈ L) (O : Own G σg h) (k : HOk P w H' h') (e : ∀ b ∈ L, H' b = frzL L h Ho b) : Own G σg h' :=
  O.keep fun b hb o ho => by
    have q : H' b = some (fz o) := by
      rw [e b (hL b hb)]
      unfold frzL
      rw [if_pos (hL b hb), ho]
      rfl
    exact (k b _ q).1
theorem gen_frz {a g : Nat} {h h' : Heap} {Ho H' : Hp} {P : Program} {w : World} (ha : a ∈ L) (O : h.IsGen a g) (k : HOk P w H' h') (e : ∀ b ∈ L, H' b = frzL L h Ho b) : h'.IsGen a g := by
  obtain ⟨o, nm, qn, ho, r⟩ := O
  have q : H' a = some (fz o) := by
    rw [e a ha]
    unfold frzL
    rw [if_pos ha, ho]
    rfl
  exact ⟨o, nm, qn, (k a _ q).1, r⟩
end
/-- the call is made: what sleeps has not begun -/
structure Rdy (X : Cx) (pins : List (Addr × Obj)) (σ : L2.St) (N : Nat) (Z : Nat → L2.St → Hp → Prop) (Yl : Nat → L2.St → Hp → V → L2.St → Hp → Prop) (En : Nat → L2.St → Hp → Hp → Prop) (H1 : Hp) (s1 s2 : Shared) (Nm : List Str) (qual : Str) (scope : Scope) (f : Addr) (cdv : Value) (a gi : Nat) (cd : Code) (σ0 : L2.St) : Prop where
  inv : L2.Inv X pins σ H1 s2
  no : ∀ b ∈ a :: own (GX X Nm qual scope f cdv s1 H1), H1 b = none
  C : Cons X pins (a :: own (GX X Nm qual scope f cdv s1 H1))
  S : GSt (GX X Nm qual scope f cdv s1 H1) s1.heap.objs.size
  O : Own (GX X Nm qual scope f cdv s1 H1) σ0 s2.heap
  hao : a ∉ own (GX X Nm qual scope f cdv s1 H1)
  gen : s2.heap.IsGen a gi
  st : s2.gens[gi]? = some (.fresh cd)
  yl : ∀ i σp H x σg Ho, Yl i σp H x σg Ho → i < N
  z : ∀ H', Same H1 H' → Z 0 σ0 H'
  al : ∀ (Gh : Nat → Shared → Hp × L2.St) (s' : Shared), Wakes (GX X Nm qual scope f cdv s1 H1) s1.heap.objs.size X.A.in1 (Z 0 (Gh (N + 1) s').2) (Gh (N + 1) s').1 s' → Own (GX X Nm qual scope f cdv s1 H1) (Gh (N + 1) s').2 s'.heap →
    (GenState.fresh cd).Goes (model X.prog X.w) X.A.in1 (RW (GX X Nm qual scope f cdv s1 H1) s1.heap.objs.size (N + 1) Gh En) (YW (GX X Nm qual scope f cdv s1 H1) s1.heap.objs.size (N + 1) X.A.in1 Gh Z Yl) (N + 1) (.send .none) s'
theorem own_there {G : Cx} {σg : L2.St} {h : Heap} {a gi : Nat} (ow : Own G σg h) (ea : h.IsGen a gi) : ∀ b ∈ a :: own G, ∃ o, h.get? b = some o := fun b hb => by
  rcases List.mem_cons.mp hb with rfl | hb
  · obtain ⟨o, _, _, ho, _⟩ := ea
    exact ⟨o, ho⟩
  · rcases own_of hb with rfl | ⟨c, e⟩
    · obtain ⟨mm, ⟨o, _, _, ho, _⟩, _⟩ := ow.loc
      exact ⟨o, ho⟩
    · obtain ⟨_, o, ho, _⟩ := ow.cell c b e
      exact ⟨o, ho⟩
section
variable {X : Cx} {k j : Nat} {x : Str} {sp : SpW} {p pos pos' : Pos} {e : Expr} {es : List Expr} {t : TA} {tg : Expr} {body : List Stmt} {g : TG} {tb : TS}
/-- the call alone -/
theorem call_wlk (hh : X.A.handled = none) (c : Wlk X.prog X.w X.K X.mg X.base k x sp) (hr : Room j X.A) (hk : k + 2 ≤ j) (hg : Gl X x) (ha : PA X (e :: es) t) {Kc : Nat → (Nat → L2.St → Hp → Prop) → (Nat → L2.St → Hp → V → L2.St → Hp → Prop) → (Nat → L2.St → Hp → Hp → Prop) → Hp → Prop}
    (hdb : (x == ("__debug__" : Str)) = false) (he : starEach (e :: es) X.env = (false, eval e X.env) :: starEach es X.env) (hpl : (backTo pos (starEach es X.env)).any (·.1) = false) {pins : List (Addr × Obj)} {s : Shared} {σ : L2.St} {H : Hp}
    (I : L2.Inv X pins σ H s) (h : t σ H fun vs H1 => ∃ N Z Yl En, sp vs H1 N Z Yl En ∧ Kc N Z Yl En H1) :
    wpAny (model X.prog X.w) X.A (eval (.Call (.Name x p) (e :: es) [] pos) X.env) (fun u s2 => ∃ N Z Yl En H1 s1 Nm qual scope f cdv a gi cd σ0, u = .ref a ∧ Rdy X pins σ N Z Yl En H1 s1 s2 Nm qual scope f cdv a gi cd σ0 ∧ Kc N Z Yl En H1) X.xe s := by
  obtain ⟨f, fd, qual, scope, cdv, Nm, ps, pre, st1, st2, test, ye, wp, yp, xp, hm, kp, bi, hco, hint, hsp, hcall⟩ := c.ex
  have hdp : X.A.depth < recursionLimit := by have := hr.dp; omega
  refine wpAny_Call_Name_kw (ld_glob I hg hm ?_ hdb)
  refine PySem.W.callWith_K (h₀ := X.base) I.ok.mod.kin kp (thn (ha.run pos pins s σ H _ I h) fun us s1 ⟨vs, H1, I1, r, q⟩ => ⟨I1.kIn, ?_⟩) he hpl
  obtain ⟨N, Z, Yl, En, hspec, hL⟩ := q
  obtain ⟨hl, hz0, hyl, hbody⟩ := hsp vs H1 N Z Yl En hspec
  have hlu : us.length = ps.length := by rw [← r.length]; exact hl
  have bb := bi s1 us I1.kIn (by rw [List.append_nil]; exact hlu)
  rw [List.append_nil] at bb
  refine wpAny_call (codeAny_mono (hcall X.A X.stack s1 H1 ⟨us, []⟩ us vs hdp I1.env0 bb r hl) fun rr s2 hq => ?_)
  cases rr with
  | error z => exact hq.elim
  | ok fl =>
    cases fl with
    | next => exact hq.elim
    | brk => exact hq.elim
    | cont => exact hq.elim
    | ret u =>
      obtain ⟨a, gi, gn⟩ := hq
      cases gn.val
      obtain ⟨S, O, hao⟩ := gn.fr X.A.in1 hh I1.env0.frames
      have hLge : ∀ b ∈ a :: own (GX X Nm qual scope f cdv s1 H1), s1.heap.objs.size ≤ b := fun b hb' => by
        rcases List.mem_cons.mp hb' with rfl | hb'
        · exact gn.ge
        · exact S.own_ge hb'
      have rm : Room k (X.A.in1.deeper (envOfC qual scope s1.heap.objs.size f cdv)) := ((hr.mono hk).in1).deeper _
      obtain ⟨tpre, t1, t2, tc, te, Head, B⟩ := hbody X.A.in1 X.stack s1 rm
      exact ⟨N, Z, Yl, En, H1, s1, Nm, qual, scope, f, cdv, a, gi, _, _, rfl, ⟨I1.call' (ch := []) gn.os (Un.kept gn.keep) (I1.hok.kept gn.keep) gn.bare fun b z => by simp at z, fun b hb' => I1.hok.fresh (hLge b hb'), cons_of I1 hLge, S, O, hao, gn.gen, gn.st, hyl, hz0,
        fun Gh s' W' O' => ⟨rfl, seg_walk S rfl rfl hco (hint _) B s' W' O'⟩⟩, hL⟩
theorem ps_forG (hxe : X.xe = fun _ _ => False) (hh : X.A.handled = none) (c : Wlk X.prog X.w X.K X.mg X.base k x sp) (hr : Room j X.A) (hk : k + 2 ≤ j) (hg : Gl X x) (ha : PA X (e :: es) t) (hpg : PG X tg g) (hb : PSs X body tb)
    (hdb : (x == ("__debug__" : Str)) = false := by decide) (he : starEach (e :: es) X.env = (false, eval e X.env) :: starEach es X.env := by rfl) (hpl : (backTo pos (starEach es X.env)).any (·.1) = false := by rfl)
    (hs : ∀ v, foldedSetIterable (.Call (.Name x p) (e :: es) [] pos) X.env v = pure v := by intro _; rfl) :
    PS X (.For tg (.Call (.Name x p) (e :: es) [] pos) body [] pos') (tForG sp t g tb) := by
  have nox : ∀ {u s'}, X.xe u s' → False := fun {u s'} h => by rw [hxe] at h; exact h
  refine ⟨fun pins s σ H D I h => ?_⟩
  have hdp : X.A.depth < recursionLimit := by have := hr.dp; omega
  refine wpAny_For (thn (call_wlk hh c hr hk hg ha hdb he hpl I h) fun u s2 hq => ?_) hs
  obtain ⟨N, Z, Yl, En, H1, s1, Nm, qual, scope, f, cdv, a, gi, cd, σ0, rfl, R, hL⟩ := hq
  refine wpAny_pyIter_gen R.gen ?_
  obtain ⟨Pv, hP0, hPt, hPe⟩ := hL (a :: own (GX X Nm qual scope f cdv s1 H1)) R.no
  have hx2 := own_there R.O R.gen
  have fz0 := frzL_fz (H := H1) hx2
  have J0 : JG X (GX X Nm qual scope f cdv s1 H1) pins (a :: own (GX X Nm qual scope f cdv s1 H1)) Z Pv 0 s2 (σ, frzL (a :: own (GX X Nm qual scope f cdv s1 H1)) s2.heap H1, σ0) :=
    ⟨inv_frz R.C R.inv R.no hx2, fz0.in_, R.O, by rw [show drop _ (σ, frzL (a :: own (GX X Nm qual scope f cdv s1 H1)) s2.heap H1, σ0).2.1 = H1 from drop_fz fz0 R.no]; exact R.z H1 fun _ _ e => e, hP0 _ _ fz0⟩
  have al0 : Alive X (GX X Nm qual scope f cdv s1 H1) s1.heap.objs.size pins (a :: own (GX X Nm qual scope f cdv s1 H1)) Z Pv Yl En (N + 1) (N + 1) (.fresh cd) := fun s' W' O' => by
    rw [Nat.sub_self] at W'
    exact R.al _ s' W' O'
  refine codeAny_forLoop_any (fun m s' => ∃ i, i ≤ N ∧ m = N + 1 - i ∧ (∃ t, JG X (GX X Nm qual scope f cdv s1 H1) pins (a :: own (GX X Nm qual scope f cdv s1 H1)) Z Pv i s' t) ∧ s'.heap.IsGen a gi ∧ ∃ gs, s'.gens[gi]? = some gs ∧
    Alive X (GX X Nm qual scope f cdv s1 H1) s1.heap.objs.size pins (a :: own (GX X Nm qual scope f cdv s1 H1)) Z Pv Yl En (N + 1) (N + 1 - i) gs) ?_ (N + 1) ⟨0, Nat.zero_le _, rfl, ⟨_, J0⟩, R.gen, _, R.st, al0⟩
  rintro m s3 ⟨i, hi, rfl, J, hg3, gs, hgs, al⟩
  refine turn_gen hh hdp R.C R.hao (by omega) (by omega) R.S J hg3 hgs al (fun σ3 H3 σp xv v Ho σg m s4 y hm3 pv fz3 yl z hn4 rv I4 hx4 hg4 ow4 hgs4 hsy al4 => ?_) fun σ3 H3 σp Ho s4 pv fz3 en hn4 I4 => ?_
  · obtain ⟨go_, nm, qn, ho, hc, hdt, _⟩ := hg4
    refine go_of ho hc hdt (by decide) ?_
    have hg4 : s4.heap.IsGen a gi := ⟨go_, nm, qn, ho, hc, hdt, by assumption⟩
    have fz4 := frzL_fz (H := Ho) hx4
    have If := inv_frz R.C I4 hn4 hx4
    have w0 := sw_dead s4.gens
    have i_lt := R.yl _ _ _ _ _ _ yl
    refine wpAny_mono (wpAny_sw w0 (hpg.run pins (wg s4 (s4.gens.map dead)) σ3 _ xv v _ (inv_gens If (bare_dead If.bare)) rv (hPt i σp σ3 H3 xv Ho _ σg pv fz3 yl z fz4 hn4))) (fun _ s5 hq5 => ?_) fun z5 s5 hq5 => ?_
    · obtain ⟨B5, w5, σ5, H5, I5, q5⟩ := hq5
      refine wpAny_mono (wpAny_sw w5 (hb.run pins (wg s5 B5) σ5 H5 _ I5 q5)) (fun fl s6 hq6 => ?_) fun z6 s6 hq6 => ?_
      · obtain ⟨B6, w6, hq6⟩ := hq6
        have back : ∀ {σ6 H6}, L2.Inv X pins σ6 H6 (wg s6 B6) → L2.Inv X pins σ6 H6 s6 := fun {σ6 H6} I6 => inv_gens (s := wg s6 B6) (G := s6.gens) I6 (bare_sw w6 If.bare I6.bare)
        have again : ∀ {σ6 H6}, L2.Inv X pins σ6 H6 (wg s6 B6) → Nxt (a :: own (GX X Nm qual scope f cdv s1 H1)) Z Pv i σg (frzL (a :: own (GX X Nm qual scope f cdv s1 H1)) s4.heap Ho) σ6 H6 →
            ∃ m', m' < N + 1 - i ∧ ∃ i, i ≤ N ∧ m' = N + 1 - i ∧ (∃ t, JG X (GX X Nm qual scope f cdv s1 H1) pins (a :: own (GX X Nm qual scope f cdv s1 H1)) Z Pv i s6 t) ∧ s6.heap.IsGen a gi ∧ ∃ gs, s6.gens[gi]? = some gs ∧
              Alive X (GX X Nm qual scope f cdv s1 H1) s1.heap.objs.size pins (a :: own (GX X Nm qual scope f cdv s1 H1)) Z Pv Yl En (N + 1) (N + 1 - i) gs := fun {σ6 H6} I6 q6 => by
          obtain ⟨k1, k2, k3⟩ := q6
          have I7 := back I6
          refine ⟨N + 1 - (i + 1), by omega, i + 1, i_lt, rfl, ⟨(σ6, H6, σg), I7, fun b hb' => ?_, own_frz (fun b hb' => List.mem_cons_of_mem _ hb') ow4 I7.hok k1, k2, k3⟩, gen_frz List.mem_cons_self hg4 I7.hok k1, y, w6.stays hgs4 hsy, ?_⟩
          · show ∃ o, H6 b = _
            rw [k1 b hb']
            exact fz4.in_ b hb'
          · have em : m = N + 1 - (i + 1) := by omega
            rw [← em]
            exact al4
        cases fl with
        | next => obtain ⟨σ6, H6, I6, q6⟩ := hq6; exact again I6 q6
        | cont => obtain ⟨σ6, H6, I6, q6⟩ := hq6; exact again I6 q6
        | brk => obtain ⟨σ6, H6, I6, q6⟩ := hq6; exact ⟨σ6, H6, back I6, q6⟩
        | ret v6 => obtain ⟨x6, σ6, H6, I6, r6, q6⟩ := hq6; exact ⟨x6, σ6, H6, back I6, r6, q6⟩
      · obtain ⟨_, _, h6⟩ := hq6
        exact (nox h6).elim
    · obtain ⟨_, _, h5⟩ := hq5
      exact (nox h5).elim
  · refine wpAny_execs_nil ?_
    exact ⟨σ3, Ho, I4, hPe i σp σ3 H3 Ho pv fz3 en hn4⟩
end
end VG

set_option Elab.async false
set_option linter.all false
set_option maxRecDepth 100000
set_option maxHeartbeats 4000000
/-! [elt for target in g(..) if ..], g a generator def of one's own -/
namespace VG
open PySem PySem.Spec PyProof.Rows L2 GenW VL
def NxL (L : List Addr) (Z : Nat → L2.St → Hp → Prop) (Pv : Nat → L2.St → Hp → Prop) (i : Nat) (σg : L2.St) (Hf : Hp) : Hp → Prop := fun H' => (∀ b ∈ L, H' b = Hf b) ∧ Z (i + 1) σg (drop L H') ∧ Pv (i + 1) σg H'
/-- L: the own addresses of what sleeps; D: the new list -/
def tLcG (sp : SpW) (t : TA) (g : TG) (tt : TT) (te : TE) (vs : List Nat) : TE := fun σ H Q => t σ H fun ws H1 => ∃ N Z Yl En, sp ws H1 N Z Yl En ∧ ∀ L D, (∀ b ∈ L, H1 b = none) → H1 D = none → D ∉ L → ∃ Pv : Nat → L2.St → Hp → Prop,
  (∀ Hf σp, Fz L (upd H1 D (.lst [])) Hf → Pv 0 σp Hf) ∧
  (∀ i σp H x Ho Hf σg, Pv i σp H → Frozen L H → Yl i σp (drop L H) x σg Ho → Z (i + 1) σg Ho → Fz L Ho Hf → (∀ b ∈ L, Ho b = none) → g x (wipe σ vs) Hf fun σ2 H2 => wipe σ2 vs = wipe σ vs ∧ tt σ2 H2 fun b H3 => if b = true then
    te σ2 H3 fun y H4 => ∃ acc, H4 D = some (.lst acc) ∧ acc.length < sizeLine ∧ NxL L Z Pv i σg Hf (upd H4 D (.lst (acc ++ [y]))) else NxL L Z Pv i σg Hf H3) ∧
  ∀ i σp H Ho, Pv i σp H → Frozen L H → En i σp (drop L H) Ho → (∀ b ∈ L, Ho b = none) → Q (.ref D) Ho
section
variable {X : Cx} {k j : Nat} {x : Str} {sp : SpW} {p cp : Pos} {e : Expr} {es : List Expr} {t : TA}
theorem lc_walk {pins : List (Addr × Obj)} {s : Shared} {σ : L2.St} {H : Hp} {Q : VK} {elt tg : Expr} {ifs : List Expr} {scope : Scope} {own_ : List (Str × Nat)} {pos pos' : Pos} {g : TG} {tt : TT} {te : TE} {use : Option (Value → Sem Unit)} {Qf : Value → Shared → Prop}
    (hh : X.A.handled = none) (hN : X.N.Nodup) (I : L2.Inv X pins σ H s) (c : Wlk X.prog X.w X.K X.mg X.base k x sp) (hr : Room j X.A) (hk : k + 2 ≤ j) (hg : Gl X x) (ha : PA X (e :: es) t)
    (hdb : (x == ("__debug__" : Str)) = false) (he : starEach (e :: es) X.env = (false, eval e X.env) :: starEach es X.env) (hpl : (backTo cp (starEach es X.env)).any (·.1) = false) (ok : BlkOk X.N X.env.scope scope own_)
    (pg : ∀ (s : Shared) (H : Hp) (C : Addr) (cl : List (Str × Addr)) (fp : List Addr), PG (X.blk s H scope (compEnvC scope cl C X.env) fp) tg g) (pt : ∀ (s : Shared) (H : Hp) (C : Addr) (cl : List (Str × Addr)) (fp : List Addr), PTs (X.blk s H scope (compEnvC scope cl C X.env) fp) ifs tt)
    (pe : ∀ (s : Shared) (H : Hp) (C : Addr) (cl : List (Str × Addr)) (fp : List Addr), PE (X.blk s H scope (compEnvC scope cl C X.env) fp) elt te) (hs : ∀ v, foldedSetIterable (.Call (.Name x p) (e :: es) [] cp) X.env v = pure v)
    (h : tLcG sp t g tt te (own_.map (·.2)) σ H Q)
    (hRR : ∀ D C s' m H', L2.Inv X pins σ H' s' → Q (.ref D) H' → s'.heap.Ns C m → FpOk X pins H' C → compPost (model X.prog X.w) X.A X.xe use Qf (.ref D) C (.ok .next) s') :
    wpAny (model X.prog X.w) X.A (comprehension (.ListComp elt [⟨tg, .Call (.Name x p) (e :: es) [] cp, ifs, 0⟩] scope pos) scope X.env pos' (newList []) false (eval (.Call (.Name x p) (e :: es) [] cp) X.env) use) Qf X.xe s := by
  have hfree : ∀ y ∈ scope.names, y.2 = .free → ∃ c, X.env.cells.lookup y.1 = some c := fun y hy q => (ok.free y hy q).elim (fun z => I.ok.has _ (.inl z)) fun z => I.ok.has _ (.inr z)
  refine wpAny_comprehension_free (use := use) rfl hs (closure_ok hfree) ok.kind (fun y hy q => by rw [ok.uniq y hy, q]) (thn (call_wlk hh c hr hk hg ha hdb he hpl I h) fun u s2 hq => ?_)
  obtain ⟨N, Z, Yl, En, H1, s1, Nm, qual, scg, f, cdv, a, gi, cd, σ0, rfl, R, hL⟩ := hq
  have hdp : X.A.depth < recursionLimit := by have := hr.dp; omega
  refine wpAny_pyIter_gen R.gen ?_
  refine wpAny_newObj_type (newEnv_comp ?_) (by show 0 ≤ sizeLine; decide)
  generalize hD : s2.heap.objs.size = D
  have hDn : H1 D = none := R.inv.hok.fresh (Nat.le_of_eq hD)
  have hx2 := own_there R.O R.gen
  have hDL : D ∉ a :: own (GX X Nm qual scg f cdv s1 H1) := fun hm => by
    obtain ⟨o, eo⟩ := hx2 D hm
    have := Heap.lt_size eo
    rw [hD] at this
    exact absurd this (Nat.lt_irrefl _)
  obtain ⟨Pv, hP0, hPt, hPe⟩ := hL (a :: own (GX X Nm qual scg f cdv s1 H1)) D R.no hDn hDL
  generalize hs3 : ({ s2 with heap := s2.heap.push { cls := .type "list", data := .seq ([] : List Value).toArray } } : Shared) = s3
  have k23 : ∀ b o, s2.heap.get? b = some o → s3.heap.get? b = some o := fun b o q => by rw [← hs3]; exact Heap.get?_push_of_some _ q
  have I3 : L2.Inv X pins σ (upd H1 D (.lst [])) s3 := by
    rw [← hs3]
    refine R.inv.laid (t' := s2.toks) (fun b o q => Heap.get?_push_of_some _ q) (Nat.le_of_eq hD) ⟨Nat.zero_le _, [], 0, .nil, ?_⟩
    rw [← hD]
    exact Heap.get?_push_size _ rfl
  have no3 : ∀ b ∈ a :: own (GX X Nm qual scg f cdv s1 H1), upd H1 D (.lst []) b = none := fun b hb => by
    have nb : b ≠ D := fun z => hDL (by rw [← z]; exact hb)
    rw [upd_ne nb]
    exact R.no b hb
  have f3 : ∀ b ∈ a :: own (GX X Nm qual scg f cdv s1 H1), FpOk X pins (upd H1 D (.lst [])) b ∧ b < s3.heap.objs.size := fun b hb => by
    obtain ⟨o, eo⟩ := hx2 b hb
    obtain ⟨c1, c2, c3, c4⟩ := R.C.ch b hb
    exact ⟨⟨no3 b hb, c2, R.C.fs b hb, c1, c3, c4⟩, Heap.lt_size (k23 b o eo)⟩
  have I4 := block_start I3 ok hN f3
  have pg' := pg s3 (upd H1 D (.lst [])) s3.heap.objs.size (cellsFrom (s3.heap.objs.size + 1) scope.names (cloFrom X.env.cells scope.names [])) (a :: own (GX X Nm qual scg f cdv s1 H1))
  have pt' := pt s3 (upd H1 D (.lst [])) s3.heap.objs.size (cellsFrom (s3.heap.objs.size + 1) scope.names (cloFrom X.env.cells scope.names [])) (a :: own (GX X Nm qual scg f cdv s1 H1))
  have pe' := pe s3 (upd H1 D (.lst [])) s3.heap.objs.size (cellsFrom (s3.heap.objs.size + 1) scope.names (cloFrom X.env.cells scope.names [])) (a :: own (GX X Nm qual scg f cdv s1 H1))
  show codeAny _ _ (.compStart (.ListComp elt [⟨tg, .Call (.Name x p) (e :: es) [] cp, ifs, 0⟩] scope pos) 0 (.ref a) (.ref D) (compEnvC scope (cellsFrom (s3.heap.objs.size + 1) scope.names (cloFrom X.env.cells scope.names [])) s3.heap.objs.size X.env)) (compPost (model X.prog X.w) X.A X.xe use Qf (.ref D) s3.heap.objs.size) { s3 with heap := pushCells (s3.heap.push { cls := .type "dict", data := .dict #[] }) scope.names }
  generalize hce : compEnvC scope (cellsFrom (s3.heap.objs.size + 1) scope.names (cloFrom X.env.cells scope.names [])) s3.heap.objs.size X.env = ce at I4 pg' pt' pe' ⊢
  have cL : ce.locals = s3.heap.objs.size := by subst hce; rfl
  generalize hH3 : upd H1 D (.lst []) = H3 at I3 I4 pg' pt' pe' no3 f3 hP0
  have z3 : Same H1 H3 := fun b o q => by rw [← hH3, upd_ne (ne_of_none q hDn)]; exact q
  generalize hs4 : ({ s3 with heap := pushCells (s3.heap.push { cls := .type "dict", data := .dict #[] }) scope.names } : Shared) = s4 at I4 ⊢
  have k34 : ∀ b o, s3.heap.get? b = some o → s4.heap.get? b = some o := fun b o q => by rw [← hs4]; exact pushCells_keeps _ _ _ _ (Heap.get?_push_of_some _ q)
  have g4 : s4.gens = s2.gens := by rw [← hs4, ← hs3]
  have Cb : Cons (X.blk s3 H3 scope ce (a :: own (GX X Nm qual scg f cdv s1 H1))) [] (a :: own (GX X Nm qual scg f cdv s1 H1)) :=
    ⟨fun hm => (I4.ok.exf _ hm).1 rfl, fun b hb => I4.ok.exfs b hb, fun b hb => .inl hb, fun y cc q hm => (I4.ok.exf cc hm).2 y cc q rfl, fun pp hp => absurd (show pp ∈ ([] : List (Addr × Obj)) ++ [] from hp) (by simp),
      fun b hb xs q => (by have z := (no3 b hb).symm.trans q; cases z), fun b hb o u q => (by have z := (no3 b hb).symm.trans q; cases z), fun b hb ps q => by have z := (no3 b hb).symm.trans q; cases z⟩
  have gen4 : s4.heap.IsGen a gi := R.gen.keeps fun b o q => k34 b o (k23 b o q)
  have O4 : Own (GX X Nm qual scg f cdv s1 H1) σ0 s4.heap := R.O.keep fun b _ o q => k34 b o (k23 b o q)
  have hx4 := own_there O4 gen4
  have fz0 := frzL_fz (H := H3) hx4
  have J0 : JG (X.blk s3 H3 scope ce (a :: own (GX X Nm qual scg f cdv s1 H1))) (GX X Nm qual scg f cdv s1 H1) [] (a :: own (GX X Nm qual scg f cdv s1 H1)) Z (fun i σp σ' H' => σ' = wipe σ (own_.map (·.2)) ∧ Pv i σp H') 0 s4 (wipe σ (own_.map (·.2)), frzL (a :: own (GX X Nm qual scg f cdv s1 H1)) s4.heap H3, σ0) :=
    ⟨inv_frz Cb I4 no3 hx4, fz0.in_, O4, by rw [show drop _ (wipe σ (own_.map (·.2)), frzL (a :: own (GX X Nm qual scg f cdv s1 H1)) s4.heap H3, σ0).2.1 = H3 from drop_fz fz0 no3]; exact R.z H3 z3, rfl, hP0 _ _ fz0⟩
  have al0 : Alive (X.blk s3 H3 scope ce (a :: own (GX X Nm qual scg f cdv s1 H1))) (GX X Nm qual scg f cdv s1 H1) s1.heap.objs.size [] (a :: own (GX X Nm qual scg f cdv s1 H1)) Z (fun i σp σ' H' => σ' = wipe σ (own_.map (·.2)) ∧ Pv i σp H') Yl En (N + 1) (N + 1) (.fresh cd) := fun s' W' O' => by
    rw [Nat.sub_self] at W'
    exact R.al _ s' W' O'
  have loop : codeAny (model X.prog X.w) X.A (.compLoop (.ListComp elt [⟨tg, .Call (.Name x p) (e :: es) [] cp, ifs, 0⟩] scope pos) 0 (.ref a) (.ref D) ce) (compPost (model X.prog X.w) X.A X.xe use Qf (.ref D) s3.heap.objs.size) s4 := by
    refine compLoop_any (fun m s' => ∃ i, i ≤ N ∧ m = N + 1 - i ∧ (∃ t, JG (X.blk s3 H3 scope ce (a :: own (GX X Nm qual scg f cdv s1 H1))) (GX X Nm qual scg f cdv s1 H1) [] (a :: own (GX X Nm qual scg f cdv s1 H1)) Z (fun i σp σ' H' => σ' = wipe σ (own_.map (·.2)) ∧ Pv i σp H') i s' t) ∧ s'.heap.IsGen a gi ∧ ∃ gs, s'.gens[gi]? = some gs ∧
      Alive (X.blk s3 H3 scope ce (a :: own (GX X Nm qual scg f cdv s1 H1))) (GX X Nm qual scg f cdv s1 H1) s1.heap.objs.size [] (a :: own (GX X Nm qual scg f cdv s1 H1)) Z (fun i σp σ' H' => σ' = wipe σ (own_.map (·.2)) ∧ Pv i σp H') Yl En (N + 1) (N + 1 - i) gs) ?_ (N + 1) ⟨0, Nat.zero_le _, rfl, ⟨_, J0⟩, gen4, _, by rw [g4]; exact R.st, al0⟩
    rintro m s5 ⟨i, hi, rfl, J, hg5, gs, hgs, al⟩
    refine turn_gen (X := X.blk s3 H3 scope ce (a :: own (GX X Nm qual scg f cdv s1 H1))) hh hdp Cb R.hao (by omega) (by omega) R.S J hg5 hgs al (fun σ6 H6 σp xv v Ho σg m s6 y hm6 pv fz6 yl z hn6 rv I6 hx6 hg6 ow6 hgs6 hsy al6 => ?_) fun σ6 H6 σp Ho s6 pv fz6 en hn6 I6 => ?_
    · obtain ⟨es6, pv⟩ := pv
      obtain ⟨go_, nm, qn, ho, hc, hdt, hsl⟩ := hg6
      refine go_of ho hc hdt (by decide) ?_
      have hg6 : s6.heap.IsGen a gi := ⟨go_, nm, qn, ho, hc, hdt, hsl⟩
      have fz4 := frzL_fz (H := Ho) hx6
      have If := inv_frz Cb I6 hn6 hx6
      have i_lt := R.yl _ _ _ _ _ _ yl
      rw [es6] at If
      have stp := hPt i σp H6 xv Ho _ σg pv fz6 yl z fz4 hn6
      refine wpAny_mono (wpAny_sw (sw_dead s6.gens) (pg'.run [] (wg s6 (s6.gens.map dead)) _ _ xv v _ (inv_gens If (bare_dead If.bare)) rv stp)) (fun _ s7 hq7 => ?_) fun z7 s7 hq7 => (hq7.elim fun _ q => q.2.elim)
      obtain ⟨B7, w7, σ7, H7, I7, hw7, q7⟩ := hq7
      refine wpAny_mono (wpAny_sw w7 (pt'.run [] (wg s7 B7) σ7 H7 _ I7 q7)) (fun b s8 hq8 => ?_) fun z8 s8 hq8 => (hq8.elim fun _ q => q.2.elim)
      obtain ⟨B8, w8, H8, I8, q8⟩ := hq8
      -- the turn's end
      have fin : ∀ {s' : Shared} {B : Array GenState} {H' : Hp}, Sw (sleepers s6.gens) B s'.gens → L2.Inv (X.blk s3 H3 scope ce (a :: own (GX X Nm qual scg f cdv s1 H1))) [] σ7 H' (wg s' B) → NxL (a :: own (GX X Nm qual scg f cdv s1 H1)) Z Pv i σg (frzL (a :: own (GX X Nm qual scg f cdv s1 H1)) s6.heap Ho) H' →
          ∃ m', m' < N + 1 - i ∧ ∃ i, i ≤ N ∧ m' = N + 1 - i ∧ (∃ t, JG (X.blk s3 H3 scope ce (a :: own (GX X Nm qual scg f cdv s1 H1))) (GX X Nm qual scg f cdv s1 H1) [] (a :: own (GX X Nm qual scg f cdv s1 H1)) Z (fun i σp σ' H' => σ' = wipe σ (own_.map (·.2)) ∧ Pv i σp H') i s' t) ∧ s'.heap.IsGen a gi ∧ ∃ gs, s'.gens[gi]? = some gs ∧
            Alive (X.blk s3 H3 scope ce (a :: own (GX X Nm qual scg f cdv s1 H1))) (GX X Nm qual scg f cdv s1 H1) s1.heap.objs.size [] (a :: own (GX X Nm qual scg f cdv s1 H1)) Z (fun i σp σ' H' => σ' = wipe σ (own_.map (·.2)) ∧ Pv i σp H') Yl En (N + 1) (N + 1 - i) gs := fun {s' B H'} wB I' nx => by
        obtain ⟨k1, k2, k3⟩ := nx
        have I9 : L2.Inv (X.blk s3 H3 scope ce (a :: own (GX X Nm qual scg f cdv s1 H1))) [] σ7 H' s' := inv_gens (s := wg s' B) (G := s'.gens) I' (bare_sw wB If.bare I'.bare)
        have hl : (wipe σ (own_.map (·.2))).length = σ7.length := by rw [← hw7, wipe_length]
        have I10 := I9.weak hl fun jj vv ee => by
          rw [← hw7] at ee
          exact (wipe_some ee).1
        refine ⟨N + 1 - (i + 1), by omega, i + 1, i_lt, rfl, ⟨(wipe σ (own_.map (·.2)), H', σg), I10, fun b hb' => ?_, own_frz (fun b hb' => List.mem_cons_of_mem _ hb') ow6 I9.hok k1, k2, rfl, k3⟩, gen_frz List.mem_cons_self hg6 I9.hok k1, y, wB.stays hgs6 hsy, ?_⟩
        · show ∃ o, H' b = _
          rw [k1 b hb']
          exact fz4.in_ b hb'
        · have em : m = N + 1 - (i + 1) := by omega
          rw [← em]
          exact al6
      cases b with
      | false =>
        simp only [Bool.false_eq_true, if_false] at q8 ⊢
        exact fin w8 I8 q8
      | true =>
        simp only [if_true] at q8 ⊢
        refine wpAny_mono (wpAny_sw w8 (pe'.run [] (wg s8 B8) σ7 H8 _ I8 q8)) (fun zv s9 hq9 => ?_) fun z9 s9 hq9 => (hq9.elim fun _ q => q.2.elim)
        obtain ⟨B9, w9, yv, H9, I9, r9, acc, hD9, hz9, nx⟩ := hq9
        refine wpAny_mono (wpAny_sw w9 (app_ok (X := X.blk s3 H3 scope ce (a :: own (GX X Nm qual scg f cdv s1 H1))) (E := fun _ _ => False) (Q := fun _ s' => L2.Inv (X.blk s3 H3 scope ce (a :: own (GX X Nm qual scg f cdv s1 H1))) [] σ7 (upd H9 D (.lst (acc ++ [yv]))) s') I9 hD9 hz9 r9 fun s' I' => I')) (fun _ s10 hq10 => ?_) fun z10 s10 hq10 => (hq10.elim fun _ q => q.2.elim)
        obtain ⟨B10, w10, I10⟩ := hq10
        exact fin w10 I10 nx
    · obtain ⟨rfl, pv⟩ := pv
      have I7 : L2.Inv X pins σ Ho s6 := I3.call' (ch := a :: own (GX X Nm qual scg f cdv s1 H1)) I6.os I6.base I6.hok I6.bare fun b hb => ⟨(f3 b hb).1.2.2.2.1, (f3 b hb).1.2.1, (f3 b hb).1.2.2.2.2.1, (f3 b hb).1.2.2.2.2.2⟩
      have nC : Ho s3.heap.objs.size = none := by
        have q : Ho ce.locals = none := I6.free
        rw [cL] at q
        exact q
      obtain ⟨mm, hn, _⟩ := I6.loc
      have hn : s6.heap.Ns ce.locals mm := hn
      rw [cL] at hn
      exact hRR D s3.heap.objs.size s6 mm Ho I7 (hPe i σp H6 Ho pv fz6 en hn6) hn (I3.fpOk (Nat.le_refl _) nC)
  exact codeAny_compStart_list loop (wpAny_pyIter_gen gen4 loop)
/-- as a value -/
theorem pe_lcG {elt tg : Expr} {ifs : List Expr} {scope : Scope} {own_ : List (Str × Nat)} {pos : Pos} {g : TG} {tt : TT} {te : TE} (hN : X.N.Nodup) (hh : X.A.handled = none) (c : Wlk X.prog X.w X.K X.mg X.base k x sp) (hr : Room j X.A) (hk : k + 2 ≤ j) (hg : Gl X x) (ha : PA X (e :: es) t) (ok : BlkOk X.N X.env.scope scope own_)
    (pg : ∀ (s : Shared) (H : Hp) (C : Addr) (cl : List (Str × Addr)) (fp : List Addr), PG (X.blk s H scope (compEnvC scope cl C X.env) fp) tg g) (pt : ∀ (s : Shared) (H : Hp) (C : Addr) (cl : List (Str × Addr)) (fp : List Addr), PTs (X.blk s H scope (compEnvC scope cl C X.env) fp) ifs tt)
    (pe : ∀ (s : Shared) (H : Hp) (C : Addr) (cl : List (Str × Addr)) (fp : List Addr), PE (X.blk s H scope (compEnvC scope cl C X.env) fp) elt te)
    (hdb : (x == ("__debug__" : Str)) = false := by decide) (he : starEach (e :: es) X.env = (false, eval e X.env) :: starEach es X.env := by rfl) (hpl : (backTo cp (starEach es X.env)).any (·.1) = false := by rfl) (hs : ∀ v, foldedSetIterable (.Call (.Name x p) (e :: es) [] cp) X.env v = pure v := by intro _; rfl) :
    PE X (.ListComp elt [⟨tg, .Call (.Name x p) (e :: es) [] cp, ifs, 0⟩] scope pos) (tLcG sp t g tt te (own_.map (·.2))) := by
  refine ⟨fun pins s σ H Q I h => ?_⟩
  rw [eval_ListComp]
  refine lc_walk hh hN I c hr hk hg ha hdb he hpl ok pg pt pe hs h fun D C s' m H' I' q hn f => ⟨m, hn, fun h'' sb => ?_⟩
  exact ⟨.ref D, H', I'.turned (t' := s'.toks) (fun b o hb z => (sb.2 b hb).trans z) f.1 f.2.1 f.2.2.2.1 f.2.2.2.2.1 f.2.2.2.2.2, rfl, q⟩
/-- y = [..] on one row, y a local -/
theorem ps_setLcG {i : Nat} {y : Str} {py spos : Pos} {elt tg : Expr} {ifs : List Expr} {scope : Scope} {own_ : List (Str × Nat)} {pos : Pos} {g : TG} {tt : TT} {te : TE} (hN : X.N.Nodup) (hh : X.A.handled = none) (hy : X.N[i]? = some y) (hyl : X.env.scope.names.lookup y = some .local)
    (hsw : swapsWith (.ListComp elt [⟨tg, .Call (.Name x p) (e :: es) [] cp, ifs, 0⟩] scope pos) (some (.Name y py)) spos.line X.env = pure true) (c : Wlk X.prog X.w X.K X.mg X.base k x sp) (hr : Room j X.A) (hk : k + 2 ≤ j) (hg : Gl X x) (ha : PA X (e :: es) t) (ok : BlkOk X.N X.env.scope scope own_)
    (pg : ∀ (s : Shared) (H : Hp) (C : Addr) (cl : List (Str × Addr)) (fp : List Addr), PG (X.blk s H scope (compEnvC scope cl C X.env) fp) tg g) (pt : ∀ (s : Shared) (H : Hp) (C : Addr) (cl : List (Str × Addr)) (fp : List Addr), PTs (X.blk s H scope (compEnvC scope cl C X.env) fp) ifs tt)
    (pe : ∀ (s : Shared) (H : Hp) (C : Addr) (cl : List (Str × Addr)) (fp : List Addr), PE (X.blk s H scope (compEnvC scope cl C X.env) fp) elt te)
    (hdb : (x == ("__debug__" : Str)) = false := by decide) (he : starEach (e :: es) X.env = (false, eval e X.env) :: starEach es X.env := by rfl) (hpl : (backTo cp (starEach es X.env)).any (·.1) = false := by rfl) (hs : ∀ v, foldedSetIterable (.Call (.Name x p) (e :: es) [] cp) X.env v = pure v := by intro _; rfl) :
    PS X (.Assign [.Name y py] (.ListComp elt [⟨tg, .Call (.Name x p) (e :: es) [] cp, ifs, 0⟩] scope pos) spos) (tAsg (tLcG sp t g tt te (own_.map (·.2))) (gName i)) := by
  refine ⟨fun pins s σ H D I h => ?_⟩
  rw [exec_Assign_Name_used _ _ _ _ hsw]
  refine wpAny_bind (wpAny_standAt (wpAny_bind ?_))
  show wpAny _ X.A (do let _ ← comprehension (.ListComp elt [⟨tg, .Call (.Name x p) (e :: es) [] cp, ifs, 0⟩] scope pos) scope X.env (firstIterPos [⟨tg, .Call (.Name x p) (e :: es) [] cp, ifs, 0⟩] pos) (newList []) false (eval (.Call (.Name x p) (e :: es) [] cp) X.env) (some (assign (.Name y py) X.env))) _ _ s
  have h : tLcG sp t g tt te (own_.map (·.2)) σ H (fun v H1 => gName i v σ H1 D.nx) := h
  refine wpAny_bind (thn (lc_walk (Qf := fun _ s' => SP X pins D .next s') hh hN I c hr hk hg ha hdb he hpl ok pg pt pe hs h fun D' C s' m H' I' q hn f => ?_) fun _ s' hq => wpAny_pure (wpAny_pure hq))
  show wpAny _ _ (assign (.Name y py) X.env (.ref D')) _ _ _
  refine wpAny_assign_Name (store_ok2 (v := V.ref D') I' hN hy (.inl hyl) rfl (fun s2 I2 ⟨b, sb, hb⟩ => ?_) (.inr hyl))
  have nC : C ≠ b := hb.elim (fun z => by rw [z]; exact f.2.1) fun z q' => f.2.2.2.2.1 y b z q'.symm
  exact ⟨m, hn.sameBut sb nC, fun h3 sb3 => ⟨_, H', I2.turned (t' := s2.toks) (fun b' o hb' z => (sb3.2 b' hb').trans z) f.1 f.2.1 f.2.2.2.1 f.2.2.2.2.1 f.2.2.2.2.2, q⟩⟩
end
end VG

set_option Elab.async false
set_option linter.all false
set_option maxRecDepth 100000
set_option maxHeartbeats 4000000
/-! dict(pairs) of a tuple of pairs; tuple(list) whose answer is known to have no dict -/
namespace VL
open PySem PySem.Spec PyProof.Rows L2
variable {X : Cx}
/-- tuple(list): the new tuple stands as a raw object -/
theorem call_tupleF : CallR X (.type "tuple") (fun xs H Q => ∃ p ys, xs = [.ref p] ∧ SqL X.K H p ys ∧ ∀ l o, H l = none → o.dict = none → Q (.ref l) (upd H l (.frz o (.tup ys)))) := by
  intro pins s σ H xs us Q I r h
  obtain ⟨p, ys, rfl, hq, q⟩ := h
  obtain ⟨u, rfl, rx⟩ := vals1 r
  cases rx
  obtain ⟨its, r', pl, hz⟩ := I.list hq
  have hlen := r'.length
  refine call_tuple_list pl.isList (fun h' kp => ?_) (by simp only [List.size_toArray] <;> omega)
  have I1 : Inv X pins σ H { s with heap := h' } := I.kept (t' := s.toks) kp
  have I2 : Inv X pins σ (upd H h'.objs.size (.frz { cls := .type "tuple", data := .seq its.toArray } (.tup ys))) { s with heap := h'.push { cls := .type "tuple", data := .seq its.toArray } } :=
    I1.laid (t' := s.toks) (fun b o e => Heap.get?_push_of_some _ e) (Nat.le_refl _) (show ObjOk X.prog X.w _ _ _ (.frz _ (.tup ys)) from ⟨Heap.get?_push_size _ rfl, hz, its, r', IsTup.new _ _⟩)
  exact ⟨.ref h'.objs.size, _, I2, rfl, q _ _ (I1.hok.fresh (Nat.le_refl _)) rfl⟩
theorem pairs_ofU {pins : List (Addr × Obj)} {σ : L2.St} {H : Hp} {s : Shared} (I : Inv X pins σ H s) : ∀ {ps : List Addr} {kvs : List (Key × V)}, Paired (fun p kv => SqT X.K H p [kV kv.1, kv.2]) ps kvs →
    ∃ (prs : List (Key × Value)) (us : List (Value × Value)), KV kvs prs ∧ prs.length = ps.length ∧ us.length = ps.length ∧ ∀ (j : Nat) (k v : Value), us[j]? = some (k, v) → ∃ (b : Addr) (key : Key), ps[j]? = some b ∧ IsTup s.heap b #[k, v] ∧ prs[j]? = some (key, v) ∧ keyIs key k = true
  | _, _, .nil => ⟨[], [], .nil, rfl, rfl, fun j k v e => by simp at e⟩
  | _, _, .cons (a := p) (b := kv) h t => by
    obtain ⟨prs, us, r, hl, hu, hp⟩ := pairs_ofU I t
    obtain ⟨its, rv, ht, _⟩ := I.tuple h
    obtain ⟨u, y, ei, ru, ry⟩ := vals2 rv
    subst ei
    refine ⟨(kv.1, y) :: prs, (u, y) :: us, .cons ⟨rfl, ry⟩ r, by rw [List.length_cons, List.length_cons, hl], by rw [List.length_cons, List.length_cons, hu], fun j k v e => ?_⟩
    cases j with
    | zero =>
      have e' : (u, y) = (k, v) := Option.some.inj e
      cases e'
      exact ⟨p, kv.1, rfl, ht, rfl, kV_is (P := X.prog) (w := X.w) ru⟩
    | succ j =>
      obtain ⟨b, key, e1, e2, e3, e4⟩ := hp j k v (by simpa using e)
      exact ⟨b, key, by simpa using e1, e2, by simpa using e3, e4⟩
/-- dict(xs) of a tuple of pairs (key, value), the tuple's raw object being known -/
theorem call_dictT (hcalm : X.calm = true) : CallR X (.type "dict") (fun xs H Q => ∃ (a : Addr) (o : Obj) (ps : List Addr) (kvs : List (Key × V)), xs = [.ref a] ∧ H a = some (.frz o (.tup (ps.map V.ref))) ∧ o.dict = none ∧ Paired (fun p kv => SqT X.K H p [kV kv.1, kv.2]) ps kvs ∧
    ∀ p, H p = none → Q (.ref p) (upd H p (.dK (mergeK [] kvs)))) := by
  intro pins s σ H xs us Q I r q
  obtain ⟨a, o, ps, kvs, ex, hq, hod, hp, q⟩ := q
  subst ex
  obtain ⟨u, eu, rx⟩ := vals1 r
  subst eu
  cases rx
  obtain ⟨ho, hz, its, rv, o', ho', hc, n, hdat⟩ := (show ObjOk X.prog X.w H s.heap a (.frz o (.tup (ps.map V.ref))) from I.hok a _ hq)
  rw [ho] at ho'
  cases ho'
  have ei := refs_at rv
  subst ei
  rw [List.length_map] at hz
  obtain ⟨prs, us, rel, hl, hul, hpr⟩ := pairs_ofU I hp
  have hps : PairItems s.heap (ps.map Value.ref).toArray (fun j => ps[j]?.getD 0) us := by
    refine ⟨by simp [hul], fun j k v e => ?_⟩
    obtain ⟨b, key, e1, e2, e3, e4⟩ := hpr j k v e
    obtain ⟨o2, h2, h3, n2, h4⟩ := id e2
    exact ⟨by simp [e1], by simp only [e1, Option.getD_some]; exact .inl ⟨o2, h2, h3, n2, h4⟩⟩
  have hseq : PlainSeq "tuple" s.heap a (ps.map Value.ref).toArray := ⟨o, n, ho, hc, hod, hdat⟩
  refine PySem.call_dict_pairs (knd := mixKind X.prog X.w) (kvs := prs) (PairArg.tuple a _ _ us) (I.ok.hd hcalm) ⟨hseq, hps⟩ ⟨by rw [hl, hul], fun i key v e => ?_⟩ (by rw [hul]; exact hz) fun h' tk hd' k => ?_
  · obtain ⟨b, kk, e1, e2, e3, e4⟩ := hpr i key v e
    exact ⟨kk, e3, e4⟩
  · have hm : (s.heap.objs.size == sysModules) = false := beq_eq_false_iff_ne.mpr (Nat.ne_of_gt I.big)
    have hlen : (mergeK [] kvs).length ≤ sizeLine := by
      refine Nat.le_trans (length_mergeK kvs []) ?_
      rw [List.length_nil, Nat.zero_add, rel.length, hl]
      exact hz
    exact ⟨.ref s.heap.objs.size, upd H s.heap.objs.size (.dK (mergeK [] kvs)), I.laid (t' := tk) (fun b o e => k b o (fun z => nomatch z) e) (Nat.le_refl _) (show ObjOk X.prog X.w _ _ _ (.dK (mergeK [] kvs)) from ⟨hlen, hm, merged [] prs, KV.merge rel .nil, hd'⟩), rfl, q _ (I.hok.fresh (Nat.le_refl _))⟩
end VL

set_option Elab.async false
set_option linter.all false
set_option maxRecDepth 100000
set_option maxHeartbeats 4000000
/-! documents: nodes with numbers, attributes, kids -/
namespace VL
open PySem PySem.Spec PyProof.Rows L2
inductive Dn where
  | tx (n : Int) (x : Str)
  | el (n : Int) (t : Str) (as : List (Str × Str)) (ks : List Dn)
def Dn.num : Dn → Int
  | .tx n _ => n
  | .el n _ _ _ => n
def Dn.kids : Dn → List Dn
  | .tx _ _ => []
  | .el _ _ _ ks => ks
def Dn.isE : Dn → Bool
  | .tx _ _ => false
  | .el _ _ _ _ => true
mutual
def it (l : Int) : Dn → List (Int × Dn)
  | .tx n x => [(l, .tx n x)]
  | .el n t as ks => (l, .el n t as ks) :: itS (l + 1) ks
def itS (l : Int) : List Dn → List (Int × Dn)
  | [] => []
  | d :: r => it l d ++ itS l r
end
theorem it_eq (l : Int) : ∀ d : Dn, it l d = (l, d) :: itS (l + 1) d.kids
  | .tx n x => by simp only [it, Dn.kids, itS]
  | .el n t as ks => by simp only [it, Dn.kids]
theorem itS_app (l : Int) : ∀ a b : List Dn, itS l (a ++ b) = itS l a ++ itS l b
  | [], b => by simp only [itS, List.nil_append]
  | d :: r, b => by simp only [List.cons_append, itS, itS_app l r b, List.append_assoc]
def rest (st : List (Int × Dn)) : List (Int × Dn) := st.reverse.flatMap fun p => it p.1 p.2
theorem rest_snoc (st : List (Int × Dn)) (l : Int) (d : Dn) : rest (st ++ [(l, d)]) = it l d ++ rest st := by simp [rest]
theorem rest_kids (l : Int) : ∀ (ks : List Dn) (st : List (Int × Dn)), rest (st ++ ks.reverse.map fun d => (l, d)) = itS l ks ++ rest st
  | [], st => by simp [itS]
  | d :: r, st => by
    rw [List.reverse_cons, List.map_append, ← List.append_assoc, List.map_cons, List.map_nil, rest_snoc, rest_kids l r st]
    simp only [itS, List.append_assoc]
theorem rest_len : ∀ st : List (Int × Dn), st.length ≤ (rest st).length := fun st => by
  unfold rest
  rw [List.length_flatMap]
  have : ∀ l : List (Int × Dn), l.length ≤ (l.map fun p => (it p.1 p.2).length).sum := fun l => by
    induction l with
    | nil => simp
    | cons p l ih =>
      rw [List.map_cons, List.sum_cons, List.length_cons, it_eq]
      simp only [List.length_cons]
      omega
  have := this st.reverse
  simpa using this
theorem itS_len (l : Int) : ∀ ks : List Dn, ks.length ≤ (itS l ks).length
  | [] => by simp [itS]
  | d :: r => by
    have ih := itS_len l r
    simp only [itS, it_eq, List.length_cons, List.length_append]
    omega
def pairP (a : Str × Str) : PyData := .tuple [.str a.1, .str a.2]
/-- the attributes' tuple: no dict hangs on it -/
def AtA (H : Hp) (v : V) (as : List (Str × Str)) : Prop := ∃ (a : Addr) (o : Obj) (ps : List Addr), v = .ref a ∧ H a = some (.frz o (.tup (ps.map V.ref))) ∧ o.dict = none ∧ Paired (fun p (x : Str × Str) => H p = some (.tup [.str x.1, .str x.2])) ps as
theorem AtA.same {H H' : Hp} {v : V} {as : List (Str × Str)} (s : Same H H') (h : AtA H v as) : AtA H' v as := by
  obtain ⟨a, o, ps, rfl, h1, h2, h3⟩ := h
  refine ⟨a, o, ps, rfl, s _ _ h1, h2, ?_⟩
  clear h1
  induction h3 with
  | nil => exact .nil
  | cons h t ih => exact .cons (s _ _ h) ih
mutual
inductive NdA (H : Hp) : V → Dn → Prop
  | tx {a : Addr} {n : Int} {x : Str} : H a = some (.tup [.str "text", .int n, .str x]) → NdA H (.ref a) (.tx n x)
  | el {a pk : Addr} {n : Int} {t : Str} {va : V} {as : List (Str × Str)} {vs : List V} {ks : List Dn} : H a = some (.tup [.str "element", .int n, .str t, va, .ref pk]) → AtA H va as → H pk = some (.tup vs) → NdAs H vs ks → NdA H (.ref a) (.el n t as ks)
inductive NdAs (H : Hp) : List V → List Dn → Prop
  | nil : NdAs H [] []
  | cons {v : V} {vs : List V} {d : Dn} {ds : List Dn} : NdA H v d → NdAs H vs ds → NdAs H (v :: vs) (d :: ds)
end
mutual
theorem NdA.same {H H' : Hp} (s : Same H H') : ∀ {v : V} {d : Dn}, NdA H v d → NdA H' v d
  | _, _, .tx h => .tx (s _ _ h)
  | _, _, .el h ha hk hs => .el (s _ _ h) (ha.same s) (s _ _ hk) (NdAs.same s hs)
theorem NdAs.same {H H' : Hp} (s : Same H H') : ∀ {vs : List V} {ds : List Dn}, NdAs H vs ds → NdAs H' vs ds
  | _, _, .nil => .nil
  | _, _, .cons a b => .cons (NdA.same s a) (NdAs.same s b)
end
theorem NdAs.paired {H : Hp} : ∀ {vs : List V} {ds : List Dn}, NdAs H vs ds → Paired (NdA H) vs ds
  | _, _, .nil => .nil
  | _, _, .cons a b => .cons a (NdAs.paired b)
theorem NdAs.of {H : Hp} : ∀ {vs : List V} {ds : List Dn}, Paired (NdA H) vs ds → NdAs H vs ds
  | _, _, .nil => .nil
  | _, _, .cons a b => .cons a (NdAs.of b)
theorem NdAs.len {H : Hp} : ∀ {vs : List V} {ds : List Dn}, NdAs H vs ds → vs.length = ds.length
  | _, _, .nil => rfl
  | _, _, .cons _ h => by simp [NdAs.len h]
theorem NdAs.app {H : Hp} : ∀ {vs : List V} {ds : List Dn} {ws : List V} {es : List Dn}, NdAs H vs ds → NdAs H ws es → NdAs H (vs ++ ws) (ds ++ es)
  | _, _, _, _, .nil, h => h
  | _, _, _, _, .cons a b, h => .cons a (NdAs.app b h)
theorem paired_rev {α β : Type} {R : α → β → Prop} : ∀ {xs : List α} {ys : List β}, Paired R xs ys → Paired R xs.reverse ys.reverse := by
  have ap : ∀ {xs : List α} {ys : List β} {x : α} {y : β}, Paired R xs ys → R x y → Paired R (xs ++ [x]) (ys ++ [y]) := by
    intro xs ys x y h r
    induction h with
    | nil => exact .cons r .nil
    | cons h t ih => exact .cons h ih
  intro xs ys h
  induction h with
  | nil => exact .nil
  | cons h t ih =>
    rw [List.reverse_cons, List.reverse_cons]
    exact ap ih h
theorem NdAs.rev {H : Hp} {vs : List V} {ds : List Dn} (h : NdAs H vs ds) : NdAs H vs.reverse ds.reverse := .of (paired_rev h.paired)
theorem NdAs.get {H : Hp} : ∀ {vs : List V} {ds : List Dn}, NdAs H vs ds → ∀ {i : Nat} {v : V}, vs[i]? = some v → ∃ d, ds[i]? = some d ∧ NdA H v d
  | _, _, .cons a b, 0, v, e => by
    have : _ = v := Option.some.inj e
    subst this
    exact ⟨_, rfl, a⟩
  | _, _, .cons a b, i + 1, v, e => by
    obtain ⟨d, h1, h2⟩ := NdAs.get b (by simpa using e)
    exact ⟨d, by simpa using h1, h2⟩
  | _, _, .nil, i, v, e => by simp at e
/-- what waits: pairs (level, node) -/
def StA (H0 H : Hp) (ws : List V) (st : List (Int × Dn)) : Prop := Paired (fun (v : V) (p : Int × Dn) => ∃ t u, v = .ref t ∧ H t = some (.tup [.int p.1, u]) ∧ NdA H0 u p.2) ws st
theorem StA.len {H0 H : Hp} {ws : List V} {st : List (Int × Dn)} (h : StA H0 H ws st) : ws.length = st.length := Paired.length h
theorem StA.snoc {H0 H : Hp} {ws : List V} {st : List (Int × Dn)} {t : Addr} {u : V} {l : Int} {d : Dn} (h : StA H0 H ws st) (ht : H t = some (.tup [.int l, u])) (hu : NdA H0 u d) : StA H0 H (ws ++ [.ref t]) (st ++ [(l, d)]) := by
  unfold StA at h
  induction h with
  | nil => exact .cons ⟨t, u, rfl, ht, hu⟩ .nil
  | cons a b ih => exact .cons a ih
/-- kept by what keeps tuples -/
theorem StA.keep {H0 H H' : Hp} {ws : List V} {st : List (Int × Dn)} (h : StA H0 H ws st) (k : ∀ b xs, H b = some (.tup xs) → H' b = some (.tup xs)) : StA H0 H' ws st := by
  unfold StA at h ⊢
  induction h with
  | nil => exact .nil
  | cons a b ih =>
    obtain ⟨t, u, e, ht, hu⟩ := a
    exact .cons ⟨t, u, e, k _ _ ht, hu⟩ ih
theorem StA.last {H0 H : Hp} {ws : List V} {st : List (Int × Dn)} (h : StA H0 H ws st) (hn : 0 < ws.length) : ∃ ws' st' t u l d, ws = ws' ++ [.ref t] ∧ st = st' ++ [(l, d)] ∧ StA H0 H ws' st' ∧ H t = some (.tup [.int l, u]) ∧ NdA H0 u d := by
  unfold StA at h
  induction h with
  | nil => exact absurd hn (by decide)
  | @cons v p vs ps a b ih =>
    obtain ⟨t, u, e, ht, hu⟩ := a
    cases b with
    | nil => exact ⟨[], [], t, u, p.1, p.2, by rw [e]; rfl, rfl, .nil, ht, hu⟩
    | cons a' b' =>
      obtain ⟨ws', st', t', u', l', d', e1, e2, h1, h2, h3⟩ := ih (by simp)
      exact ⟨v :: ws', p :: st', t', u', l', d', by rw [e1]; rfl, by rw [e2]; rfl, .cons ⟨t, u, e, ht, hu⟩ h1, h2, h3⟩
end VL

set_option Elab.async false
set_option linter.all false
set_option maxRecDepth 100000
set_option maxHeartbeats 4000000
/-! walk(document): what it hands out, what it keeps -/
namespace VL
open PySem PySem.Spec PyProof.Rows L2
theorem walk_revT {K : PySem.W.Frag} {a : Addr} {xs : List V} : Walk (RT.ItvT K a xs.length) xs.length (fun H => SqT K H a xs) (fun i H x H' => H' = H ∧ xs[xs.length - 1 - i]? = some x) :=
  ⟨fun i _ hi q => ⟨hi, xs, xs[xs.length - 1 - i]'(by omega), q, by simp [show xs.length - 1 - i < xs.length by omega]⟩, fun _ _ => Nat.le_refl _, fun _ _ _ _ _ q y => ⟨y.1, y.2 xs q⟩⟩
theorem Sm.new {t : Addr} {o : HO} {H : Hp} (h : H t = none) : Same H (upd H t o) := fun b u e => by rw [upd_ne (ne_of_none e h)]; exact e
theorem ps_const {X : Cx} {st : Stmt} {t : Shared → Hp → TS} (h : ∀ s0 H0, PS (VG.re X s0 H0) st (t s0 H0)) (s1 : Shared) (H1 : Hp) (e : ∀ s0 H0, t s0 H0 = t s1 H1) : ∀ s0 H0, PS (VG.re X s0 H0) st (t s1 H1) := fun s0 H0 => by rw [← e s0 H0]; exact h s0 H0
theorem pt_const {X : Cx} {st : Expr} {t : Shared → Hp → TT} (h : ∀ s0 H0, PT (VG.re X s0 H0) st (t s0 H0)) (s1 : Shared) (H1 : Hp) (e : ∀ s0 H0, t s0 H0 = t s1 H1) : ∀ s0 H0, PT (VG.re X s0 H0) st (t s1 H1) := fun s0 H0 => by rw [← e s0 H0]; exact h s0 H0
theorem fz_same {L : List Addr} {Ho Hf : Hp} (z : VG.Fz L Ho Hf) (n : ∀ b ∈ L, Ho b = none) : Same Ho Hf := fun b o e => by
  rw [z.out b fun m => by rw [n b m] at e; cases e]
  exact e
theorem drop_same {L : List Addr} {Ho Hf H' : Hp} (z : VG.Fz L Ho Hf) (n : ∀ b ∈ L, Ho b = none) (s : Same Hf H') : Same Ho (VG.drop L H') := fun b o e => by
  rw [VG.drop_out fun m => by rw [n b m] at e; cases e]
  exact s _ _ (fz_same z n _ _ e)
theorem keep_L {L : List Addr} {Ho Hf H' : Hp} (z : VG.Fz L Ho Hf) (s : Same Hf H') : ∀ b ∈ L, H' b = Hf b := fun b hb => by
  obtain ⟨o, e⟩ := z.in_ b hb
  rw [e]
  exact s _ _ e
theorem fz_in {L : List Addr} {Ho Hf : Hp} (z : VG.Fz L Ho Hf) {b : Addr} (h : b ∈ L) : ∃ o, Hf b = some (VG.fz o) := z.in_ b h
/-- all but the list of what waits is kept -/
def KeptBut (wl : Addr) (H H' : Hp) : Prop := ∀ b o, H b = some o → b ≠ wl → H' b = some o
def zW (H0 : Hp) (a : Addr) (ks : List Dn) : Nat → L2.St → Hp → Prop
  | 0, σ, H => σ = [some (.ref a), none, none, none, none] ∧ Same H0 H
  | i + 1, σ, H => ∃ (wl : Addr) (ws : List V) (st : List (Int × Dn)) (lv : Int) (d : Dn) (v : V) (y4 : Option V), σ = [some (.ref a), some v, some (.ref wl), some (.int lv), y4] ∧ Same H0 H ∧ H0 wl = none ∧ H wl = some (.lst ws) ∧ StA H0 H ws st ∧ NdA H0 v d ∧
      (itS 1 ks)[i]? = some (lv, d) ∧ (itS 1 ks).drop (i + 1) = itS (lv + 1) d.kids ++ rest st
theorem zW_same {H0 : Hp} {a : Addr} {ks : List Dn} {i : Nat} {σ : L2.St} {H H' : Hp} (h : zW H0 a ks i σ H) (s : Same H H') : zW H0 a ks i σ H' := by
  cases i with
  | zero => exact ⟨h.1, Same.trans h.2 s⟩
  | succ i =>
    obtain ⟨wl, ws, st, lv, d, v, y4, e, h1, h2, h3, h4, h5, h6⟩ := h
    exact ⟨wl, ws, st, lv, d, v, y4, e, Same.trans h1 s, h2, s _ _ h3, h4.keep fun b xs e => s _ _ e, h5, h6⟩
def yW (H0 : Hp) (its : List (Int × Dn)) (i : Nat) (σp : L2.St) (H : Hp) (x : V) (σg : L2.St) (Ho : Hp) : Prop := i < its.length ∧ ∃ (wl t : Addr) (v : V) (lv : Int) (d : Dn), x = .ref t ∧ Ho t = some (.tup [.int lv, v]) ∧ NdA H0 v d ∧ its[i]? = some (lv, d) ∧
  KeptBut wl H Ho ∧ H0 wl = none ∧ σg[2]? = some (some (.ref wl)) ∧ (0 < i → σp[2]? = some (some (.ref wl))) ∧ (i = 0 → H wl = none) ∧ Same H0 Ho
def eW (H0 : Hp) (its : List (Int × Dn)) (i : Nat) (σp : L2.St) (H : Hp) (Ho : Hp) : Prop := its.length ≤ i ∧ ∃ wl, KeptBut wl H Ho ∧ H0 wl = none ∧ (0 < i → σp[2]? = some (some (.ref wl))) ∧ (i = 0 → H wl = none) ∧ Same H0 Ho
def hW (H0 : Hp) (a : Addr) (ks : List Dn) (i : Nat) (σp : L2.St) (H : Hp) (σ : L2.St) (Hg : Hp) : Prop := ∃ (wl : Addr) (ws : List V) (st : List (Int × Dn)) (y1 y3 y4 : Option V), σ = [some (.ref a), y1, some (.ref wl), y3, y4] ∧ Same H0 H ∧ H0 wl = none ∧ Hg wl = some (.lst ws) ∧ StA H0 Hg ws st ∧
  (itS 1 ks).drop i = rest st ∧ KeptBut wl H Hg ∧ (0 < i → σp[2]? = some (some (.ref wl))) ∧ (i = 0 → H wl = none)
def spWalk : VG.SpW := fun vs H0 N Z Yl En => ∃ (a : Addr) (xs : List V) (ks : List Dn), vs = [.ref a] ∧ H0 a = some (.tup xs) ∧ NdAs H0 xs ks ∧ (itS 1 ks).length ≤ 1000 ∧ N = (itS 1 ks).length ∧ Z = zW H0 a ks ∧ Yl = yW H0 (itS 1 ks) ∧ En = eW H0 (itS 1 ks)
end VL

set_option Elab.async false
set_option linter.all false
set_option maxRecDepth 100000
set_option maxHeartbeats 4000000
/-! nodes with what stands around them -/
namespace VL
open PySem PySem.Spec PyProof.Rows L2
mutual
def an (ar : List Dn) : Dn → List (Dn × List Dn)
  | .tx n x => [(.tx n x, ar)]
  | .el n t as ks => (.el n t as ks, ar) :: anS (ar ++ [.el n t as ks]) ks
def anS (ar : List Dn) : List Dn → List (Dn × List Dn)
  | [] => []
  | d :: r => an ar d ++ anS ar r
end
mutual
theorem it_an (ar : List Dn) : ∀ d : Dn, it ((ar.length : Int) + 1) d = (an ar d).map fun p => ((p.2.length : Int) + 1, p.1)
  | .tx n x => by simp only [it, an, List.map_cons, List.map_nil]
  | .el n t as ks => by
    have ih := itS_an (ar ++ [.el n t as ks]) ks
    rw [List.length_append] at ih
    simp only [it, an, List.map_cons]
    rw [← ih]
    rfl
theorem itS_an (ar : List Dn) : ∀ ks : List Dn, itS ((ar.length : Int) + 1) ks = (anS ar ks).map fun p => ((p.2.length : Int) + 1, p.1)
  | [] => by simp only [itS, anS, List.map_nil]
  | d :: r => by
    simp only [itS, anS, List.map_append]
    rw [it_an ar d, itS_an ar r]
end
/-- each next one stands within what the one before leaves -/
inductive Run {α : Type} (R : α → α → Prop) : List α → Prop
  | nil : Run R []
  | one (a : α) : Run R [a]
  | cons {a b : α} {l : List α} : R a b → Run R (b :: l) → Run R (a :: b :: l)
theorem Run.app {α : Type} {R : α → α → Prop} : ∀ {l m : List α}, Run R l → Run R m → (∀ p ∈ l, ∀ q, m.head? = some q → R p q) → Run R (l ++ m)
  | [], m, _, h, _ => h
  | [a], [], _, _, _ => .one a
  | [a], b :: m, _, h, f => .cons (f a (by simp) b rfl) h
  | a :: b :: l, m, .cons r h1, h, f => .cons r (Run.app h1 h fun p hp => f p (List.mem_cons_of_mem _ hp))
theorem Run.at {α : Type} {R : α → α → Prop} : ∀ {l : List α}, Run R l → ∀ {i : Nat} {p q : α}, l[i]? = some p → l[i + 1]? = some q → R p q
  | _, .nil, i, p, q, h, _ => by simp at h
  | _, .one a, i, p, q, _, h => by simp at h
  | _, .cons r h, 0, p, q, hp, hq => by
    have e1 : _ = p := Option.some.inj hp
    have e2 : _ = q := Option.some.inj (show some _ = some q from hq)
    subst e1 e2
    exact r
  | _, .cons r h, i + 1, p, q, hp, hq => Run.at h (by simpa using hp) (by simpa using hq)
theorem an_head (ar : List Dn) : ∀ d : Dn, ∃ l, an ar d = (d, ar) :: l
  | .tx n x => ⟨[], by simp only [an]⟩
  | .el n t as ks => ⟨anS (ar ++ [.el n t as ks]) ks, by simp only [an]⟩
theorem anS_head (ar : List Dn) : ∀ ks q, (anS ar ks).head? = some q → q.2 = ar
  | [], q, h => by simp [anS] at h
  | d :: r, q, h => by
    obtain ⟨l, e⟩ := an_head ar d
    simp only [anS, e, List.cons_append, List.head?_cons, Option.some.injEq] at h
    rw [← h]
mutual
theorem an_pre (ar : List Dn) : ∀ d : Dn, ∀ p ∈ an ar d, ar <+: p.2
  | .tx n x, p, hp => by
    simp only [an, List.mem_singleton] at hp
    rw [hp]
    exact List.prefix_refl _
  | .el n t as ks, p, hp => by
    simp only [an, List.mem_cons] at hp
    rcases hp with rfl | hp
    · exact List.prefix_refl _
    · exact (List.prefix_append ar _).trans (anS_pre _ ks p hp)
theorem anS_pre (ar : List Dn) : ∀ ks : List Dn, ∀ p ∈ anS ar ks, ar <+: p.2
  | [], p, hp => by simp [anS] at hp
  | d :: r, p, hp => by
    simp only [anS, List.mem_append] at hp
    rcases hp with hp | hp
    · exact an_pre ar d p hp
    · exact anS_pre ar r p hp
end
def Nx (p q : Dn × List Dn) : Prop := q.2 <+: p.2 ++ [p.1]
mutual
theorem an_run (ar : List Dn) : ∀ d : Dn, Run Nx (an ar d)
  | .tx n x => by simp only [an]; exact .one _
  | .el n t as ks => by
    simp only [an]
    have h := anS_run (ar ++ [.el n t as ks]) ks
    refine Run.app (l := [_]) (.one _) h fun p hp q hq => ?_
    rw [List.mem_singleton.mp hp]
    show q.2 <+: ar ++ [.el n t as ks]
    rw [anS_head _ _ _ hq]
    exact List.prefix_refl _
theorem anS_run (ar : List Dn) : ∀ ks : List Dn, Run Nx (anS ar ks)
  | [] => by simp only [anS]; exact .nil
  | d :: r => by
    simp only [anS]
    refine Run.app (an_run ar d) (anS_run ar r) fun p hp q hq => ?_
    show q.2 <+: p.2 ++ [p.1]
    rw [anS_head _ _ _ hq]
    exact (an_pre ar d p hp).trans (List.prefix_append _ _)
end
def pathD (ks : List Dn) (n : Int) : List Dn := match (anS [] ks).find? fun p => decide (p.1.num = n) with
  | some p => (p.2 ++ [p.1]).reverse.filter Dn.isE
  | none => []
/-- what stands around the i-th -/
theorem step_an {ks : List Dn} {i : Nat} {p : Dn × List Dn} (h : (anS [] ks)[i]? = some p) {A : List Dn} (hA : (i = 0 ∧ A = []) ∨ ∃ q, 0 < i ∧ (anS [] ks)[i - 1]? = some q ∧ A = q.2 ++ [q.1]) : A.take p.2.length = p.2 := by
  rcases hA with ⟨rfl, rfl⟩ | ⟨q, hi, hq, rfl⟩
  · rw [← List.head?_eq_getElem?] at h
    rw [anS_head _ _ _ h]
    rfl
  · obtain ⟨j, rfl⟩ : ∃ j, i = j + 1 := ⟨i - 1, by omega⟩
    have r : p.2 <+: q.2 ++ [q.1] := (anS_run [] ks).at (by simpa using hq) h
    exact (List.prefix_iff_eq_take.mp r).symm
theorem NdAs.take {H : Hp} : ∀ {vs : List V} {ds : List Dn} (n : Nat), NdAs H vs ds → NdAs H (vs.take n) (ds.take n)
  | _, _, 0, _ => by simpa using NdAs.nil
  | _, _, _ + 1, .nil => .nil
  | _, _, n + 1, .cons a b => .cons a (b.take n)
def Dn.as : Dn → List (Str × Str)
  | .tx _ _ => []
  | .el _ _ as _ => as
mutual
def AllD (P : Dn → Prop) : Dn → Prop
  | .tx n x => P (.tx n x)
  | .el n t as ks => P (.el n t as ks) ∧ AllS P ks
def AllS (P : Dn → Prop) : List Dn → Prop
  | [] => True
  | d :: r => AllD P d ∧ AllS P r
end
mutual
theorem an_all {P : Dn → Prop} (ar : List Dn) (ha : ∀ d ∈ ar, P d) : ∀ d : Dn, AllD P d → ∀ p ∈ an ar d, P p.1 ∧ ∀ e ∈ p.2, P e
  | .tx n x, h, p, hp => by
    simp only [an, List.mem_singleton] at hp
    simp only [AllD] at h
    rw [hp]
    exact ⟨h, ha⟩
  | .el n t as ks, h, p, hp => by
    simp only [an, List.mem_cons] at hp
    simp only [AllD] at h
    rcases hp with rfl | hp
    · exact ⟨h.1, ha⟩
    · refine anS_all (ar ++ [.el n t as ks]) (fun d hd => ?_) ks h.2 p hp
      rcases List.mem_append.mp hd with hd | hd
      · exact ha d hd
      · rw [List.mem_singleton.mp hd]
        exact h.1
theorem anS_all {P : Dn → Prop} (ar : List Dn) (ha : ∀ d ∈ ar, P d) : ∀ ks : List Dn, AllS P ks → ∀ p ∈ anS ar ks, P p.1 ∧ ∀ e ∈ p.2, P e
  | [], _, p, hp => by simp [anS] at hp
  | d :: r, h, p, hp => by
    simp only [anS, List.mem_append] at hp
    simp only [AllS] at h
    rcases hp with hp | hp
    · exact an_all ar ha d h.1 p hp
    · exact anS_all ar ha r h.2 p hp
end
theorem pathD_all {P : Dn → Prop} {ks : List Dn} (h : AllS P ks) (n : Int) : ∀ d ∈ pathD ks n, P d ∧ d.isE = true := by
  intro d hd
  unfold pathD at hd
  split at hd
  · rename_i p e
    have hp := List.mem_of_find?_eq_some e
    obtain ⟨h1, h2⟩ := anS_all [] (fun _ z => nomatch z) ks h p hp
    obtain ⟨hm, he⟩ := List.mem_filter.mp hd
    rw [List.mem_reverse] at hm
    refine ⟨?_, he⟩
    rcases List.mem_append.mp hm with hm | hm
    · exact h2 d hm
    · rw [List.mem_singleton.mp hm]
      exact h1
  · exact nomatch hd
def attrD (as : List (Str × Str)) (x : Str) : V := match as.find? fun a => decide (a.1 = x) with
  | some a => .str a.2
  | none => .non
def NamesOk (d : Dn) : Prop := (d.as.map (·.1)).Nodup
/-- the dict that dict(pairs) makes of pairs with different keys -/
theorem mergeK_nd : ∀ (kvs acc : List (Key × V)), ((acc ++ kvs).map (·.1)).Nodup → mergeK acc kvs = acc ++ kvs
  | [], acc, _ => by simp [mergeK]
  | kv :: r, acc, h => by
    have hn : putK acc kv.1 kv.2 = acc ++ [kv] := by
      refine putK_nw (valV_out fun hm => ?_)
      rw [List.map_append, List.nodup_append] at h
      exact h.2.2 _ hm _ (by simp) rfl
    show mergeK (putK acc kv.1 kv.2) r = _
    rw [hn, mergeK_nd r (acc ++ [kv]) (by simpa using h)]
    simp
def kvA (as : List (Str × Str)) : List (Key × V) := as.map fun a => (.inr a.1, .str a.2)
theorem attr_val (x : Str) : ∀ as : List (Str × Str), (valV (kvA as) (.inr x)).getD .non = attrD as x
  | [] => rfl
  | a :: r => by
    have ih := attr_val x r
    unfold attrD at ih ⊢
    rw [List.find?_cons]
    by_cases c : a.1 = x
    · rw [decide_eq_true c]
      show (valV ((Sum.inr a.1, V.str a.2) :: kvA r) (.inr x)).getD .non = _
      rw [valV_pos (by rw [c])]
      rfl
    · rw [decide_eq_false c]
      show (valV ((Sum.inr a.1, V.str a.2) :: kvA r) (.inr x)).getD .non = _
      rw [valV_neg (fun z => c (Sum.inr.inj z))]
      exact ih
theorem kvA_merge {as : List (Str × Str)} (h : (as.map (·.1)).Nodup) : mergeK [] (kvA as) = kvA as := by
  have := mergeK_nd (kvA as) [] (by
    rw [List.nil_append]
    unfold kvA
    rw [List.map_map]
    show ((as.map fun a => (Sum.inr a.1 : Key)).Nodup)
    rw [show (as.map fun a => (Sum.inr a.1 : Key)) = (as.map (·.1)).map Sum.inr by rw [List.map_map]; rfl]
    exact List.Pairwise.map _ (fun a b n z => n (Sum.inr.inj z)) h)
  simpa using this
theorem getElem?_mem' {α : Type} {l : List α} {i : Nat} {a : α} (h : l[i]? = some a) : a ∈ l := List.mem_of_getElem? h
mutual
theorem an_len (ar : List Dn) : ∀ d : Dn, ∀ p ∈ an ar d, p.2.length + 1 ≤ ar.length + (an ar d).length
  | .tx n x, p, hp => by
    simp only [an, List.mem_singleton] at hp
    rw [hp]
    simp [an]
  | .el n t as ks, p, hp => by
    simp only [an, List.mem_cons] at hp
    rcases hp with rfl | hp
    · simp [an]
    · have := anS_len (ar ++ [.el n t as ks]) ks p hp
      simp only [an, List.length_cons, List.length_append, List.length_nil] at this ⊢
      omega
theorem anS_len (ar : List Dn) : ∀ ks : List Dn, ∀ p ∈ anS ar ks, p.2.length + 1 ≤ ar.length + (anS ar ks).length
  | [], p, hp => by simp [anS] at hp
  | d :: r, p, hp => by
    simp only [anS, List.mem_append] at hp
    simp only [anS, List.length_append]
    rcases hp with hp | hp
    · have := an_len ar d p hp
      omega
    · have := anS_len ar r p hp
      omega
end
theorem pathD_len {ks : List Dn} {n : Int} (h : (itS 1 ks).length ≤ 1000) : (pathD ks n).length ≤ 1001 := by
  rw [show itS 1 ks = (anS [] ks).map fun p => ((p.2.length : Int) + 1, p.1) from itS_an [] ks, List.length_map] at h
  unfold pathD
  split
  · rename_i p e
    have := anS_len [] ks p (List.mem_of_find?_eq_some e)
    refine Nat.le_trans (List.length_filter_le _ _) ?_
    rw [List.length_reverse, List.length_append]
    simp only [List.length_nil, List.length_cons] at this ⊢
    omega
  · simp
theorem mem_it_an {ks : List Dn} {p : Int × Dn} (h : p ∈ itS 1 ks) : ∃ q ∈ anS [] ks, q.1 = p.2 := by
  rw [show itS 1 ks = (anS [] ks).map fun p => ((p.2.length : Int) + 1, p.1) from itS_an [] ks] at h
  obtain ⟨q, hq, rfl⟩ := List.mem_map.mp h
  exact ⟨q, hq, rfl⟩
theorem itS_all {P : Dn → Prop} {ks : List Dn} (h : AllS P ks) : ∀ p ∈ itS 1 ks, P p.2 := fun p hp => by
  obtain ⟨q, hq, e⟩ := mem_it_an hp
  rw [← e]
  exact (anS_all [] (fun _ z => nomatch z) ks h q hq).1
mutual
def numN : Dn → List Int
  | .tx n _ => [n]
  | .el n _ _ ks => n :: numS ks
def numS : List Dn → List Int
  | [] => []
  | d :: r => numN d ++ numS r
end
mutual
theorem it_num (l : Int) : ∀ d : Dn, (it l d).map (fun p => p.2.num) = numN d
  | .tx n x => by simp only [it, numN, List.map_cons, List.map_nil, Dn.num]
  | .el n t as ks => by
    simp only [it, numN, List.map_cons]
    rw [itS_num (l + 1) ks]
    rfl
theorem itS_num (l : Int) : ∀ ks : List Dn, (itS l ks).map (fun p => p.2.num) = numS ks
  | [] => by simp only [itS, numS, List.map_nil]
  | d :: r => by
    simp only [itS, numS, List.map_append]
    rw [it_num l d, itS_num l r]
end
theorem numS_app : ∀ a b : List Dn, numS (a ++ b) = numS a ++ numS b
  | [], b => by simp only [numS, List.nil_append]
  | d :: r, b => by simp only [List.cons_append, numS, numS_app r b, List.append_assoc]
theorem numS_one (d : Dn) : numS [d] = numN d := by simp only [numS, List.append_nil]
theorem AllS_app {P : Dn → Prop} : ∀ {a b : List Dn}, AllS P a → AllS P b → AllS P (a ++ b)
  | [], _, _, h => h
  | d :: r, _, h, h' => by
    simp only [AllS, List.cons_append] at h ⊢
    exact ⟨h.1, AllS_app h.2 h'⟩
theorem AllS_one {P : Dn → Prop} {d : Dn} (h : AllD P d) : AllS P [d] := by simp only [AllS]; exact ⟨h, trivial⟩
mutual
def dN : Dn → Nat
  | .tx _ _ => 0
  | .el _ _ _ ks => dS ks + 1
def dS : List Dn → Nat
  | [] => 0
  | d :: r => max (dN d) (dS r)
end
theorem dS_app : ∀ a b : List Dn, dS (a ++ b) = max (dS a) (dS b)
  | [], b => by simp [dS]
  | d :: r, b => by
    simp only [List.cons_append, dS, dS_app r b]
    omega
theorem dS_one (d : Dn) : dS [d] = dN d := by simp [dS]
theorem anS_num (ar : List Dn) (ks : List Dn) : (anS ar ks).length = (numS ks).length := by
  have h := congrArg List.length (itS_an ar ks)
  rw [List.length_map] at h
  rw [← h, ← itS_num ((ar.length : Int) + 1) ks, List.length_map]
theorem anS_app (ar : List Dn) : ∀ a b : List Dn, anS ar (a ++ b) = anS ar a ++ anS ar b
  | [], b => by simp only [anS, List.nil_append]
  | d :: r, b => by simp only [List.cons_append, anS, anS_app ar r b, List.append_assoc]
theorem dS_get : ∀ {ks : List Dn} {i : Nat} {d : Dn}, ks[i]? = some d → dN d ≤ dS ks
  | [], _, _, h => by simp at h
  | e :: r, 0, d, h => by
    have : e = d := Option.some.inj h
    subst this
    simp only [dS]
    omega
  | e :: r, i + 1, d, h => by
    have := dS_get (ks := r) (i := i) (d := d) (by simpa using h)
    simp only [dS]
    omega
mutual
theorem an_isE (ar : List Dn) (ha : ∀ e ∈ ar, e.isE = true) : ∀ d : Dn, ∀ p ∈ an ar d, ∀ e ∈ p.2, e.isE = true
  | .tx n x, p, hp => by
    simp only [an, List.mem_singleton] at hp
    rw [hp]
    exact ha
  | .el n t as ks, p, hp => by
    simp only [an, List.mem_cons] at hp
    rcases hp with rfl | hp
    · exact ha
    · refine anS_isE (ar ++ [.el n t as ks]) (fun e he => ?_) ks p hp
      rcases List.mem_append.mp he with he | he
      · exact ha e he
      · rw [List.mem_singleton.mp he]
        rfl
theorem anS_isE (ar : List Dn) (ha : ∀ e ∈ ar, e.isE = true) : ∀ ks : List Dn, ∀ p ∈ anS ar ks, ∀ e ∈ p.2, e.isE = true
  | [], p, hp => by simp [anS] at hp
  | d :: r, p, hp => by
    simp only [anS, List.mem_append] at hp
    rcases hp with hp | hp
    · exact an_isE ar ha d p hp
    · exact anS_isE ar ha r p hp
end
theorem anS_nums (ks : List Dn) : (anS [] ks).map (fun p => p.1.num) = numS ks := by
  have h := congrArg (List.map fun p : Int × Dn => p.2.num) (itS_an [] ks)
  rw [itS_num, List.map_map] at h
  rw [h]
  rfl
theorem find_nd {α : Type} {f : α → Int} : ∀ {l : List α} {p : α}, (l.map f).Nodup → p ∈ l → l.find? (fun q => decide (f q = f p)) = some p
  | [], p, _, h => nomatch h
  | q :: l, p, nd, h => by
    rw [List.map_cons, List.nodup_cons] at nd
    rcases List.mem_cons.mp h with rfl | h
    · rw [List.find?_cons, decide_eq_true rfl]
    · have : f q ≠ f p := fun z => nd.1 (by rw [z]; exact List.mem_map_of_mem h)
      rw [List.find?_cons, decide_eq_false this]
      exact find_nd nd.2 h
theorem find_an {ks : List Dn} (nd : (numS ks).Nodup) {p : Dn × List Dn} (h : p ∈ anS [] ks) : (anS [] ks).find? (fun q => decide (q.1.num = p.1.num)) = some p :=
  find_nd (f := fun q : Dn × List Dn => q.1.num) (by rw [anS_nums]; exact nd) h
def holdD (p : Dn × List Dn) : List Dn := p.2 ++ if p.1.isE then [p.1] else []
theorem pathD_at {ks : List Dn} (nd : (numS ks).Nodup) {p : Dn × List Dn} (h : p ∈ anS [] ks) : pathD ks p.1.num = (holdD p).reverse := by
  unfold pathD holdD
  rw [find_an nd h]
  show ((p.2 ++ [p.1]).reverse.filter Dn.isE) = _
  rw [List.filter_reverse]
  rw [List.filter_append]
  have : p.2.filter Dn.isE = p.2 := List.filter_eq_self.mpr (anS_isE [] (fun _ z => nomatch z) ks p h)
  rw [this]
  cases c : p.1.isE <;> simp [c]
theorem pathD_no {ks : List Dn} {n : Int} (h : n ∉ numS ks) : pathD ks n = [] := by
  unfold pathD
  have : (anS [] ks).find? (fun p => decide (p.1.num = n)) = none := by
    rw [List.find?_eq_none]
    intro p hp c
    exact h (by rw [← anS_nums, ← of_decide_eq_true c]; exact List.mem_map_of_mem hp)
  rw [this]
end VL

set_option Elab.async false
set_option linter.all false
set_option maxRecDepth 100000
set_option maxHeartbeats 4000000
namespace VL
open PySem PySem.Spec PyProof.Rows L2 NdefX

/-! ### an own exception's __init__ that begins with super().__init__(..), over ValueError -/
abbrev supBody (p0 p1 p2 p3 p4 : Pos) (es : List Expr) (rest : List Stmt) : List Stmt := .Expr (.Call (.Attribute (.Call (.Name "super" p0) [] [] p1) "__init__" p2) es [] p3) p4 :: rest
section
variable {CX : CXT} {P : Program} {w : World} {K : PySem.W.Frag} {mg : Str → Option Value} {base : Heap} {k : Nat} {f D cc cda : Addr} {name qual : Str} {params : Arguments} {es : List Expr} {ar : Arg} {rest : List Stmt} {p0 p1 p2 p3 p4 : Pos} {scope : Scope}
  {dV kV doc pm ct oc cl ccl : Value} {od cld cdd an : Option Addr} {osl csl ccs : Array (Option Value)} {vsC : Array Value} {file : Str} {tf : Tok} {cdD : ClassData} {N ps : List Str} {sp : Sp}
/-- what the written part says of it -/
structure SupK (P : Program) (K : PySem.W.Frag) (mg : Str → Option Value) (f D cc cda : Addr) (fd : FuncData) (qual : Str) : Prop where
  lk : ∃ oc od osl, K.lookup f = some ⟨oc, od, .func fd, osl⟩
  cd : PySem.W.codeIn K (.ref cda) qual = true
  cell : ∃ cl cld csl, K.lookup cc = some ⟨cl, cld, .cell (some (.ref D)), csl⟩
  code : ∃ ccl cdd vsC ccs file tf, K.lookup cda = some ⟨ccl, cdd, .fields vsC, ccs⟩ ∧ vsC[2]? = some (.str file tf) ∧ ((P.main.file : Str) == file) = true
  cls : ∃ cdD, PySem.W.clsIn K D = some cdD
  sub : PySem.W.mroIn K D (.ref D) = some true
  zsuper : mg "super" = none
  ops : PySem.W.nsIn K cStatics "thirdparty.any" = some none
  along : PySem.W.ks_superIn K D D "__init__" = some (some (.builtin "ValueError.__init__"))
  subV : PySem.W.subIn K (.ref D) (.type "ValueError") = some true
  top : (P.main.scope.names.lookup ("super" : Str)).isSome = false
theorem fn_sup {fd : FuncData} (T : SupK P K mg f D cc cda fd qual) (O : OexC K D) (efd : fd = PySem.W.fnX name qual params (supBody p0 p1 p2 p3 p4 es rest) scope [("__class__", cc)] dV kV doc pm an (.ref cda) ct)
    (S : NScope N ps ["__class__"] scope) (har : (params.posonlyargs ++ params.args).head? = some ar) (hps : ps.head? = some ar.arg) (hks : scope.names.lookup ("super" : Str) = some .globalImplicit)
    (hsw : ∀ env : Env, swapsWith (.Call (.Attribute (.Call (.Name "super" p0) [] [] p1) "__init__" p2) es [] p3) none p4.line env = pure false)
    (hst : ∀ env : Env, (backTo p3 (starEach es env)).any (·.1) = false)
    (hee : ∀ env : Env, ∃ x r, backTo p3 (starEach es env) = (false, x) :: r)
    {pl : Sem Bool} (hev : ∀ env : Env, eval (.Call (.Attribute (.Call (.Name "super" p0) [] [] p1) "__init__" p2) es [] p3) env = (do
      let ov ← attributeBase (.Call (.Name "super" p0) [] [] p1) "__init__" env (eval (.Call (.Name "super" p0) [] [] p1) env)
      standAt p2.atName
      let (g, first) ← holding [ov] (getMethod ov "__init__" pl)
      callWith p3 g first (backTo p3 (starEach es env)) []))
    (len : ∀ vs H Q E, sp vs H Q E → vs.length = ps.length)
    (hbody : ∀ (A : Around) (outer : List Env) (s : Shared) (H : Hp) (vs : List V) (Q : VK) (E : XK), Room k (A.deeper (envF ⟨name, qual, params, supBody p0 p1 p2 p3 p4 es rest, scope, [("__class__", cc)], cda⟩ f s.heap.objs.size)) → sp vs H Q E →
      ∃ ta tr, PA (ncx CX P w K mg base N ⟨name, qual, params, supBody p0 p1 p2 p3 p4 es rest, scope, [("__class__", cc)], cda⟩ f A outer s H E) es ta ∧
        PSs (ncx CX P w K mg base N ⟨name, qual, params, supBody p0 p1 p2 p3 p4 es rest, scope, [("__class__", cc)], cda⟩ f A outer s H E) rest tr ∧
        ∃ (a : Addr) (vs' : List V), vs = .ref a :: vs' ∧ H a = some (exo a D none) ∧
          ta (startF N vs [some (.ref D)]) H fun ws H1 => ws.length ≤ 1000 ∧ H1 a = some (exo a D none) ∧ tr { nx := fun _ H' => Q .non H', rt := Q } (startF N vs [some (.ref D)]) H1) :
    FnOk P w K mg base CX (k + 1) f fd ps sp := by
  subst efd
  obtain ⟨oc, od, osl, lk⟩ := T.lk
  obtain ⟨cl, cld, csl, hcell⟩ := T.cell
  obtain ⟨ccl, cdd, vsC, ccs, file, tf, hcode, hvs, hfile⟩ := T.code
  obtain ⟨cdD, hD⟩ := T.cls
  refine ⟨len, fun A outer s H args us vs Q E hr e0 hb r hsp => ?_⟩
  have hl := len _ _ _ _ hsp
  have KX : K.In s.heap := e0.mod.kin.keeps fun b o q => (e0.bs b o q).1
  have lim : s.heap.NoLimit := e0.mod.nolimit.keeps fun b o e => (e0.bs b o e).1
  have C : CellsAt [("__class__", cc)] ["__class__"] [some (.ref D)] s.heap H := by
    have one : ∀ y c, [(("__class__" : Str), cc)].lookup y = some c → y = "__class__" ∧ c = cc := fun y c e => by
      by_cases h : y = ("__class__" : Str)
      · subst h
        have e2 : [(("__class__" : Str), cc)].lookup ("__class__" : Str) = some cc := by simp [List.lookup]
        rw [e2] at e
        exact ⟨rfl, (Option.some.inj e).symm⟩
      · have q : (y == ("__class__" : Str)) = false := by simpa using h
        simp [List.lookup, q] at e
    have hc : ∃ v, s.heap.IsCell cc v := ⟨_, _, KX _ _ hcell, rfl⟩
    have hcH : H cc = none := (e0.bs cc _ (e0.mod.kin _ _ hcell)).2
    refine ⟨rfl, fun y c e => ?_, fun x y c e1 e2 => ?_, fun i y e => ?_⟩
    · obtain ⟨_, rfl⟩ := one y c e
      exact ⟨hcH, hc⟩
    · rw [(one _ _ e1).1, (one _ _ e2).1]
    · cases i with
      | zero =>
        injection e with e
        subst e
        refine ⟨cc, by simp [List.lookup], fun v ev => ?_⟩
        injection ev with ev
        injection ev with ev
        subst ev
        exact ⟨_, rfl, _, KX _ _ hcell, rfl⟩
      | succ i => cases i <;> cases e
  refine PySem.ks_codeAny_call_defAt (body := supBody p0 p1 p2 p3 p4 es rest) hr.depth (KX _ _ lk) rfl lim (PySem.W.codeRec_of KX T.cd) rfl hb S.nocell (fun ⟨n, _⟩ hy => S.par n (List.of_mem_zip hy).1) (fun h₁ hns kp => ?_) S.co S.gen S.kind
  obtain ⟨ta, tr, hA, hR, a, vs', ev, ha0, hq⟩ := hbody A outer s H vs Q E (hr.deeper _) hsp
  generalize hF : (⟨name, qual, params, supBody p0 p1 p2 p3 p4 es rest, scope, [("__class__", cc)], cda⟩ : NF) = F at hA hR
  have I : Inv (ncx CX P w K mg base N F f A outer s H E) [] (startF N vs [some (.ref D)]) H { s with heap := h₁, toks := s.toks + (ps.zip us).length } := by
    subst hF
    exact inv_startN S hr.hd e0 hl r C hns kp
  have eenv : callEnv (PySem.W.fnX name qual params (supBody p0 p1 p2 p3 p4 es rest) scope [("__class__", cc)] dV kV doc pm an (.ref cda) ct) s.heap.objs.size f = envF F f s.heap.objs.size := by
    subst hF
    rfl
  rw [eenv]
  have fin : ∀ {σ' : L2.St} {H' : Hp} {v : V} {u : Value} {s' : Shared}, Inv (ncx CX P w K mg base N F f A outer s H E) [] σ' H' s' → L2.RelV v u → Q v H' → CE outer P w H s Q u s' :=
    fun {σ' H' v u s'} J rv q => ⟨v, H', J.os, J.bare, J.base, J.hok, rv, q⟩
  refine PySem.ks_wpAt_mono (Q := SP (ncx CX P w K mg base N F f A outer s H E) [] { nx := fun _ H' => Q .non H', rt := Q }) (E := (ncx CX P w K mg base N F f A outer s H E).xe) ?go (fun fl s' hs => ?en) (fun _ _ x => x)
  case en =>
    cases fl with
    | ret u =>
      obtain ⟨v, σ', H', J, rv, q⟩ := hs
      exact fin J rv q
    | next =>
      obtain ⟨σ', H', J, q⟩ := hs
      exact fin (v := V.non) (u := Value.none) J rfl q
    | brk =>
      obtain ⟨_, _, _, q⟩ := hs
      exact False.elim q
    | cont =>
      obtain ⟨_, _, _, q⟩ := hs
      exact False.elim q
  have ekind : ∀ x, (envF F f s.heap.objs.size).kindOf x = scope.names.lookup x := by
    subst hF
    intro x
    rfl
  refine PySem.ks_wpAt_execs_cons (PySem.ks_wpAt_Expr_any (PySem.ks_wpAt_MethodCall (pl := pl) ?_ (hev _)) I.quiet (hsw _))
  refine PySem.ks_wpAt_super_base (env := envF F f s.heap.objs.size) ((ekind _).trans hks) ((ekind _).trans (S.frk _ List.mem_cons_self)) rfl rfl (kp _ _ (KX _ _ lk)) rfl har (by subst hF; rfl) (kp _ _ (KX _ _ hcode)) rfl hvs hfile T.top ?_
  have escope : (envF F f s.heap.objs.size).scope = scope := by subst hF; rfl
  have ecells : (envF F f s.heap.objs.size).cells = [(("__class__" : Str), cc)] := by subst hF; rfl
  obtain ⟨mb, b1, b2⟩ := e0.mod.blt
  have kb : ∀ b o, base.get? b = some o → h₁.get? b = some o := fun b o q => kp b o (e0.bs b o q).1
  have X₁ : K.In h₁ := KX.keeps kp
  have hgl := e0.mod.glob.keeps kb
  have hbl := b1.keeps kb
  refine PySem.W.ks_loadName_global (by rw [escope]; exact S.kind) ((ekind _).trans hks) (Calls.loadGlobal_builtin hgl T.zsuper hbl ((b2 _ (by decide +kernel)).trans Boot.«super») ⟨rfl, ?_⟩)
  refine wpAny_loadName_free (by rw [escope]; exact S.kind) ((ekind _).trans (S.frk _ List.mem_cons_self)) (c := cc) (v := .ref D) (by rw [ecells]; simp [List.lookup]) ⟨_, X₁ _ _ hcell, rfl⟩ ?_
  have hself : (ps.zip us).reverse.lookup ar.arg = some (.ref a) := by
    subst ev
    cases ps with
    | nil => cases hps
    | cons p ps' =>
      injection hps with hps
      subst hps
      cases r with
      | @cons _ u0 _ ur ra rw' =>
        obtain rfl : u0 = Value.ref a := ra
        have nd : (ar.arg :: ps').Nodup := by
          have q := S.nd.sublist (List.take_sublist ((ar.arg :: ps').length + [("__class__" : Str)].length) N)
          rw [S.pre] at q
          exact (List.nodup_append.mp q).1
        exact zip_look (i := 0) nd rfl rfl
  have hpar : scope.names.lookup ar.arg = some .local := by
    refine S.par _ ?_
    cases ps with
    | nil => cases hps
    | cons p ps' =>
      injection hps with hps
      subst hps
      exact List.mem_cons_self
  refine wpAny_loadName_local (by rw [escope]; exact S.kind) ((ekind _).trans hpar) hns hself ?_
  obtain ⟨oD, hD1, hD2⟩ : ∃ oD, h₁.get? D = some oD ∧ oD.data = .cls cdD := by
    have z := hD
    unfold PySem.W.clsIn at z
    split at z
    · rename_i ho
      cases z
      exact ⟨_, X₁ _ _ ho, rfl⟩
    · cases z
  refine PySem.ks_wpAny_isType_cls hD1 hD2 ⟨rfl, ?_⟩
  obtain ⟨t1, hoa⟩ := exo_at I.hok ha0
  refine PySem.ks_wpAny_call_super hD1 hD2 hoa rfl (fun c e => by cases e) (PySem.W.looks_mroIn X₁ T.sub) (fun h₂ e2 k2 => ?_)
  have I2 := I.kept (t' := s.toks + (ps.zip us).length) k2
  have X₂ : K.In h₂ := X₁.keeps k2
  have IA : PySem.W.InstAt h₂ a { cls := .ref D, dict := none, data := .fields #[.ref t1, .none, .none, .none, .bool false, .none] } D none := ⟨k2 _ _ hoa, rfl, rfl, trivial⟩
  have hal := T.along
  unfold PySem.W.ks_superIn at hal
  rw [hD] at hal
  have hmro : PySem.W.Looks (model P w) h₂ (mroOf (.ref D)) cdD.mro := fun A Q E s k q => wpAny_bind ((PySem.W.looks_clsIn X₂ hD) A _ E s k (wpAny_pure q))
  refine PySem.W.kxs_getMethod PySem.W.kxs_ValueError e2 (PySem.W.looks_opaque X₂ T.ops) hmro rfl X₂ hal (IA.type.andThen (PySem.W.looks_subIn X₂ T.subV)) (PySem.W.ks_ne X₂ IA hD) rfl ?_
  have kmw : ∀ b o, h₂.get? b = some o → (h₂.push (PySem.W.kxs_mw "ValueError.__init__" a)).get? b = some o := fun b o q => Heap.get?_push_of_some _ q
  have I3 : Inv (ncx CX P w K mg base N F f A outer s H E) [(h₂.objs.size, PySem.W.kxs_mw "ValueError.__init__" a)] (startF N vs [some (.ref D)]) H { s with heap := h₂.push (PySem.W.kxs_mw "ValueError.__init__" a), toks := s.toks + (ps.zip us).length + 1 } := by
    refine (I2.kept (t' := s.toks + (ps.zip us).length + 1) kmw).pins_of fun p hp => ?_
    rw [List.mem_singleton.mp hp]
    exact ⟨Heap.get?_push_at rfl rfl, I2.hok.fresh (Nat.le_refl _), Nat.ne_of_gt I2.lt, I2.nofs (Nat.le_refl _), fun v e => by cases e⟩
  refine PySem.W.kxs_callWith (i := "ValueError.__init__") (x := a) (hst _) ?_
  obtain ⟨x0, r0, hx⟩ := hee (envF F f s.heap.objs.size)
  rw [hx]
  refine Calls.evalArgs_plain ?_
  rw [← hx]
  refine thn (hA.run p3 _ _ _ H _ I3 hq) (fun us1 s4 ⟨ws, H1, I4, r1, hz, ha1, hrest⟩ => ⟨(I4.pin (h₂.objs.size, PySem.W.kxs_mw "ValueError.__init__" a) (List.mem_append_right _ List.mem_cons_self)).1, ?_⟩)
  have hu := (I4.pin (h₂.objs.size, PySem.W.kxs_mw "ValueError.__init__" a) (List.mem_append_right _ List.mem_cons_self)).1
  have I5 : Inv (ncx CX P w K mg base N F f A outer s H E) [] (startF N vs [some (.ref D)]) H1 s4 := I4.pins_of fun p hp => by cases hp
  obtain ⟨nm, q, Nn, bs, bm, sn, sub, ab, col, dd, k0, k1, k2', k3, k5, hC, hbm⟩ := O.cls
  obtain ⟨t2, ho⟩ := exo_at I5.hok ha1
  have hus : us1.length ≤ sizeLine := by
    rw [← Paired.length r1]
    exact Nat.le_trans hz (by decide)
  have kin4 := I5.kIn
  obtain ⟨hp, g, d, tk, os⟩ := s4
  refine wpAny_call (codeAny_of_tree ?_)
  show wpAny _ (A.deeper (envF F f s.heap.objs.size)).in1 (callAny (.ref h₂.objs.size) ⟨us1, []⟩) _ _ _
  simp only [callAny]
  refine wpAny_bind (wpAny_load hu ?_)
  simp only [PySem.W.kxs_mw, show (Value.type "method-wrapper" == Value.type "method" || Value.type "method-wrapper" == Value.type "builtin_function_or_method" || Value.type "method-wrapper" == Value.type "method-wrapper") = true by decide, if_true]
  refine PySem.W.KFB.if_so (by decide) ?_
  refine wpAny_bind (PySem.W.check_bound_init PySem.F.excBase_ValueError.toExcCallFacts (kin4 _ _ hC) ho rfl ?_)
  refine wpAny_bind (wpAny_pure (wpAny_pure ?_))
  refine ⟨plainId_quiet PySem.F.excBase_ValueError.init.plain _, codeAny_builtin PySem.F.excBase_ValueError.initEntry ?_⟩
  refine PySem.W.exc_init_tree (cls := .ref D) (t0 := t2) (dv := none) (c2 := .none) (c3 := .none) (b4 := .bool false) ho hus fun h' kk e' _ => ?_
  have J := I5.write (t' := tk) (x := a) (e := a) (o := exo a D none) (by rw [ha1]; exact True.intro) (.inl rfl) kk ⟨_, e'⟩ (exo_ok e')
  have eu : upd H1 a (exo a D none) = H1 := by
    funext b
    by_cases hb : b = a
    · rw [hb, upd_same, ha1]
    · rw [upd_ne hb]
  rw [eu] at J
  exact wpAt_of_wpAny (hR.run [] _ _ H1 _ J hrest)
end
end VL

set_option Elab.async false
set_option linter.all false
set_option maxRecDepth 100000
set_option maxHeartbeats 4000000
namespace VL
open PySem PySem.Spec PyProof.Rows L2 NdefX

/-! ### isinstance of a caught error that has a dict -/
theorem call_isED {X : Cx} {a D : Addr} {oe : Obj} {cls : Value} {d : Option Addr} {pn : List (Addr × Obj)} (C : ExcC X.K D) (hz : Zc cls d oe) (hf : ∃ vs, oe.data = .fields vs) :
    CallR (X.suite a ((a, oe) :: pn)) (.builtin "isinstance") (fun xs H Q => cls = .ref D ∧ ∃ (dd : Addr) (fs : List (Str × V)) (c : V) (cv : Value) (b : Bool), d = some dd ∧ H dd = some (.xd fs) ∧ xs = [.ref a, c] ∧ (∀ u, RelV c u → u = cv) ∧ PySem.W.kitOne X.K (.ref D) cv = some b ∧ Q (.bl b) H) := by
  intro pins s σ H xs us Q I r h
  obtain ⟨ec, dd, fs, c, cv, b, ed, ea, ex, hcv, e, q⟩ := h
  subst ec ed ex
  cases r with
  | cons rx rr =>
    cases rr with
    | cons rt rr =>
      cases rr
      cases rx
      obtain rfl := hcv _ rt
      have hp := (I.pin (a, oe) (List.mem_append_left _ List.mem_cons_self)).1
      obtain ⟨vs, hv⟩ := hf
      have hx : ObjOk X.prog X.w H s.heap dd (.xd fs) := I.hok dd _ ea
      obtain ⟨mA, hns, _⟩ := hx
      obtain ⟨od, ho, _⟩ := lookIn_ns hns
      have J : PySem.W.InstAt s.heap a oe D (some od) := ⟨hp, hz.1, by unfold PySem.W.notCls; rw [hv] <;> rfl, by rw [hz.2]; exact ho⟩
      have hcl : (PySem.W.clsIn X.K D).isSome = true := by
        obtain ⟨cd, hc, _⟩ := PySem.W.any_some C.hd
        rw [hc]
        rfl
      exact PySem.W.kia_one (PySem.W.kitx_exc (ox := oe) (od := some od) hcl C.hg C.hk C.hs C.ha C.hn C.ht C.hm) I.kIn J e (fun z => nomatch z) fun tk => ⟨.bl b, H, I.kept (t' := tk) fun _ _ z => z, rfl, q⟩
end VL

set_option Elab.async false
set_option linter.all false
set_option maxRecDepth 100000
set_option maxHeartbeats 4000000
namespace VL
open PySem PySem.Spec PyProof.Rows L2 NdefX
/-! ### what a law's text says of an own exception class with its own __init__ -/
abbrev exFd (qual : Str) (st : Stmt) (cc cda : Addr) (kV doc pm : Value) (an : Option Addr) (ct : Value) : FuncData := PySem.W.fnX "__init__" qual (defArgs st) (defBody st) (defScope st) [("__class__", cc)] .none kV doc pm an (.ref cda) ct
structure ExI (P : Program) (K : PySem.W.Frag) (mg : Str → Option Value) (name qual : Str) (D : Addr) (st : Stmt) (ps attrs : List Str) : Prop where
  init : ∃ (fI cc cda : Addr) (kV doc pm ct : Value) (an : Option Addr), SupK P K mg fI D cc cda (exFd qual st cc cda kV doc pm an ct) qual ∧ PySem.W.findIn K (.ref D) "__init__" = some (some (.ref fI)) ∧ PySem.W.typeIn K (.ref fI) = some (.type "function") ∧
    Binds K (exFd qual st cc cda kV doc pm an ct) ps []
  o : OexC K D
  na : ∀ a ∈ attrs, PySem.W.findIn K (.ref D) a = some none
  g : mg name = some (.ref D)
  exm : PySem.W.exmOne K (.ref D) (.ref D) = some true
  xf : XfC K D
  ec : ExcC K D
end VL

set_option Elab.async false
set_option linter.all false
set_option maxRecDepth 100000
set_option maxHeartbeats 4000000
namespace VL
open PySem PySem.Spec PyProof.Rows L2

/-! ### defs and methods that may raise -/
structure CalX (P : Program) (w : World) (K : PySem.W.Frag) (mg : Str → Option Value) (base : Heap) (k : Nat) (x : Str) (sp : Sp) : Prop where
  ex : ∃ (f : Addr) (fd : FuncData) (ps : List Str), FnOk P w K mg base (L2.CX P w) k f fd ps sp ∧ mg x = some (.ref f) ∧ PySem.W.keepIn K (.ref f) = true ∧ Binds K fd ps []
structure MetX (P : Program) (w : World) (K : PySem.W.Frag) (mg : Str → Option Value) (base : Heap) (k : Nat) (C : Addr) (m : Str) (sp : Sp) : Prop where
  ex : ∃ (f : Addr) (fd : FuncData) (ps : List Str), Cls K C ∧ Meth K C m f ∧ FnOk P w K mg base (L2.CX P w) k f fd ps sp ∧ Binds K fd ps []
structure MakX (P : Program) (w : World) (K : PySem.W.Frag) (mg : Str → Option Value) (base : Heap) (k : Nat) (x : Str) (C : Addr) (sp : Sp) : Prop where
  ex : ∃ (f : Addr) (fd : FuncData) (ps : List Str), Mk K C f ∧ FnOk P w K mg base (L2.CX P w) k f fd ps sp ∧ mg x = some (.ref C) ∧ Binds K fd ps []
section
variable {X : Cx} {k j : Nat} {C : Addr} {x m : Str} {sp : Sp} {E : XK} {p pos apos : Pos} {e o : Expr} {es : List Expr} {ta : TE} {t : TA}
theorem pe_cX (hx : Passes (L2.CX X.prog X.w) X E) (c : CalX X.prog X.w X.K X.mg X.base k x sp) (hr : Room j X.A) (hk : k ≤ j) (hg : Gl X x) (ha : PA X (e :: es) t)
    (hdb : (x == ("__debug__" : Str)) = false := by decide) (he : starEach (e :: es) X.env = (false, eval e X.env) :: starEach es X.env := by rfl) (hpl : (backTo pos (starEach es X.env)).any (·.1) = false := by rfl) :
    PE X (.Call (.Name x p) (e :: es) [] pos) (tCall sp [] E t) := by
  obtain ⟨f, fd, ps, F, hm, kp, b⟩ := c.ex
  exact pe_call F (hr.mono hk) hg hm kp b .nil hx ha hdb he hpl
theorem pe_mkX (hx : Passes (L2.CX X.prog X.w) X E) (c : MakX X.prog X.w X.K X.mg X.base k x C sp) (hr : Room j X.A) (hk : k + 1 ≤ j) (hg : Gl X x) (ha : PA X (e :: es) t)
    (hdb : (x == ("__debug__" : Str)) = false := by decide) (he : starEach (e :: es) X.env = (false, eval e X.env) :: starEach es X.env := by rfl) (hpl : (backTo pos (starEach es X.env)).any (·.1) = false := by rfl) :
    PE X (.Call (.Name x p) (e :: es) [] pos) (tMake C sp [] E t) := by
  obtain ⟨f, fd, ps, M, F, hm, b⟩ := c.ex
  exact pe_make M F (hr.mono hk) hg hm b .nil hx ha hdb he hpl
theorem pe_mtX {pl : Sem Bool} (hx : Passes (L2.CX X.prog X.w) X E) (c : MetX X.prog X.w X.K X.mg X.base k C m sp) (hr : Room j X.A) (hk : k ≤ j) (he : PE X o ta) (ha : PA X (e :: es) t)
    (hst : starEach (e :: es) X.env = (false, eval e X.env) :: starEach es X.env := by rfl) (hpl : (backTo pos (starEach es X.env)).any (·.1) = false := by rfl)
    (ht : eval (.Call (.Attribute o m apos) (e :: es) [] pos) X.env = (do
      let ov ← eval o X.env
      standAt apos.atName
      let (f, first) ← holding [ov] (getMethod ov m pl)
      callWith pos f first (backTo pos (starEach (e :: es) X.env)) (backToKw pos (keywordEach [] X.env))) := by rfl) :
    PE X (.Call (.Attribute o m apos) (e :: es) [] pos) (tMeth C m sp [] E ta t) := by
  obtain ⟨f, fd, ps, hc, hm, F, b⟩ := c.ex
  exact pe_meth (pl := pl) he hc hm F (hr.mono hk) b .nil hx ha hst hpl ht
theorem pe_mtX0 {pl : Sem Bool} (hx : Passes (L2.CX X.prog X.w) X E) (c : MetX X.prog X.w X.K X.mg X.base k C m sp) (hr : Room j X.A) (hk : k ≤ j) (he : PE X o ta)
    (ht : eval (.Call (.Attribute o m apos) [] [] pos) X.env = (do
      let ov ← eval o X.env
      standAt apos.atName
      let (f, first) ← holding [ov] (getMethod ov m pl)
      callWith pos f first (backTo pos (starEach [] X.env)) (backToKw pos (keywordEach [] X.env))) := by rfl) :
    PE X (.Call (.Attribute o m apos) [] [] pos) (tMeth C m sp [] E ta tNil) := by
  obtain ⟨f, fd, ps, hc, hm, F, b⟩ := c.ex
  exact pe_meth0 (pl := pl) he hc hm F (hr.mono hk) b .nil hx ht
end
section
variable {P : Program} {w : World} {K : PySem.W.Frag} {mg : Str → Option Value} {base : Heap}
theorem okX_of {x qual : Str} {st : Stmt} {ps N : List Str} {f : Addr} {fd : FuncData} {k : Nat} {sp : Sp} (F : Fun K x qual st f fd) (S : FnScope N ps (defScope st)) (len : ∀ vs H Q E, sp vs H Q E → vs.length = ps.length)
    (hbody : ∀ (f : Addr) (cdv : Value) (A : Around) (outer : List Env) (s : Shared) (H : Hp) (vs : List V) (Q : VK) (E : XK), Room k (A.deeper (envOfC qual (defScope st) s.heap.objs.size f cdv)) → sp vs H Q E →
      ∃ t, PSs (cxOf (L2.CX P w) P w K mg base N qual (defScope st) f cdv A outer s H E) (defBody st) t ∧ t { nx := fun _ H' => Q .non H', rt := Q } (start N vs) H) : FnOk P w K mg base (L2.CX P w) (k + 1) f fd ps sp :=
  F.okX S len (hbody f)
theorem calX_of {x : Str} {st : Stmt} {ps N : List Str} {k : Nat} {sp : Sp} (D : DefE K mg x st ps) (S : FnScope N ps (defScope st)) (len : ∀ vs H Q E, sp vs H Q E → vs.length = ps.length)
    (hbody : ∀ (f : Addr) (cdv : Value) (A : Around) (outer : List Env) (s : Shared) (H : Hp) (vs : List V) (Q : VK) (E : XK), Room k (A.deeper (envOfC x (defScope st) s.heap.objs.size f cdv)) → sp vs H Q E →
      ∃ t, PSs (cxOf (L2.CX P w) P w K mg base N x (defScope st) f cdv A outer s H E) (defBody st) t ∧ t { nx := fun _ H' => Q .non H', rt := Q } (start N vs) H) : CalX P w K mg base (k + 1) x sp := by
  obtain ⟨f, fd, F, hm, b⟩ := D
  exact ⟨f, fd, ps, okX_of F S len hbody, hm, F.kp, b⟩
theorem metX_of {C : Addr} {x qual : Str} {st : Stmt} {ps N : List Str} {k : Nat} {sp : Sp} (D : MethE K C x qual st ps) (c : Cls K C) (S : FnScope N ps (defScope st)) (len : ∀ vs H Q E, sp vs H Q E → vs.length = ps.length)
    (hbody : ∀ (f : Addr) (cdv : Value) (A : Around) (outer : List Env) (s : Shared) (H : Hp) (vs : List V) (Q : VK) (E : XK), Room k (A.deeper (envOfC qual (defScope st) s.heap.objs.size f cdv)) → sp vs H Q E →
      ∃ t, PSs (cxOf (L2.CX P w) P w K mg base N qual (defScope st) f cdv A outer s H E) (defBody st) t ∧ t { nx := fun _ H' => Q .non H', rt := Q } (start N vs) H) : MetX P w K mg base (k + 1) C x sp := by
  obtain ⟨f, fd, F, hm, b⟩ := D
  exact ⟨f, fd, ps, c, hm, okX_of F S len hbody, b⟩
theorem makX_of {C : Addr} {cn qual : Str} {st : Stmt} {ps N : List Str} {k : Nat} {sp : Sp} (D : InitE K mg cn C qual st ps) (S : FnScope N ps (defScope st)) (len : ∀ vs H Q E, sp vs H Q E → vs.length = ps.length)
    (hbody : ∀ (f : Addr) (cdv : Value) (A : Around) (outer : List Env) (s : Shared) (H : Hp) (vs : List V) (Q : VK) (E : XK), Room k (A.deeper (envOfC qual (defScope st) s.heap.objs.size f cdv)) → sp vs H Q E →
      ∃ t, PSs (cxOf (L2.CX P w) P w K mg base N qual (defScope st) f cdv A outer s H E) (defBody st) t ∧ t { nx := fun _ H' => Q .non H', rt := Q } (start N vs) H) : MakX P w K mg base (k + 1) cn C sp := by
  obtain ⟨f, fd, F, M, hm, b⟩ := D
  exact ⟨f, fd, ps, M, okX_of F S len hbody, hm, b⟩
end
/-- what leaves a def that may raise -/
abbrev thruX {P : Program} {w : World} {K : PySem.W.Frag} {mg : Str → Option Value} {base : Heap} {N : List Str} {qual : Str} {scope : Scope} {f : Addr} {cdv : Value} {A : Around} {outer : List Env} {s : Shared} {H : Hp} {E : XK} :
    Passes (L2.CX P w) (cxOf (L2.CX P w) P w K mg base N qual scope f cdv A outer s H E) E := passes_call (W := fun cls d _ H => E cls d H) (takes_of rfl rfl rfl rfl) fun _ _ _ _ h => h
abbrev takeX {P : Program} {w : World} {K : PySem.W.Frag} {mg : Str → Option Value} {base : Heap} {N : List Str} {qual : Str} {scope : Scope} {f : Addr} {cdv : Value} {A : Around} {outer : List Env} {s : Shared} {H : Hp} {E : XK} :
    Takes (cxOf (L2.CX P w) P w K mg base N qual scope f cdv A outer s H E) (fun cls d _ H => E cls d H) := takes_of rfl rfl rfl rfl
end VL

set_option Elab.async false
set_option linter.all false
set_option maxRecDepth 100000
set_option maxHeartbeats 4000000
namespace VL
open PySem PySem.Spec PyProof.Rows L2
/-! ### isinstance of a caught own error without a dict, whatever was caught; a call in a try's body -/
theorem call_isEN {X : Cx} {a D : Addr} {oe : Obj} {cls : Value} {d : Option Addr} {pn : List (Addr × Obj)} (C : ExcC X.K D) (hz : Zc cls d oe) (hf : ∃ vs, oe.data = .fields vs) :
    CallR (X.suite a ((a, oe) :: pn)) (.builtin "isinstance") (fun xs H Q => cls = .ref D ∧ d = none ∧ ∃ (c : V) (cv : Value) (b : Bool), xs = [.ref a, c] ∧ (∀ u, RelV c u → u = cv) ∧ PySem.W.kitOne X.K (.ref D) cv = some b ∧ Q (.bl b) H) := by
  intro pins s σ H xs us Q I r h
  obtain ⟨ec, ed, h⟩ := h
  subst ec ed
  exact call_isE C hz hf pins s σ H xs us Q I r h
section
variable {X : Cx} {k j : Nat} {x : Str} {sp : Sp} {E : L2.St → XK} {p pos : Pos} {e : Expr} {es : List Expr} {t : TA}
theorem pe_cXS (c : CalX X.prog X.w X.K X.mg X.base k x sp) (hr : Room j X.A) (hk : k ≤ j) (hg : Gl X x) (hx : ∀ σ, PassesAt (L2.CX X.prog X.w) X σ (E σ)) (ha : PA X (e :: es) t)
    (hdb : (x == ("__debug__" : Str)) = false := by decide) (he : starEach (e :: es) X.env = (false, eval e X.env) :: starEach es X.env := by rfl) (hpl : (backTo pos (starEach es X.env)).any (·.1) = false := by rfl) :
    PE X (.Call (.Name x p) (e :: es) [] pos) (tCallS sp E t) := by
  obtain ⟨f, fd, ps, F, hm, kp, b⟩ := c.ex
  exact pe_callS F (hr.mono hk) hg hm kp b hx ha hdb he hpl
end
end VL

set_option Elab.async false
set_option linter.all false
set_option maxRecDepth 100000
set_option maxHeartbeats 4000000
namespace VL
open PySem PySem.Spec PyProof.Rows L2 L2H

/-- an unreachable rest -/
theorem pss_dead {X : Cx} {sts : List Stmt} : PSs X sts (fun _ _ _ => False) := ⟨fun _ _ _ _ _ _ z => z.elim⟩

/-! ### a def that raises nothing, called while an error is handled, whatever its context -/
abbrev cxQ (P : Program) (w : World) (K : PySem.W.Frag) (mg : Str → Option Value) (base : Heap) (N : List Str) (qual : Str) (sc : Scope) (f : Addr) (cd : Value) (A : Around) (outer : List Env) (s : Shared) (H : Hp) (p : Addr × Obj) : Cx := cxH CX0 P w K mg base N qual sc f cd A outer s H E0 p
structure CalQ (P : Program) (w : World) (K : PySem.W.Frag) (mg : Str → Option Value) (base : Heap) (k : Nat) (x : Str) (sp : Sp) : Prop where
  ex : ∃ (f : Addr) (fd : FuncData) (ps : List Str), (∀ vs H Q E, sp vs H Q E → vs.length = ps.length) ∧ mg x = some (.ref f) ∧ PySem.W.keepIn K (.ref f) = true ∧ Binds K fd ps [] ∧
    ∀ (A : Around) (outer : List Env) (s : Shared) (H : Hp) (args : Args) (us : List Value) (vs : List V) (Q : VK) (p : Addr × Obj), RoomH k A → PinOk outer H s p → Env0 P w K mg base A outer s H → BindsTo s fd args (ps.zip us) → Vals vs us → sp vs H Q E0 →
      codeAny (model P w) A (.call (.ref f) args) (CR CX0 outer P w H s Q E0) s
section
variable {P : Program} {w : World} {K : PySem.W.Frag} {mg : Str → Option Value} {base : Heap}
theorem calQ_of {x : Str} {st : Stmt} {ps N : List Str} {k : Nat} {sp : Sp} (D : DefE K mg x st ps) (S : FnScope N ps (defScope st)) (len : ∀ vs H Q E, sp vs H Q E → vs.length = ps.length)
    (hbody : ∀ (f : Addr) (cdv : Value) (A : Around) (outer : List Env) (s : Shared) (H : Hp) (vs : List V) (Q : VK) (p : Addr × Obj), RoomH k (A.deeper (envOfC x (defScope st) s.heap.objs.size f cdv)) → sp vs H Q E0 →
      ∃ t, PSs (cxQ P w K mg base N x (defScope st) f cdv A outer s H p) (defBody st) t ∧ t { nx := fun _ H' => Q .non H', rt := Q } (L2.start N vs) H) : CalQ P w K mg base (k + 1) x sp := by
  obtain ⟨f, fd, F, hm, hbs⟩ := D
  have F0 := F
  obtain ⟨oc, od, kV, doc, pm, an, cdv, ct, osl, efd, lk, hcd⟩ := F.ex
  subst efd
  refine ⟨f, _, ps, len, hm, F0.kp, hbs, fun A outer s H args us vs Q p hr hpin e0 hb rv hsp => ?_⟩
  have hlen := len _ _ _ _ hsp
  have hK : K.In s.heap := e0.mod.kin.keeps fun b o z => (e0.bs b o z).1
  have hNo : s.heap.NoLimit := e0.mod.nolimit.keeps fun b o z => (e0.bs b o z).1
  refine codeAny_call_function hr.depth (hK _ _ lk) rfl S.co S.gen rfl (PySem.W.codeRec_of hK hcd) (hb _ _ _ _ ?_)
  refine wpAny_newFunctionEnv_cells S.kind (fun ⟨n, u⟩ hy => ?_) fun env he s1 z => ?_
  · exact (S.par n (List.of_mem_zip hy).1).imp id fun q => ⟨q, PySem.W.cellsFrom_some _ _ _ (.inl q)⟩
  subst he
  refine ⟨hNo.keeps z.toInCall.keep, codeAny_func ?_⟩
  obtain ⟨t, ht, hq⟩ := hbody f cdv A outer s H vs Q p (hr.deeper _) hsp
  have J : Inv (cxQ P w K mg base N x (defScope st) f cdv A outer s H p) [] (L2.start N vs) H s1 := inv_startH S hpin e0 hlen rv z
  have out : ∀ {σ' : L2.St} {H' : Hp} {v : V} {u : Value} {s' : Shared}, Inv (cxQ P w K mg base N x (defScope st) f cdv A outer s H p) [] σ' H' s' → L2.RelV v u → Q v H' → CE outer P w H s Q u s' :=
    fun {σ' H' v u s'} J' r' q => ⟨v, H', J'.os, J'.bare, J'.base, J'.hok, r', q⟩
  refine wpAny_mono (ht.run [] s1 _ H _ J hq) (fun fl s' hs => ?_) fun e s' hs => hs
  cases fl with
  | ret u =>
    obtain ⟨v, σ', H', J', r', q⟩ := hs
    exact out J' r' q
  | next =>
    obtain ⟨σ', H', J', q⟩ := hs
    exact out (v := V.non) (u := Value.none) J' rfl q
  | brk => exact hs.elim fun _ hs => hs.elim fun _ hs => hs.2.elim
  | cont => exact hs.elim fun _ hs => hs.elim fun _ hs => hs.2.elim
end
section
variable {X : Cx} {k j : Nat} {x : Str} {sp : Sp} {p pos : Pos} {e : Expr} {es : List Expr} {t : TA}
theorem pe_cQ {q : Addr × Obj} (hq : q ∈ X.pn) (c : CalQ X.prog X.w X.K X.mg X.base k x sp) (hr : RoomH j X.A) (hk : k ≤ j) (hg : Gl X x) (ha : PA X (e :: es) t)
    (hdb : (x == ("__debug__" : Str)) = false := by decide) (he : starEach (e :: es) X.env = (false, eval e X.env) :: starEach es X.env := by rfl) (hpl : (backTo pos (starEach es X.env)).any (·.1) = false := by rfl) :
    PE X (.Call (.Name x p) (e :: es) [] pos) (fun σ H Q => t σ H fun vs H1 => sp vs H1 Q E0) := by
  obtain ⟨f, fd, ps, len, hm, kp, hbs, run⟩ := c.ex
  refine ⟨fun pins s σ H Q I h => ?_⟩
  refine wpAny_Call_Name_kw (ld_glob I hg hm ?_ hdb)
  refine PySem.W.callWith_K (h₀ := X.base) I.ok.mod.kin kp (thn (ha.run pos pins s σ H _ I h) fun us s1 hh => ?_) he hpl
  obtain ⟨vs, H1, I1, rv, hsp⟩ := hh
  refine ⟨I1.kIn, ?_⟩
  have hlen : us.length = ps.length := by rw [← rv.length]; exact len _ _ _ _ hsp
  have bb := hbs s1 us I1.kIn (by rw [List.append_nil]; exact hlen)
  rw [List.append_nil] at bb
  have P1 := I1.pin q (List.mem_append_left _ hq)
  have hpin : PinOk X.stack H1 s1 q := ⟨P1.1, P1.2.1, fun hm => (List.mem_cons.mp (I1.stkSub q.1 hm)).elim P1.2.2.1 P1.2.2.2.1, P1.2.2.2.2⟩
  refine wpAny_call (codeAny_mono (run X.A X.stack s1 H1 ⟨us, []⟩ us vs Q q (hr.mono hk) hpin I1.env0 bb rv hsp) fun r s' hz => ?_)
  cases r with
  | error e => exact (pass0 (X := X) pins σ H1 s1 e s' I1 hz)
  | ok fl =>
    cases fl with
    | ret u => exact I1.after hz
    | next => exact hz.elim
    | brk => exact hz.elim
    | cont => exact hz.elim
end
/-! ### a call of a local name that holds a def that may raise -/
theorem pe_callLS {X : Cx} {CX : CXT} {k i : Nat} {f : Addr} {fd : FuncData} {ps : List Str} {sp : Sp} {E : L2.St → XK} {x : Str} {p pos : Pos} {e : Expr} {es : List Expr} {t : TA}
    (F : FnOk X.prog X.w X.K X.mg X.base CX k f fd ps sp) (hr : Room k X.A) (hN : X.N[i]? = some x) (hv : Vis X.env.scope x) (hk : PySem.W.keepIn X.K (.ref f) = true) (hb : Binds X.K fd ps []) (hx : ∀ σ, PassesAt CX X σ (E σ)) (ha : PA X (e :: es) t)
    (hdb : (x == ("__debug__" : Str)) = false := by decide) (hcd : (x == ("__classdict__" : Str)) = false := by decide)
    (he : starEach (e :: es) X.env = (false, eval e X.env) :: starEach es X.env := by rfl) (hpl : (backTo pos (starEach es X.env)).any (·.1) = false := by rfl) :
    PE X (.Call (.Name x p) (e :: es) [] pos) (fun σ H Q => σ[i]? = some (some (.ref f)) ∧ t σ H fun vs H1 => sp vs H1 Q (E σ)) := by
  refine ⟨fun pins s σ H Q I h => ?_⟩
  obtain ⟨hs, ht⟩ := h
  have hv := (pe_var (pos := p) hN hv hdb hcd).run pins s σ H (fun v H1 => v = .ref f ∧ H1 = H) I ⟨.ref f, hs, rfl, rfl⟩
  refine wpAny_Call_Name_kw (thn hv fun u s1 hh => ?_)
  obtain ⟨v, H1, I1, r1, ev, eH⟩ := hh
  subst ev eH
  cases r1
  refine PySem.W.callWith_K (h₀ := X.base) I.ok.mod.kin hk (thn (ha.run pos pins s1 σ _ _ I1 ht) fun us s2 hh => ?_) he hpl
  obtain ⟨vs, H2, I2, r, q⟩ := hh
  exact ⟨I2.kIn, run_fnS F hr hb (hx σ) I2 r q⟩
end VL

set_option Elab.async false
set_option linter.all false
set_option maxRecDepth 100000
set_option maxHeartbeats 4000000
namespace VL
open PySem PySem.Spec PyProof.Rows L2

section
variable {X : Cx} {CX : CXT} {k : Nat} {f : Addr} {fd : FuncData} {ps : List Str} {sp : Sp} {E : XK} {A1 : Around}
/-- a callee runs somewhere below the body -/
theorem run_at {pins : List (Addr × Obj)} {σ : L2.St} {H : Hp} {s : Shared} {Q : VK} {us : List Value} {vs : List V} (F : FnOk X.prog X.w X.K X.mg X.base CX k f fd ps sp) (sb : Sub X k A1) (hb : Binds X.K fd ps []) (hx : Passes CX X E)
    (I : Inv X pins σ H s) (r : Vals vs us) (h : sp vs H Q E) : wpAny (model X.prog X.w) A1 (call (.ref f) us) (EP X pins σ Q) X.xe s := by
  have e0 : Env0 X.prog X.w X.K X.mg X.base A1 X.stack s H := by
    have e := I.env0
    exact ⟨by rw [sb.fr]; exact e.frames, e.mod, e.bs, e.bsz, e.funs, e.frf, e.hok, e.bare⟩
  have hl := F.len _ _ _ _ h
  have hl2 : (us ++ ([] : List Value)).length = ps.length := by rw [List.append_nil, ← r.length]; exact hl
  refine wpAny_call (codeAny_mono (F.run A1 X.stack s H ⟨us, []⟩ us vs Q E sb.room e0 (by
    have q := hb s us I.kIn hl2
    rw [List.append_nil] at q
    exact q) r h) fun r s' hq => ?_)
  cases r with
  | error e => exact hx pins σ H s e s' I hq
  | ok fl =>
    cases fl with
    | ret w => exact I.after hq
    | next => exact False.elim hq
    | brk => exact False.elim hq
    | cont => exact False.elim hq

/-- x in o, o an instance with a __contains__ of the text -/
def rInOwn (C : Addr) (sp : Sp) (E : XK) : R2 := fun x y H Q => ∃ a dx fs, y = .ref a ∧ H a = some (.ins C dx fs) ∧ sp [.ref a, x] H (fun v H' => ∃ c, v = .bl c ∧ Q (.bl c) H') E
theorem op_in_own {C : Addr} (hs : PySem.W.findIn X.K (.ref C) "__contains__" = some (some (.ref f))) (hf : PySem.W.isFn X.K (.ref f) = true) (F : FnOk X.prog X.w X.K X.mg X.base CX k f fd ps sp) (hr : Room k X.A) (hb : Binds X.K fd ps []) (hx : Passes CX X E) :
    OpR X (compareOp .In) (rInOwn C sp E) := by
  intro pins s σ H x y v u Q I rx ry h
  obtain ⟨a, dx, fs, rfl, ha, q⟩ := h
  cases ry
  obtain ⟨mA, J, _⟩ := ins_get I.hok ha
  obtain ⟨od, J, _⟩ := J.look
  obtain ⟨m, hF⟩ := I.fr
  refine PySem.W.in_K hF I.ok.mod.kin J hs hf ?_
  refine wpAny_mono (run_at F ⟨hr, rfl⟩ hb hx I (.cons (show RelV (.ref a) (.ref a) from rfl) (.cons rx .nil)) q) (fun r s' hq => ?_) fun _ _ z => z
  obtain ⟨w', H', I', rw', c, rfl, q'⟩ := hq
  cases rw'
  exact wpAny_truthy_bool ⟨.bl c, H', I', rfl, q'⟩

def rNotInOwn (C : Addr) (sp : Sp) (E : XK) : R2 := fun x y H Q => ∃ a dx fs, y = .ref a ∧ H a = some (.ins C dx fs) ∧ sp [.ref a, x] H (fun v H' => ∃ c, v = .bl c ∧ Q (.bl (!c)) H') E
theorem op_notIn_own {C : Addr} (hs : PySem.W.findIn X.K (.ref C) "__contains__" = some (some (.ref f))) (hf : PySem.W.isFn X.K (.ref f) = true) (F : FnOk X.prog X.w X.K X.mg X.base CX k f fd ps sp) (hr : Room k X.A) (hb : Binds X.K fd ps []) (hx : Passes CX X E) :
    OpR X (compareOp .NotIn) (rNotInOwn C sp E) := by
  intro pins s σ H x y v u Q I rx ry h
  obtain ⟨a, dx, fs, rfl, ha, q⟩ := h
  cases ry
  obtain ⟨mA, J, _⟩ := ins_get I.hok ha
  obtain ⟨od, J, _⟩ := J.look
  obtain ⟨m, hF⟩ := I.fr
  refine PySem.W.notIn_K hF I.ok.mod.kin J hs hf ?_
  refine wpAny_mono (run_at F ⟨hr, rfl⟩ hb hx I (.cons (show RelV (.ref a) (.ref a) from rfl) (.cons rx .nil)) q) (fun r s' hq => ?_) fun _ _ z => z
  obtain ⟨w', H', I', rw', c, rfl, q'⟩ := hq
  cases rw'
  exact wpAny_truthy_bool ⟨.bl (!c), H', I', rfl, q'⟩

/-- len(o), o an instance with a __len__ of the text -/
def rLenOwn (C : Addr) (sp : Sp) (E : XK) : List V → Hp → VK → Prop := fun xs H Q => ∃ a dx fs, xs = [.ref a] ∧ H a = some (.ins C dx fs) ∧ sp [.ref a] H (fun v H' => ∃ n : Int, v = .int n ∧ 0 ≤ n ∧ n < 2 ^ 63 ∧ Q (.int n) H') E
theorem call_len_own {C : Addr} (hs : PySem.W.findIn X.K (.ref C) "__len__" = some (some (.ref f))) (hf : PySem.W.isFn X.K (.ref f) = true) (F : FnOk X.prog X.w X.K X.mg X.base CX k f fd ps sp) (hr : Room (k + 1) X.A) (hb : Binds X.K fd ps []) (hx : Passes CX X E) :
    CallR X (.builtin "len") (rLenOwn C sp E) := by
  intro pins s σ H xs us Q I rv h
  obtain ⟨a, dx, fs, rfl, ha, q⟩ := h
  obtain ⟨u, rfl, ru⟩ := rv.one
  cases ru
  obtain ⟨mA, J, _⟩ := ins_get I.hok ha
  obtain ⟨od, J, _⟩ := J.look
  have sb : Sub X k X.A.in1 := Sub.in1 (⟨hr, rfl⟩ : Sub X (k + 1) X.A)
  refine Calls.call_function_entry kind_len plain_len entry_len (args_len1 _) ?_
  unfold Builtin.«len»
  refine wpAny_bind (m := oneArg "len" _) (wpAny_pure ?_)
  refine wpAny_bind (m := callSpecial? (.ref a) (Str.ofString "__len__")) (PySem.W.special_fn I.kIn J hs (beq_iff_eq.mp hf) (wpAny_mono (run_at F sb hb hx I (.cons (show RelV (.ref a) (.ref a) from rfl) .nil) q) (fun r s' hr' => ?_) fun _ _ y => y))
  obtain ⟨v, H', I', r, n, rfl, h0, h1, hq⟩ := hr'
  obtain ⟨t, rfl⟩ := r
  refine wpAny_bind (wpAny_holding (wpAny_pure ?_))
  refine wpAny_bind (wpAny_letGo ?_)
  show wpAny _ _ (if n < 0 then _ else _) _ _ _
  rw [if_neg (by omega)]
  show wpAny _ _ (if n ≥ 2 ^ 63 then _ else _) _ _ _
  rw [if_neg (by omega)]
  exact wpAny_bind (wpAny_mkInt (wpAny_pure ⟨_, rfl, ⟨.int n, H', I'.tok _, ⟨_, rfl⟩, hq⟩⟩))
end
end VL

set_option Elab.async false
set_option linter.all false
set_option maxRecDepth 100000
set_option maxHeartbeats 4000000
namespace VL
open PySem PySem.Spec PyProof.Rows L2
section
variable {X : Cx} {k j : Nat} {C : Addr} {sp : Sp}
/-- len(o), o of an own class -/
theorem call_lenM (c : Met X.prog X.w X.K X.mg X.base k C "__len__" sp) (hr : Room j X.A) (hk : k + 1 ≤ j) : CallR X (.builtin "len") (rLenOwn C sp E0) := by
  obtain ⟨f, fd, ps, hc, hm, F, b⟩ := c.ex
  exact call_len_own hm.1 hm.2 F (hr.mono hk) b pass0
end
end VL

set_option Elab.async false
set_option linter.all false
set_option maxRecDepth 100000
set_option maxHeartbeats 4000000
/-! x != y of data that are the same, up to depth 180 -/
namespace VL
open PySem PySem.Spec PyProof.Rows L2
def rNeW (K : PySem.W.Frag) : R2 := fun x y H Q => ∃ d, Dp K H x d ∧ Dp K H y d ∧ d.plain = true ∧ PyData.depth d ≤ 180 ∧ Q (.bl false) H
theorem op_neW {X : Cx} {K : PySem.W.Frag} (hK : X.K = K) (hu : X.A.units + 190 < cLine) : OpR X (compareOp .NotEq) (rNeW K) := by
  subst hK
  intro pins s σ H x y v u Q I rx ry h
  obtain ⟨d, hd, he, sd, dp, q⟩ := h
  obtain ⟨as, r1⟩ := Dp.reads I d x v hd rx
  obtain ⟨bs, r2⟩ := Dp.reads I d y u he ry
  refine SeqAt.ne_plain r1 r2 sd sd (by have := Nat.min_le_left d.depth d.depth; omega) ⟨.bl _, H, I, rfl, ?_⟩
  rw [SeqAt.eqv_refl_plain d sd]
  exact q
theorem u190 {k : Nat} {A : Around} (r : Room k A) : A.units + 190 < cLine := by
  have := r.un
  omega
end VL

set_option Elab.async false
set_option linter.all false
set_option maxRecDepth 100000
set_option maxHeartbeats 4000000
namespace VL
open PySem PySem.Spec PyProof.Rows L2

/-! ### for i, x in enumerate(t), t a tuple -/
theorem meets_enum1 {v : Value} {o : Obj} {H : Heap → Prop} (B : Begins v o H) :
    Meets (Builtin.«enumerate.__new__» ⟨[.type "enumerate", v], []⟩) (fun _ R s => H s.heap ∧
      R (.ok (.ret (.ref (s.heap.push o).objs.size))) { s with heap := (s.heap.push o).push { cls := .type "enumerate", data := .fields #[.none, .bool false, .ref s.heap.objs.size, rawInt 0, .none, .none] } }) :=
  .of_wp fun prog w A R s h => by
    obtain ⟨hp, g, d, tk, os⟩ := s; obtain ⟨h1, h⟩ := h
    have hsub := sub_enumerate
    have q1 : ∀ {A' : Around} {E : Value → Shared → Prop} {Q : Value → Shared → Prop}, Q (.ref hp.objs.size) ⟨hp.push o, g, d, tk, os⟩ → wpAny (model prog w) A' (pyIter v) Q E ⟨hp, g, d, tk, os⟩ :=
      fun q => B.iter prog w _ _ ⟨hp, g, d, tk, os⟩ _ h1 q
    wp_walk using q1
    refine wpAny_stack_any fun st => wpAny_pure ?_
    split
    · rename_i c _ _ _ _ _
      cases (c == Value.type "enumerate")
      · wp_walk using q1
        exact ⟨_, rfl, h⟩
      · wp_walk using q1
        exact ⟨_, rfl, h⟩
    · wp_walk using q1
      exact ⟨_, rfl, h⟩
section
variable {prog : Program} {w : World} {A : Around} {E : Value → Shared → Prop} {s : Shared}
theorem enum_begins1 {v : Value} {o : Obj} {H : Heap → Prop} {Q : Value → Shared → Prop} (B : Begins v o H) (h1 : H s.heap)
    (h : ∀ h', IsEnum h' (s.heap.objs.size + 1) s.heap.objs.size 0 .none → h'.get? s.heap.objs.size = some o → h'.objs.size = s.heap.objs.size + 2 →
      (∀ b o, s.heap.get? b = some o → h'.get? b = some o) → Q (.ref (s.heap.objs.size + 1)) { s with heap := h' }) :
    wpAny (model prog w) A (call (.type "enumerate") [v]) Q E s := by
  refine callType_new F.called_enumerate (by decide) (F.typeCall_enumerate_1 _) (F.newCall_enumerate_1 _) (fun obj => F.args_object_init_2 obj _) F.entry_enumerate_new
    (meets_enum1 B) ⟨h1, ?_⟩
  have hz : (s.heap.push o).objs.size = s.heap.objs.size + 1 := Heap.size_push ..
  show _ ∧ _
  rw [hz]
  have he : IsEnum ((s.heap.push o).push { cls := .type "enumerate", data := .fields #[.none, .bool false, .ref s.heap.objs.size, rawInt 0, .none, .none] }) (s.heap.objs.size + 1) s.heap.objs.size 0 .none := by
    have := Heap.get?_push_size (s.heap.push o) (o := { cls := .type "enumerate", data := .fields #[.none, .bool false, .ref s.heap.objs.size, rawInt 0, .none, .none] }) rfl
    rw [hz] at this; exact this
  refine ⟨⟨_, he, rfl⟩, h _ he (Heap.get?_push_of_some _ (Heap.get?_push_size _ B.free)) (by rw [Heap.size_push, hz]) fun b o x => Heap.get?_push_of_some _ (Heap.get?_push_of_some _ x)⟩
theorem pyNext_enumT_end {e it t : Addr} {i : Nat} {c : Int} {items : Array Value} {old : Value} {Q : Option Value → Shared → Prop} (hh : A.handled = none)
    (he : IsEnum s.heap e it c old) (hit : s.heap.IsTupleIter it t i) (hl : s.heap.IsTuple t items) (hx : items[i]? = none)
    (hQ : ∀ h', Heap.ExtBut it s.heap h' → Q none { s with heap := h' }) : wpAny (model prog w) A (pyNext (.ref e)) Q E s := by
  have hT : s.TypeIs (.ref e) "enumerate" := ⟨_, he, rfl⟩
  unfold pyNext
  refine wpAny_bind (wpAny_attempt (wpAny_callSpecial?_slot (name := Str.ofString "__next__") hT F.slot_enumerate_next
    (wpAny_call_entry F.slot_enumerate_next hT F.entry_enumerate_next ?_ (F.args_enumerate_next_1 _))))
  show wpAny _ _ (field (.ref e) 2 >>= _) _ _ _
  refine wpAny_bind (wpAny_field he rfl (x := .ref it) rfl ?_)
  refine wpAny_bind (wpAny_nextOf_tuple_end hh hit hl hx fun h' x he' hx' => ?_)
  obtain ⟨o, ho, hc⟩ := hx'
  refine wpAny_bind (wpAny_isInstance (T := "StopIteration") (b := true) ⟨o, ho, hc⟩ isSubtype_stop ?_)
  exact wpAny_pure (hQ _ he')
end
/-- the tuple at a, each item in a new pair -/
def Iet (K : PySem.W.Frag) (a : Addr) : It :=
  ⟨fun i H => ∃ (xs : List V) (x : V), SqT K H a xs ∧ xs[i]? = some x, fun i H v H' => ∃ T x, v = .ref T ∧ H T = none ∧ H' = upd H T (.tup [.int (i : Nat), x]) ∧ ∀ xs, SqT K H a xs → xs[i]? = some x, fun i H => ∃ xs : List V, SqT K H a xs ∧ xs.length ≤ i⟩
theorem turn_enumT {P : Program} {w : World} {K : PySem.W.Frag} {elts : List Expr} {kk : Nat} {tpos : Pos} (a e it : Addr) :
    Turn P w K (.Tuple elts kk tpos) (Iet K a) [e, it] e (fun i h => (∃ old, IsEnum h e it ((i : Nat) : Int) old) ∧ h.IsTupleIter it a i ∧ e ≠ it ∧ e ≠ a ∧ a ≠ it) where
  mem := by simp
  obj := fun i h st b hb => by
    obtain ⟨⟨old, he⟩, ⟨o, ho, hc, hd⟩, _⟩ := st
    have e' : b = e ∨ b = it := by simpa using hb
    rcases e' with z | z
    · rw [z]; exact ⟨_, he, fun v q => nomatch q⟩
    · rw [z]; exact ⟨o, ho, fun v q => by rw [hd] at q; cases q⟩
  keep := fun i h h' st k => let ⟨⟨old, he⟩, hi, hne⟩ := st; ⟨⟨old, k e (by simp) _ he⟩, hi.at fun o q => k it (by simp) o q, hne⟩
  item := by
    intro X hP hw hK hc i pins s σ H E I hf st hg
    subst hP hw hK
    obtain ⟨⟨old, he⟩, hit, hne, hea, hai⟩ := st
    obtain ⟨xs, x, hq, hx⟩ := hg
    obtain ⟨its, rv, p, hz⟩ := I.tuple hq
    obtain ⟨u, hu, ru⟩ := rv.get hx
    have hel : e < s.heap.objs.size := Heap.lt_size he
    have hil : it < s.heap.objs.size := by obtain ⟨_, q, _⟩ := hit; exact Heap.lt_size q
    have p' : s.heap.IsTuple a its.toArray := p
    have hlt : i < its.toArray.size := by
      rcases Nat.lt_or_ge i its.toArray.size with h | h
      · exact h
      · have hn : its[i]? = none := by simpa using h
        rw [hn] at hu
        cases hu
    refine wpAny_pyNext_enum_itemC (Draws.tuple (prog := X.prog) (w := X.w) (A := X.A.in1) (I.ok.hd hc) it a hai its.toArray) he ⟨hit, p'⟩ hlt hne (by simp [hne, hea]) fun y h' tk hy ho hst hT hsz hk => ?_
    have ey : y = u := by
      have h1 : its.toArray[i]? = some u := by simpa using hu
      rw [h1] at hy
      exact (Option.some.inj hy).symm
    subst ey
    obtain ⟨hit', _⟩ := hst
    refine ⟨_, rfl, wpAny_letOwnedTupleGo_enum (s := { s with heap := h', toks := tk + 1 }) ho fun h'' he' sb => ?_⟩
    have hT2 : h''.get? s.heap.objs.size = some { cls := .type "tuple", data := .seq #[.int i tk, y] } := (sb.2 _ (Nat.ne_of_gt hel)).trans hT
    have new : ObjOk X.prog X.w (upd H s.heap.objs.size (.tup [.int (i : Nat), x])) h'' s.heap.objs.size (.tup [.int (i : Nat), x]) :=
      ⟨by show 2 ≤ sizeLine; decide, [.int i tk, y], .cons ⟨_, rfl⟩ (.cons ru .nil), ⟨_, hT2, rfl, _, rfl⟩⟩
    have I1 : Inv X pins σ (upd H s.heap.objs.size (.tup [.int (i : Nat), x])) { s with heap := h'', toks := tk + 1 } :=
      I.turnedNew (ch := [e, it]) (fun b ob hb q => (sb.2 b (fun z => hb (by simp [z]))).trans (hk b ob (fun z => hb (by simp [z])) (fun z => hb (by simp [z])) q)) hf (Nat.le_refl _) new
    refine ⟨.ref s.heap.objs.size, _, I1, rfl, ⟨_, x, rfl, I.hok.fresh (Nat.le_refl _), rfl, fun ys hy => by rw [I.tuple_inj hy hq]; exact hx⟩, ⟨⟨y, ?_⟩, hit'.at fun o q => (sb.2 it (Ne.symm hne)).trans q, hne, hea, hai⟩, fun b hb => ?_⟩
    · have e1 : ((i + 1 : Nat) : Int) = (i : Int) + 1 := by omega
      rw [e1]; exact he'
    · have hb' : b < s.heap.objs.size := by
        have e' : b = e ∨ b = it := by simpa using hb
        rcases e' with z | z
        · rw [z]; exact hel
        · rw [z]; exact hil
      rw [upd_ne (Nat.ne_of_lt hb')]
      exact (hf b hb).1
  done := by
    intro X hP hw hK hc i pins s σ H E I hf st hg
    subst hP hw hK
    obtain ⟨⟨old, he⟩, hit, hne, _⟩ := st
    obtain ⟨xs, hq, hx⟩ := hg
    obtain ⟨its, rv, p, hz⟩ := I.tuple hq
    obtain ⟨f0, f1, f2, f3, f4, f5⟩ := hf it (by simp)
    have hl := rv.length
    exact pyNext_enumT_end (I.ok.hd hc) he hit (show s.heap.IsTuple a its.toArray from p) (by simp; omega) fun h' eb => ⟨rfl, I.turned (t' := s.toks) (fun b o hb q => eb b o hb q) f0 f1 f3 f4 f5⟩
  self := fun A i s Q E st h => let ⟨⟨_, he⟩, _⟩ := st; wpAny_pyIter_enum he h
def iEnumT (K : PySem.W.Frag) (ta : TA) : TI := fun σ H R => ta σ H fun vs H1 => ∃ a xs, vs = [.ref a] ∧ SqT K H1 a xs ∧ R (Iet K a) H1
theorem pi_enumT {X : Cx} {e : Expr} {ta : TA} {p pos tpos : Pos} {elts : List Expr} {kk : Nat} (hg : Gl X "enumerate") (hm : X.mg "enumerate" = none) (ha : PA X [e] ta) (hs : starEach [e] X.env = [(false, eval e X.env)] := by rfl) :
    PI X (.Tuple elts kk tpos) (.Call (.Name "enumerate" p) [e] [] pos) (iEnumT X.K ta) := by
  refine ⟨fun pins s σ H R I h => ?_⟩
  refine Call_ (ld_blt I hg hm boot_enumerate (PyProof.Rows.callWith_type1 (thn (ha.run pos pins s σ H _ I h) fun us s1 ⟨vs, H1, I1, r1, q1⟩ => ?_) hs rfl))
  obtain ⟨a, xs, ex, hq, q⟩ := q1
  subst ex
  cases r1 with
  | cons r rr =>
    cases rr
    cases r
    obtain ⟨its, rv, p', hz⟩ := I1.tuple hq
    have hT : s1.heap.IsTuple a its.toArray := p'
    have hal : a < s1.heap.objs.size := by obtain ⟨_, q, _⟩ := hT; exact Heap.lt_size q
    refine enum_begins1 (begins_tuple a its.toArray) hT fun h' he ho hsz hk => wpAny_pyIter_enum he ?_
    have I2 : Inv X pins σ H1 { s1 with heap := h' } := I1.kept (t' := s1.toks) hk
    have hit : h'.IsTupleIter s1.heap.objs.size a 0 := ⟨_, ho, rfl, rfl⟩
    refine ⟨s1.heap.objs.size + 1, [s1.heap.objs.size + 1, s1.heap.objs.size], _, _, H1, rfl, I2, turn_enumT a (s1.heap.objs.size + 1) s1.heap.objs.size, ⟨⟨.none, he⟩, hit, Nat.succ_ne_self _, Nat.ne_of_gt (Nat.lt_succ_of_lt hal), Nat.ne_of_lt hal⟩, fun b hb => ?_, q⟩
    have e' : b = s1.heap.objs.size + 1 ∨ b = s1.heap.objs.size := by simpa using hb
    have hle : s1.heap.objs.size ≤ b := by
      rcases e' with z | z
      · rw [z]; exact Nat.le_add_right _ _
      · rw [z]; exact Nat.le_refl _
    exact I1.fpOk hle (I1.hok.fresh hle)
theorem walk_enumT {K : PySem.W.Frag} {a : Addr} {xs : List V} : Walk (Iet K a) xs.length (fun H => SqT K H a xs) (YPair (fun i => some (.int (i : Nat))) (fun i => xs[i]?)) := by
  refine ⟨fun i _ hi q => ⟨xs, xs[i], q, by simp [hi]⟩, fun _ q => ⟨xs, q, Nat.le_refl _⟩, fun i H v H' _ q y => ?_⟩
  obtain ⟨T, x, h1, h2, h3, h4⟩ := y
  exact ⟨T, .int (i : Nat), x, h1, h2, h3, rfl, h4 xs q⟩
end VL

set_option Elab.async false
set_option linter.all false
set_option maxRecDepth 100000
set_option maxHeartbeats 4000000
/-! sorted of tuples (text, text); sorted(d.items()) of a dict of texts -/
namespace S2S
open PySem PyProof.Rows Srt SrtO
abbrev Pss := Str × Str
def ltL (x y : Str) : Bool := decide (x.cps.toList < y.cps.toList)
theorem ltL_asym {x y : Str} (h : ltL x y = true) : ltL y x = false := decide_eq_false fun z => List.lt_asymm (of_decide_eq_true h) z
theorem ltL_irr {x : Str} : ltL x x = false := decide_eq_false fun z => List.lt_irrefl _ z
theorem ltL_le {x y : Str} (h : ltL y x = false) : x.cps.toList ≤ y.cps.toList := List.not_lt.mp (of_decide_eq_false h)
theorem ltL_tr {x y z : Str} (h1 : ltL y x = false) (h2 : ltL z y = false) : ltL z x = false := decide_eq_false fun h => absurd h (List.not_lt.mpr (List.le_trans (ltL_le h1) (ltL_le h2)))
theorem ltL_anti {x y : Str} (h1 : ltL x y = false) (h2 : ltL y x = false) : x = y := by
  have e : x.cps.toList = y.cps.toList := List.le_antisymm (ltL_le h2) (ltL_le h1)
  obtain ⟨a⟩ := x
  obtain ⟨b⟩ := y
  obtain ⟨a⟩ := a
  obtain ⟨b⟩ := b
  have e : a = b := e
  rw [e]
def ltSS (p q : Pss) : Bool := if p.1 = q.1 then ltL p.2 q.2 else ltL p.1 q.1
theorem ltSS_anti {p q : Pss} (h1 : ltSS p q = false) (h2 : ltSS q p = false) : p = q := by
  unfold ltSS at h1 h2
  by_cases e : p.1 = q.1
  · rw [if_pos e] at h1
    rw [if_pos e.symm] at h2
    exact Prod.ext e (ltL_anti h1 h2)
  · rw [if_neg e] at h1
    rw [if_neg (fun z => e z.symm)] at h2
    exact absurd (ltL_anti h1 h2) e
theorem swo_SS {α : Type} (k : α → Pss) : Swo fun v u => ltSS (k v) (k u) := by
  refine ⟨fun x y h => ?_, fun x y z h1 h2 => ?_⟩
  · unfold ltSS at h ⊢
    by_cases e : (k x).1 = (k y).1
    · rw [if_pos e] at h
      rw [if_pos e.symm]
      exact ltL_asym h
    · rw [if_neg e] at h
      rw [if_neg (fun z => e z.symm)]
      exact ltL_asym h
  · unfold ltSS at h1 h2 ⊢
    by_cases e1 : (k y).1 = (k x).1
    · rw [if_pos e1] at h1
      by_cases e2 : (k z).1 = (k y).1
      · rw [if_pos e2] at h2
        rw [if_pos (e2.trans e1)]
        exact ltL_tr h1 h2
      · rw [if_neg e2] at h2
        rw [if_neg (fun q => e2 (q.trans e1.symm)), ← e1]
        exact h2
    · rw [if_neg e1] at h1
      by_cases e2 : (k z).1 = (k y).1
      · rw [if_neg (fun q => e1 (e2.symm.trans q)), e2]
        exact h1
      · rw [if_neg e2] at h2
        by_cases e3 : (k z).1 = (k x).1
        · rw [e3] at h2
          exact absurd (ltL_anti h1 h2) e1
        · rw [if_neg e3]
          exact ltL_tr h1 h2
/-- there is one sorted list of the same things -/
theorem one {α : Type} {lt : α → α → Bool} (anti : ∀ x y, lt x y = false → lt y x = false → x = y) : ∀ {l m : List α}, Srtd lt l → Srtd lt m → l.Perm m → l = m
  | [], m, _, _, h => h.nil_eq
  | x :: l, [], _, _, h => absurd h.length_eq (by simp)
  | x :: l, y :: m, hl, hm, h => by
    have hl' := List.pairwise_cons.mp hl
    have hm' := List.pairwise_cons.mp hm
    have e : x = y := by
      rcases List.mem_cons.mp (h.mem_iff.mp (List.mem_cons_self (a := x) (l := l))) with e | hx
      · exact e
      · rcases List.mem_cons.mp (h.mem_iff.mpr (List.mem_cons_self (a := y) (l := m))) with e | hy
        · exact e.symm
        · exact anti _ _ (hm'.1 _ hx) (hl'.1 _ hy)
    subst e
    rw [one anti hl'.2 hm'.2 h.cons_inv]
def IsPS (h : Heap) (v : Value) (k : Pss) : Prop := ∃ a o t u n, v = .ref a ∧ h.get? a = some o ∧ o.cls = .type "tuple" ∧ o.data = .seq #[.str k.1 t, .str k.2 u] n
theorem IsPS.keeps {h h' : Heap} {v : Value} {k : Pss} (p : IsPS h v k) (kp : ∀ b o, h.get? b = some o → o.cls = .type "tuple" → h'.get? b = some o) : IsPS h' v k := by
  obtain ⟨a, o, t, u, n, e, ho, hc, hd⟩ := p
  exact ⟨a, o, t, u, n, e, kp _ _ ho hc, hc, hd⟩
section
variable {prog : Program} {w : World} {A : Around} {E : Value → Shared → Prop} {s : Shared}
theorem ps_cmp {vs : List Value} {k : Value → Pss} (hp : ∀ v ∈ vs, IsPS s.heap v (k v)) : Cmp prog w A s (tuples' true) (fun p => p.1 ∈ vs) (lt2 fun v u => ltSS (k v) (k u)) := by
  intro p q hm hm'
  have h1 := hp _ hm
  have h2 := hp _ hm'
  show wpAny (model prog w) A (keyLt' (tuples' true) p.1 q.1) (fun r s' => s' = s ∧ r = ltSS (k p.1) (k q.1)) (fun _ _ => False) s
  unfold ltSS
  generalize k p.1 = K1 at h1 ⊢
  generalize k q.1 = K2 at h2 ⊢
  obtain ⟨x, y⟩ := K1
  obtain ⟨x', y'⟩ := K2
  obtain ⟨a, o, t, u, n, e, ho, hc, hd⟩ := h1
  obtain ⟨a', o', t', u', n', e', ho', hc', hd'⟩ := h2
  rw [e, e']
  refine PySem.W.kat_lt ho hd ho' hd' ?_
  show PySem.W.KatLex prog w A true (decide (2 < 2)) _ [(.str x t, .str x' t'), (.str y u, .str y' u')] 0 s
  dsimp only
  refine PySem.W.kat_cons (SeqAt.EqAt.str_str x t x' t' prog w _ _ ?_)
  refine PySem.W.kat_go (fun e1 => ?_) (fun e1 => ?_)
  · have ex : x = x' := by simpa using e1
    rw [if_pos ex]
    refine PySem.W.kat_yes (PySem.W.kat_cons (SeqAt.EqAt.str_str y u y' u' prog w _ _ ?_))
    refine PySem.W.kat_go (fun e2 => ?_) (fun e2 => ?_)
    · have ey : y = y' := by simpa using e2
      refine PySem.W.kat_yes (PySem.W.kat_nil ?_)
      exact ⟨rfl, by rw [ey]; exact ltL_irr.symm⟩
    · refine PySem.W.kat_no (PySem.W.kat_one _ _ (PyProof.Rows.lt_str ?_))
      exact (show s = s ∧ decide (y.cps.toList < y'.cps.toList) = ltL y y' from ⟨rfl, rfl⟩)
  · have ex : ¬ x = x' := by simpa using e1
    rw [if_neg ex]
    exact PySem.W.kat_no (PyProof.Rows.oneLt_any_str ⟨rfl, rfl⟩)
theorem firstsS {h : Heap} : ∀ {vs : List Value}, (∀ v ∈ vs, ∃ k, IsPS h v k) → ∃ fs : List Value, PySem.W.KatTups h vs fs ∧ fs.length = vs.length ∧ ∀ f ∈ fs, ∃ x t, f = Value.str x t
  | [], _ => ⟨[], PySem.W.KatTups.nil, rfl, fun _ hm => by simp at hm⟩
  | v :: vs, hp => by
    obtain ⟨fs, h1, h2, h3⟩ := firstsS (vs := vs) fun v' hm => hp v' (List.mem_cons_of_mem _ hm)
    obtain ⟨k, a, o, t, u, n, e, ho, hc, hd⟩ := hp v (List.mem_cons_self ..)
    subst e
    refine ⟨.str k.1 t :: fs, PySem.W.KatTups.cons ho hc hd rfl h1, by rw [List.length_cons, List.length_cons, h2], fun f hm => ?_⟩
    rcases List.mem_cons.mp hm with rfl | hm
    · exact ⟨k.1, t, rfl⟩
    · exact h3 f hm
theorem ps_sortable {a : Addr} {vs : List Value} {k : Value → Pss} (h0 : 0 < vs.length) (hp : ∀ v ∈ vs, IsPS s.heap v (k v)) (ha : ∀ o, s.heap.get? a = some o → o.cls ≠ .type "tuple") : SortableO prog w A s a vs fun v u => ltSS (k v) (k u) := by
  intro h' keep
  have hp' : ∀ v ∈ vs, IsPS h' v (k v) := fun v hm => (hp v hm).keeps fun b o e c => keep b o (fun z => by subst z; exact ha o e c) e
  obtain ⟨fs, h1, h2, h3⟩ := firstsS fun v hm => ⟨_, hp' v hm⟩
  refine ⟨tuples' true, fun Q E hq => ?_, ps_cmp hp'⟩
  refine PySem.W.kat_kind (T := .type "str") h1 (by omega) (fun f hm => ?_) (by rfl) ?_
  · obtain ⟨x, t, rfl⟩ := h3 f hm
    exact PySem.W.Looks.now
  · have e : (Value.type "str" != Value.type "tuple") = true := by first | decide +kernel | rfl | decide
    rw [e]
    exact hq
theorem not_tup {a : Addr} {vs : Array Value} {h : Heap} {n : Nat} (ha : h.get? a = some (seqObj "list" vs n)) : ∀ o, h.get? a = some o → o.cls ≠ .type "tuple" := fun o e => by
  have e' : some o = some (seqObj "list" vs n) := e.symm.trans ha
  cases e'
  intro c
  exact absurd (Value.type.inj c) (by decide)
theorem sorted_ps {l : Addr} {vs : List Value} {k : Value → Pss} {Q : Value → Shared → Prop} (hl : s.heap.IsList l vs.toArray) (hz : vs.length ≤ sizeLine) (hp : ∀ v ∈ vs, IsPS s.heap v (k v))
    (h : ∀ (h' : Heap) (d : Addr) (out : List Value), Srtd (fun v u => ltSS (k v) (k u)) out → Stb (fun v u => ltSS (k v) (k u)) out vs → (∀ b o, s.heap.get? b = some o → h'.get? b = some o) → s.heap.objs.size ≤ d → (∃ n, h'.get? d = some (seqObj "list" out.toArray n)) → Q (.ref d) { s with heap := h' }) :
    wpAny (model prog w) A (call (.builtin "sorted") [.ref l]) Q E s := by
  refine sorted_ord (swo_SS k) hl hz (fun h2 h₁ a ha kk => ?_) fun out hs hb => ?_
  · exact ps_sortable (s := { s with heap := h₁ }) (by omega) (fun v hm => (hp v hm).keeps fun b o e _ => (kk b o e).2) (not_tup ha)
  · exact h _ _ out hs hb (fun b o e => sortedAll_old e) (Nat.le_succ _) (sortedAll_at s.heap vs out.toArray)
end
end S2S
namespace VL
open PySem PySem.Spec PyProof.Rows L2 S2S
abbrev ltVS (k : V → Pss) (x y : V) : Bool := ltSS (k x) (k y)
/-- sorted(xs), xs a list of tuples (text, text) -/
def rSortedSS (K : PySem.W.Frag) : List V → Hp → VK → Prop := fun vs H Q => ∃ (a : Addr) (xs : List V) (k : V → Pss), vs = [V.ref a] ∧ SqL K H a xs ∧ (∀ x ∈ xs, ∃ t, x = V.ref t ∧ H t = some (.tup [.str (k x).1, .str (k x).2])) ∧
  ∀ ys p, SrtO.Srtd (ltVS k) ys → ys.Perm xs → H p = none → Q (.ref p) (upd H p (.lst ys))
section
variable {X : Cx}
theorem ps_of {P : Program} {w : World} {H : Hp} {h : Heap} (ok : HOk P w H h) {t : Addr} {k : Pss} (ht : H t = some (.tup [.str k.1, .str k.2])) : IsPS h (.ref t) k := by
  obtain ⟨_, its2, r2, o, ho, hc, n, hd⟩ := ok _ _ ht
  obtain ⟨u1, u2, rfl, ri, rj⟩ := vals2 r2
  obtain ⟨t1, rfl⟩ := ri
  obtain ⟨t2, rfl⟩ := rj
  exact ⟨t, o, t1, t2, n, rfl, ho, hc, hd⟩
theorem cr_sortedSS : CallR X (.builtin "sorted") (rSortedSS X.K) := by
  intro pins s σ H vs us Q I r h
  obtain ⟨a, xs, k, rfl, hs, hx, q⟩ := h
  obtain ⟨its, rv, hl, hz⟩ := I.list hs
  obtain ⟨u, rfl, ru⟩ := vals1 r
  obtain rfl : u = Value.ref a := ru
  obtain ⟨e1, e2⟩ := refs_back rv fun x m => by
    obtain ⟨t, e, _⟩ := hx x m
    exact ⟨t, e⟩
  refine sorted_ps (k := fun u => k (backV u)) hl.isList (by rw [← rv.length]; exact hz) (fun v hv => ?_) fun h' d out h1 h2 kp hd hn => ?_
  · obtain ⟨t, rfl⟩ := e2 v hv
    have hm : V.ref t ∈ xs := by rw [e1]; exact List.mem_map.mpr ⟨_, hv, rfl⟩
    obtain ⟨t', e, ht⟩ := hx _ hm
    cases e
    exact ps_of I.hok ht
  · have h3 : ∀ u ∈ out, ∃ a, u = Value.ref a := fun u hu => e2 u (h2.perm.mem_iff.mp hu)
    obtain ⟨n, hn⟩ := hn
    have hb : (out.map backV).Perm xs := by
      rw [e1]
      exact h2.perm.map backV
    refine ⟨.ref d, upd H d (.lst (out.map backV)), I.laid (t' := s.toks) kp hd ⟨?_, out, n, vals_back h3, hn⟩, rfl, q _ d (SrtO.srtd_map h1) hb (I.hok.fresh hd)⟩
    rw [hb.length_eq]
    exact hz
def entS (e : Pss) : L2.Key × V := (Sum.inr e.1, V.str e.2)
def rItemsK : V → List V → Hp → VK → Prop := fun x xs H Q => ∃ (a : Addr) (kvs : List (L2.Key × V)), x = .ref a ∧ xs = [] ∧ H a = some (.dK kvs) ∧ ∀ p, H p = none → Q (.ref p) (upd H p (DX.itemsO p a))
theorem mt_itemsK : MtR X "dict.items" rItemsK := by
  intro pins s σ H x xs v us Q I rx rxs h
  obtain ⟨a, kvs, rfl, rfl, ha, q⟩ := h
  cases rx
  cases rxs
  obtain ⟨z, hd, xs', rel, o, es, ep, ho, hx, hdat, _⟩ := dk_of I.hok ha
  refine DT.callItems (es := es) (ep := ep) hd ⟨o, ho, hx, hdat⟩ ?_
  have hf : H s.heap.objs.size = none := I.hok.fresh (Nat.le_refl _)
  exact ⟨.ref s.heap.objs.size, upd H s.heap.objs.size (DX.itemsO s.heap.objs.size a), I.laid (t' := s.toks) (fun b u e => Heap.get?_push_of_some _ e) (Nat.le_refl _) (DX.itemsO_ok (Heap.get?_push_size _ rfl)), rfl, q _ hf⟩
theorem pairs_at {K : Type} [DecidableEq K] {prog : Program} {w : World} {knd : KeyKind prog w K} : ∀ {es : List DictEntry} {kvs : List (K × Value)}, Pairs knd es kvs → ∀ {j : Nat} {e : DictEntry}, es[j]? = some e → ∃ kv, kvs[j]? = some kv ∧ knd.is kv.1 e.key = true ∧ e.val = kv.2
  | _, _, .nil, j, e, h => by cases h
  | _, _, .cons h1 h2 t, 0, e, h => by
    have e' := Option.some.inj h
    subst e'
    exact ⟨_, rfl, h1, h2⟩
  | _, _, .cons _ _ t, j + 1, e, h => pairs_at t h
/-- sorted(d.items()), d a dict of texts -/
def rSortIS : List V → Hp → VK → Prop := fun vs H Q => ∃ (p a : Addr) (as : List Pss), vs = [.ref p] ∧ H p = some (DX.itemsO p a) ∧ H a = some (.dK (as.map entS)) ∧
  ∀ (H' : Hp) (l : Addr) (ps : List (Addr × Pss)), (∀ b o, H b = some o → H' b = some o) → H l = none → (∀ z ∈ ps, H z.1 = none) → (ps.map (·.2)).Perm as → SrtO.Srtd ltSS (ps.map (·.2)) → H' l = some (.lst (ps.map fun z => V.ref z.1)) →
    (∀ z ∈ ps, H' z.1 = some (.tup [.str z.2.1, .str z.2.2])) → Q (.ref l) H'
def keyPS (h : Heap) : Value → Pss
  | .ref a => (match h.get? a with
    | some o => (match o.data with
      | .seq xs _ => (match xs.toList with
        | [.str x _, .str y _] => (x, y)
        | _ => (⟨#[]⟩, ⟨#[]⟩))
      | _ => (⟨#[]⟩, ⟨#[]⟩))
    | none => (⟨#[]⟩, ⟨#[]⟩))
  | _ => (⟨#[]⟩, ⟨#[]⟩)
theorem keyPS_of {h : Heap} {v : Value} {k : Pss} (x : IsPS h v k) : keyPS h v = k := by
  obtain ⟨a, o, t, u, n, rfl, ho, hc, hd⟩ := x
  simp only [keyPS, ho, hd]
def adOf : Value → Addr
  | .ref a => a
  | _ => 0
theorem cr_sortedIS (hc : X.calm = true) : CallR X (.builtin "sorted") rSortIS := by
  intro pins s σ H vs us Q I r h
  obtain ⟨p, a, as0, rfl, hp, ha, q⟩ := h
  obtain ⟨u, rfl, ru⟩ := vals1 r
  obtain rfl : u = Value.ref p := ru
  have view : s.heap.IsItemsView p a := (show ObjOk X.prog X.w H s.heap p (DX.itemsO p a) from I.hok p _ hp).1
  obtain ⟨z, hd, xs', rel, o, es, ep, ho, hx, hdat, hks, hps, hn⟩ := dk_of I.hok ha
  have l1 : (as0.map entS).length = xs'.length := Paired.length rel
  rw [List.length_map] at l1 z
  have l2 : es.size = xs'.length := by rw [← Array.length_toList]; exact hps.length
  have hh : X.A.handled = none := I.ok.hd hc
  refine DT.sortedI (es := es) (ep := ep) hh view ⟨o, ho, hx, hdat⟩ (by omega) fun h' tk as hk hlt hl hG => ?_
  have lak : as.length = as0.length := by omega
  have nd : as.Nodup := List.Pairwise.imp (fun h => Nat.ne_of_lt h) hG.rise
  have pr : ∀ (j : Nat) (b : Addr), as[j]? = some b → ∃ e : Pss, as0[j]? = some e ∧ ∃ t u, h'.get? b = some { cls := .type "tuple", data := .seq #[Value.str e.1 t, Value.str e.2 u] } := by
    intro j b hj
    obtain ⟨en, he, hg⟩ := hG.pairs j b hj
    have he' : es.toList[j]? = some en := by rw [Array.getElem?_toList]; exact he
    obtain ⟨kv, hkv, hk1, hk2⟩ := pairs_at hps he'
    obtain ⟨y, hy, f1, f2⟩ := DX.pget rel hkv
    rw [List.getElem?_map] at hy
    cases he0 : as0[j]? with
    | none =>
      rw [he0] at hy
      cases hy
    | some e =>
      rw [he0] at hy
      have ey : entS e = y := Option.some.inj hy
      subst ey
      obtain ⟨u, hu⟩ : ∃ u, kv.2 = Value.str e.2 u := f2
      have hk1' : keyIs (Sum.inr e.1) en.key = true := by
        have f1' : Sum.inr e.1 = kv.1 := f1
        rw [f1']
        exact hk1
      obtain ⟨t, ht⟩ : ∃ t, en.key = Value.str e.1 t := relV_key hk1'
      refine ⟨e, rfl, t, u, ?_⟩
      rw [hg, hk2, hu, ht]
  have hob : (h'.push { cls := .type "list", data := .seq (as.map Value.ref).toArray }).get? h'.objs.size = some (seqObj "list" (as.map Value.ref).toArray 0) := Heap.get?_push_size _ rfl
  have kb : ∀ b o, s.heap.get? b = some o → (h'.push { cls := .type "list", data := .seq (as.map Value.ref).toArray }).get? b = some o := fun b o e => Heap.get?_push_of_some _ (hk b o e)
  have ne0 : ∀ b o, h'.get? b = some o → b ≠ h'.objs.size := fun b o e => Nat.ne_of_lt (Heap.lt_size e)
  generalize hh2 : h'.push { cls := .type "list", data := .seq (as.map Value.ref).toArray } = h2 at hob kb ⊢
  have ka : ∀ b o, h'.get? b = some o → h2.get? b = some o := fun b o e => by rw [← hh2]; exact Heap.get?_push_of_some _ e
  have isp : ∀ (j : Nat) (b : Addr) (e : Pss), as[j]? = some b → as0[j]? = some e → IsPS h2 (.ref b) e := fun j b e hj he => by
    obtain ⟨e', he', t, u, hg⟩ := pr j b hj
    rw [he] at he'
    cases he'
    exact ⟨b, _, t, u, _, rfl, ka _ _ hg, rfl, rfl⟩
  have all : ∀ v ∈ as.map Value.ref, IsPS h2 v (keyPS h2 v) := fun v hv => by
    obtain ⟨b, hb, rfl⟩ := List.mem_map.mp hv
    obtain ⟨j, hj⟩ := List.mem_iff_getElem?.mp hb
    obtain ⟨e, he, _⟩ := pr j b hj
    have i := isp j b e hj he
    rw [keyPS_of i]
    exact i
  have keys : (as.map Value.ref).map (keyPS h2) = as0 := by
    refine List.ext_getElem? fun j => ?_
    rw [List.getElem?_map, List.getElem?_map]
    cases hj : as[j]? with
    | none =>
      have := List.getElem?_eq_none_iff.mp hj
      rw [List.getElem?_eq_none_iff.mpr (by omega)]
      rfl
    | some b =>
      obtain ⟨e, he, _⟩ := pr j b hj
      rw [he]
      show some (keyPS h2 (.ref b)) = some e
      rw [keyPS_of (isp j b e hj he)]
  refine wpAny_call_entry PyProof.Rows.slot_list_sort ⟨_, hob, rfl⟩ PyProof.Rows.entry_list_sort
    (SrtO.list_sort_ord (s := { s with heap := h2, toks := tk }) (swo_SS (keyPS h2)) hob (by rw [List.length_map]; omega) (fun h2' => ps_sortable (by omega) all (not_tup hob)) fun out hs hb => ⟨.none, rfl, ?_⟩) (PyProof.Rows.args_list_sort _)
  show EP X pins σ Q (.ref h'.objs.size) { s with heap := sortedHeap h2 h'.objs.size (as.map Value.ref) out.toArray, toks := tk }
  have isr : ∀ v ∈ out, ∃ b, b ∈ as ∧ v = Value.ref b := fun v hv => by
    obtain ⟨b, hb', rfl⟩ := List.mem_map.mp (hb.perm.mem_iff.mp hv)
    exact ⟨b, hb', rfl⟩
  have kF : ∀ b o, b ≠ h'.objs.size → h2.get? b = some o → (sortedHeap h2 h'.objs.size (as.map Value.ref) out.toArray).get? b = some o := fun b o hb e => (PyProof.Rows.sortedHeap_old hb (Heap.lt_size e)).trans e
  have kS : ∀ b o, s.heap.get? b = some o → (sortedHeap h2 h'.objs.size (as.map Value.ref) out.toArray).get? b = some o := fun b o e => kF b o (ne0 _ _ (hk b o e)) (kb b o e)
  obtain ⟨eF, heF⟩ := PyProof.Rows.sortedHeap_at (vs := as.map Value.ref) (out := out.toArray) hob
  have I1 : Inv X pins σ H { s with heap := sortedHeap h2 h'.objs.size (as.map Value.ref) out.toArray, toks := tk } := I.kept (t' := tk) kS
  have hn0 : H h'.objs.size = none := I.hok.fresh (Nat.le_of_lt hlt)
  have epm : (out.map fun v => (adOf v, keyPS h2 v)).map (fun z => V.ref z.1) = out.map backV := by
    rw [List.map_map]
    refine List.map_congr_left fun v hv => ?_
    obtain ⟨b, _, rfl⟩ := isr v hv
    rfl
  have hlen : (out.map backV).length ≤ sizeLine := by
    rw [List.length_map, hb.perm.length_eq, List.length_map]
    omega
  have I2 : Inv X pins σ (upd H h'.objs.size (.lst (out.map backV))) { s with heap := sortedHeap h2 h'.objs.size (as.map Value.ref) out.toArray, toks := tk } :=
    I1.take (h' := sortedHeap h2 h'.objs.size (as.map Value.ref) out.toArray) (t' := tk) (fun b ob _ e => e) (I.fpOk (Nat.le_of_lt hlt) hn0) ⟨hlen, out, eF, vals_back (fun u hu => by obtain ⟨b, _, e⟩ := isr u hu; exact ⟨b, e⟩), heF⟩
  obtain ⟨H2, I3, g, qt⟩ := DX.takeT (P := fun b vs => ∃ (j : Nat) (e : Pss), as[j]? = some b ∧ as0[j]? = some e ∧ vs = [.str e.1, .str e.2]) I as _ I2 nd fun b hb => by
    obtain ⟨j, hj⟩ := List.mem_iff_getElem?.mp hb
    obtain ⟨e, he, t, u, hg⟩ := pr j b hj
    have hbl : s.heap.objs.size ≤ b := Nat.le_of_lt (hG.above b hb)
    refine ⟨hbl, ?_, [.str e.1, .str e.2], ⟨j, e, hj, he, rfl⟩, fun H3 => ⟨(by show 2 ≤ sizeLine; decide), [Value.str e.1 t, Value.str e.2 u], .cons ⟨_, rfl⟩ (.cons ⟨_, rfl⟩ .nil), ⟨_, kF _ _ (ne0 _ _ hg) (ka _ _ hg), rfl, 0, rfl⟩⟩⟩
    rw [upd_ne (ne0 _ _ hg)]
    exact I.hok.fresh hbl
  have gr : ∀ b o, H b = some o → H2 b = some o := fun b o e => g b o (by rw [upd_ne (ne_of_none e hn0)]; exact e)
  refine ⟨.ref h'.objs.size, H2, I3, rfl, q H2 h'.objs.size (out.map fun v => (adOf v, keyPS h2 v)) gr hn0 (fun z hz => ?_) ?_ ?_ (by rw [epm]; exact g _ _ upd_same) fun z hz => ?_⟩
  · obtain ⟨v, hv, rfl⟩ := List.mem_map.mp hz
    obtain ⟨b, hb', rfl⟩ := isr v hv
    exact I.hok.fresh (Nat.le_of_lt (hG.above b hb'))
  · rw [List.map_map]
    have := hb.perm.map (keyPS h2)
    rw [keys] at this
    exact this
  · rw [List.map_map]
    exact List.pairwise_map.mpr hs
  · obtain ⟨v, hv, rfl⟩ := List.mem_map.mp hz
    obtain ⟨b, hb', rfl⟩ := isr v hv
    obtain ⟨vs, ⟨j, e, hj, he, ev⟩, hH⟩ := qt b hb'
    show H2 b = some (.tup [.str (keyPS h2 (.ref b)).1, .str (keyPS h2 (.ref b)).2])
    rw [keyPS_of (isp j b e hj he), hH, ev]
end
end VL

set_option Elab.async false
set_option linter.all false
set_option maxRecDepth 100000
set_option maxHeartbeats 4000000
/-! repr of plain data (lists, tuples), up to depth 180, where nothing is being shown -/
namespace VL
open PySem PySem.Spec PyProof.Rows L2
def rRepW (K : PySem.W.Frag) : List V → Hp → VK → Prop := fun xs H Q => ∃ (a : Addr) (d : PyData), xs = [.ref a] ∧ Dp K H (.ref a) d ∧ PyData.showable d = true ∧ PyData.hasDict d = false ∧ PyData.depth d ≤ 180 ∧ (PyData.shown d).length ≤ sizeLine ∧ Q (.str (PyData.shown d)) H
theorem call_repW {X : Cx} {K : PySem.W.Frag} (hK : X.K = K) (gd : X.A.guards = some []) (hu : X.A.units + 190 < cLine) : CallR X (.builtin "repr") (rRepW K) := by
  subst hK
  intro pins s σ H xs us Q I r h
  obtain ⟨a, d, rfl, hd, hs, hn, dep, hz, q⟩ := h
  obtain ⟨u, rfl, ru⟩ := vals1 r
  cases (show u = Value.ref a from ru)
  obtain ⟨as, r1⟩ := Dp.reads I d (.ref a) (.ref a) hd rfl
  refine repr_of_reads' (h₀ := s.heap) r1 hs (fun z => by rw [hn] at z; cases z) gd (by omega) (fun _ _ e => e) (fun h' v tk hk => ⟨.str _, H, I.kept hk, ⟨v, rfl⟩, q⟩) hz
end VL

set_option Elab.async false
set_option linter.all false
set_option maxRecDepth 100000
set_option maxHeartbeats 4000000
namespace VL
open PySem PySem.Spec PyProof.Rows L2

def top (i : Nat) : Stmt := PySem.Challenge.pw_viewloom_k29_operations_made.main.body.getD i (.Pass ⟨0, 0, 0, 0⟩)
abbrev s_walk : Stmt := top 2
abbrev s_kids_in : Stmt := top 3
abbrev s_ids_of : Stmt := top 4
abbrev s_find_node : Stmt := top 5
abbrev s_kids_of : Stmt := top 6
abbrev s_level_of : Stmt := top 7
abbrev s_height_of : Stmt := top 8
abbrev s_InvalidOperation___init__ : Stmt := inClass (top 11) 0
abbrev s_fault_of : Stmt := top 13
abbrev s_apply_operation : Stmt := top 14
abbrev s_apply_all : Stmt := top 15
abbrev s_place_among : Stmt := top 16
abbrev s_is_place : Stmt := top 17
abbrev s_remove_fault : Stmt := top 18
abbrev s_insert_fault : Stmt := top 19
abbrev s_move_fault : Stmt := top 20
abbrev s_text_fault : Stmt := top 21
abbrev s_set_fault : Stmt := top 22
abbrev s_unset_fault : Stmt := top 23
abbrev s_with_kids : Stmt := top 24
abbrev s_with_node : Stmt := top 25
abbrev s_changed_within : Stmt := top 26
abbrev s_put_ahead : Stmt := top 27
abbrev s_removed : Stmt := top 28
abbrev s_inserted : Stmt := top 29
abbrev s_moved : Stmt := top 30
abbrev s_with_text : Stmt := top 31
abbrev s_with_attributes : Stmt := top 32
abbrev s_with_set : Stmt := top 33
abbrev s_with_unset : Stmt := top 34
abbrev s__law_cell : Stmt := top 38
abbrev s__law_start : Stmt := top 39
abbrev s__law_digit : Stmt := top 40
abbrev s__law_word : Stmt := top 41
abbrev s__law_attributes : Stmt := top 42
abbrev s__law_node : Stmt := top 43
abbrev s__law_pool : Stmt := top 44
abbrev s__law_document : Stmt := top 45
abbrev s__law_below : Stmt := top 46
abbrev s__law_flat : Stmt := top 47
abbrev s__law_ids : Stmt := top 48
abbrev s__law_row_of : Stmt := top 49
abbrev s__law_kids : Stmt := top 50
abbrev s__law_height : Stmt := top 51
abbrev s__law_fault : Stmt := top 52
abbrev s__law_some : Stmt := top 53
abbrev s__law_kid : Stmt := top 54
abbrev s__law_deed : Stmt := top 55
abbrev s__law_put : Stmt := top 56
abbrev s__law_list_of : Stmt := top 57
abbrev s_law : Stmt := top 58
structure Ad where
  u0 : Unit
structure Txt (K : PySem.W.Frag) (w : World) (mg : Str → Option Value) (C : Ad) : Prop where
  z_abs : mg "abs" = none
  z_any : mg "any" = none
  z_dict : mg "dict" = none
  z_enumerate : mg "enumerate" = none
  z_int : mg "int" = none
  z_len : mg "len" = none
  z_max : mg "max" = none
  z_min : mg "min" = none
  z_range : mg "range" = none
  z_repr : mg "repr" = none
  z_reversed : mg "reversed" = none
  z_sorted : mg "sorted" = none
  z_tuple : mg "tuple" = none
  tb_FAULTS : ∃ a, GV mg "FAULTS" (.ref a) ∧ EntT K w mg a "remove" "remove_fault" ∧ EntT K w mg a "insert" "insert_fault" ∧ EntT K w mg a "move" "move_fault" ∧ EntT K w mg a "text" "text_fault" ∧ EntT K w mg a "set" "set_fault" ∧ EntT K w mg a "unset" "unset_fault"
  tb_CHANGES : ∃ a, GV mg "CHANGES" (.ref a) ∧ EntT K w mg a "remove" "removed" ∧ EntT K w mg a "insert" "inserted" ∧ EntT K w mg a "move" "moved" ∧ EntT K w mg a "text" "with_text" ∧ EntT K w mg a "set" "with_set" ∧ EntT K w mg a "unset" "with_unset"
  g_LOWEST_LEVEL : GV mg "LOWEST_LEVEL" (V.int 40)
  d_walk : DefE K mg "walk" s_walk ["document"]
  d_kids_in : DefE K mg "kids_in" s_kids_in ["node"]
  d_ids_of : DefE K mg "ids_of" s_ids_of ["document"]
  d_find_node : DefE K mg "find_node" s_find_node ["document", "number"]
  d_kids_of : DefE K mg "kids_of" s_kids_of ["document", "parent"]
  d_level_of : DefE K mg "level_of" s_level_of ["document", "number"]
  d_height_of : DefE K mg "height_of" s_height_of ["document"]
  d_fault_of : DefE K mg "fault_of" s_fault_of ["document", "operation"]
  d_apply_operation : DefE K mg "apply_operation" s_apply_operation ["document", "operation"]
  d_apply_all : DefE K mg "apply_all" s_apply_all ["document", "operations"]
  d_place_among : DefE K mg "place_among" s_place_among ["nodes", "number"]
  d_is_place : DefE K mg "is_place" s_is_place ["nodes", "ahead"]
  d_remove_fault : DefE K mg "remove_fault" s_remove_fault ["document", "operation"]
  d_insert_fault : DefE K mg "insert_fault" s_insert_fault ["document", "operation"]
  d_move_fault : DefE K mg "move_fault" s_move_fault ["document", "operation"]
  d_text_fault : DefE K mg "text_fault" s_text_fault ["document", "operation"]
  d_set_fault : DefE K mg "set_fault" s_set_fault ["document", "operation"]
  d_unset_fault : DefE K mg "unset_fault" s_unset_fault ["document", "operation"]
  d_with_kids : DefE K mg "with_kids" s_with_kids ["document", "parent", "kids"]
  d_with_node : DefE K mg "with_node" s_with_node ["nodes", "node"]
  d_changed_within : DefE K mg "changed_within" s_changed_within ["old", "node"]
  d_put_ahead : DefE K mg "put_ahead" s_put_ahead ["nodes", "node", "ahead"]
  d_removed : DefE K mg "removed" s_removed ["document", "operation"]
  d_inserted : DefE K mg "inserted" s_inserted ["document", "operation"]
  d_moved : DefE K mg "moved" s_moved ["document", "operation"]
  d_with_text : DefE K mg "with_text" s_with_text ["document", "operation"]
  d_with_attributes : DefE K mg "with_attributes" s_with_attributes ["document", "number", "attributes"]
  d_with_set : DefE K mg "with_set" s_with_set ["document", "operation"]
  d_with_unset : DefE K mg "with_unset" s_with_unset ["document", "operation"]
  d__law_cell : DefE K mg "_law_cell" s__law_cell ["script", "k"]
  d__law_start : DefE K mg "_law_start" s__law_start ["cell", "k"]
  d__law_digit : DefE K mg "_law_digit" s__law_digit ["state", "many"]
  d__law_word : DefE K mg "_law_word" s__law_word ["state"]
  d__law_attributes : DefE K mg "_law_attributes" s__law_attributes ["state"]
  d__law_node : DefE K mg "_law_node" s__law_node ["state", "levels", "pool"]
  d__law_pool : DefE K mg "_law_pool" s__law_pool ["state", "many"]
  d__law_document : DefE K mg "_law_document" s__law_document ["state", "many", "levels"]
  d__law_below : DefE K mg "_law_below" s__law_below ["node"]
  d__law_flat : DefE K mg "_law_flat" s__law_flat ["document", "parent", "level"]
  d__law_ids : DefE K mg "_law_ids" s__law_ids ["document"]
  d__law_row_of : DefE K mg "_law_row_of" s__law_row_of ["document", "number"]
  d__law_kids : DefE K mg "_law_kids" s__law_kids ["document", "parent"]
  d__law_some : DefE K mg "_law_some" s__law_some ["state", "document"]
  d__law_kid : DefE K mg "_law_kid" s__law_kid ["state", "document", "parent"]
  d__law_deed : DefE K mg "_law_deed" s__law_deed ["state", "document"]
  d__law_put : DefE K mg "_law_put" s__law_put ["kids", "node", "ahead"]
  d__law_list_of : DefE K mg "_law_list_of" s__law_list_of ["document", "operation", "own"]
end VL

set_option Elab.async false
set_option linter.all false
set_option pp.maxSteps 700
set_option maxRecDepth 100000
set_option maxHeartbeats 4000000
namespace VL
open PySem PySem.Spec PyProof.Rows L2
def spKids : Sp := fun vs H Q _ => ∃ (v : V) (d : Dn) (G : Hp), vs = [v] ∧ Same G H ∧ NdA G v d ∧ ∀ p xs H', Same H H' → H' p = some (.tup xs) → NdAs G xs d.kids → Q (.ref p) H'
def wBody : Stmt → List Stmt
  | .While _ b _ _ => b
  | _ => []
def wTest : Stmt → Expr
  | .While t _ _ _ => t
  | _ => .Name "x" ⟨0, 0, 0, 0⟩
theorem paired_app {α β : Type} {G : α → β → Prop} : ∀ {l₁ m₁ : List α} {l₂ m₂ : List β}, Paired G l₁ l₂ → Paired G m₁ m₂ → Paired G (l₁ ++ m₁) (l₂ ++ m₂)
  | _, _, _, _, .nil, h => h
  | _, _, _, _, .cons a b, h => .cons a (paired_app b h)
/-- walk(document), the document told in a part of the heap -/
def spWalkG : VG.SpW := fun vs H N Z Yl En => ∃ (a : Addr) (xs : List V) (ks : List Dn) (G : Hp), vs = [.ref a] ∧ Same G H ∧ G a = some (.tup xs) ∧ NdAs G xs ks ∧ (itS 1 ks).length ≤ 1000 ∧ N = (itS 1 ks).length ∧ Z = zW G a ks ∧ Yl = yW G (itS 1 ks) ∧ En = eW G (itS 1 ks)
section
variable {P : Program} {w : World} {K : PySem.W.Frag} {mg : Str → Option Value} {base : Heap} {C : Ad}
theorem sc_kids_in : FnScope ["node"] ["node"] (defScope s_kids_in) := ⟨rfl, rfl, rfl, by decide +kernel, rfl, by decide +kernel, by decide +kernel⟩
theorem ok_kids (T : Txt K w mg C) : Cal P w K mg base 1 "kids_in" spKids := by
  refine cal_of T.d_kids_in sc_kids_in (fun vs H Q E h => ?_) (fun f cdv A outer s H vs Q E hr h => ?_)
  · obtain ⟨v, d, G, rfl, _⟩ := h
    rfl
  · obtain ⟨v, d, G, rfl, sG, hd, q⟩ := h
    refine ⟨_, (pss_cons (ps_if (pt_cmpR op_eq (pe_ix ix_tup (pv 0) pe_int (fun _ _ => rfl)) pe_str (nomark _)) (pss_one (ps_ret (pe_ix ix_tup (pv 0) pe_int (fun _ _ => rfl)))) pss_nil) (pss_one (ps_ret (pe_tup pa_nil)))), ?_⟩
    cases hd with
    | tx h1 =>
      refine ⟨_, rfl, _, _, _, _, rfl, rfl, SqT.of (sG _ _ h1), rfl, rfl, _, rfl, ite2 (fun q => absurd (of_decide_eq_true q) (by decide)) (fun _ => ?_)⟩
      exact ⟨by show 0 ≤ sizeLine; decide, fun p hp => q p [] _ (Sm.new hp) upd_same .nil⟩
    | el h1 ha hk hs =>
      refine ⟨_, rfl, _, _, _, _, rfl, rfl, SqT.of (sG _ _ h1), rfl, rfl, _, rfl, ite2 (fun _ => ?_) (fun q => absurd (decide_eq_true rfl) q)⟩
      exact ⟨_, rfl, _, _, _, _, rfl, rfl, SqT.of (sG _ _ h1), rfl, q _ _ _ (Same.refl _) (sG _ _ hk) hs⟩
theorem sc_walk : GScope ["document", "node", "waiting", "level", "kid"] ["document"] (defScope s_walk) := ⟨rfl, rfl, rfl, by decide +kernel, rfl, by decide +kernel, by decide +kernel⟩
theorem ok_walk (T : Txt K w mg C) : VG.Wlk P w K mg base 3 "walk" spWalkG := by
  have Gkids_in := ok_kids (P := P) (base := base) T
  refine VG.wlk_of (Nm := ["document", "node", "waiting", "level", "kid"]) T.d_walk sc_walk rfl (fun n f cdv => rfl) ?_
  rintro vs Hc N Z Yl En ⟨a, xs, ks, H, rfl, sG, ha, hn, hN, rfl, rfl, rfl, rfl⟩
  refine ⟨rfl, fun H' s => ⟨rfl, Same.trans sG s⟩, fun i σp H x σg Ho h => h.1, fun f cdv Aw outer s hr => ?_⟩
  have B1' : ∀ s0 H0, PS (VG.re (VG.gX P w K mg base ["document", "node", "waiting", "level", "kid"] "walk" (defScope s_walk) f cdv Aw outer s Hc) s0 H0) ((defBody s_walk).getD 0 (.Pass ⟨0, 0, 0, 0⟩)) _ := fun s0 H0 => (ps_setLc (i := 2) (own := [("node", 1)]) (g := gName 1) (tt := tYes) rfl sc_walk.nd rfl rfl (sw_true rfl rfl rfl (by decide +kernel)) (RT.pi_revA (by rfl) T.z_reversed (pv 0)) (blkOk_by (N := ["document", "node", "waiting", "level", "kid"]) (sc := (defScope s_walk)) (by decide +kernel)) (fun _ _ _ _ _ => pg_name (i := 1) sc_walk.nd rfl (Or.inl rfl)) (fun _ _ _ _ _ => pts_nil) (fun _ _ _ _ _ => (pe_tup (pa_cons pe_int (pa_cons (pv 1) pa_nil)))))
  have B1 := ps_const B1' s Hc (fun _ _ => rfl)
  clear B1'
  have B0' : ∀ s0 H0, PT (VG.re (VG.gX P w K mg base ["document", "node", "waiting", "level", "kid"] "walk" (defScope s_walk) f cdv Aw outer s Hc) s0 H0) (wTest ((defBody s_walk).getD 1 (.Pass ⟨0, 0, 0, 0⟩))) _ := fun s0 H0 => (pt_truth (pv 2) (fun _ => rfl))
  have B0 := pt_const B0' s Hc (fun _ _ => rfl)
  clear B0'
  have B2' : ∀ s0 H0, PS (VG.re (VG.gX P w K mg base ["document", "node", "waiting", "level", "kid"] "walk" (defScope s_walk) f cdv Aw outer s Hc) s0 H0) ((wBody ((defBody s_walk).getD 1 (.Pass ⟨0, 0, 0, 0⟩))).getD 0 (.Pass ⟨0, 0, 0, 0⟩)) _ := fun s0 H0 => (ps_asg (pe_bm0 PySem.F.plainAttrs_list PySem.F.slot_list_pop PySem.F.type_list_pop mt_pop (pv 2)) (pg_tup rfl (pgs_cons (pg_name (i := 3) sc_walk.nd rfl (Or.inr rfl)) (pgs_cons (pg_name (i := 1) sc_walk.nd rfl (Or.inl rfl)) pgs_nil))))
  have B2 := ps_const B2' s Hc (fun _ _ => rfl)
  clear B2'
  have B3' : ∀ s0 H0, PS (VG.re (VG.gX P w K mg base ["document", "node", "waiting", "level", "kid"] "walk" (defScope s_walk) f cdv Aw outer s Hc) s0 H0) ((wBody ((defBody s_walk).getD 1 (.Pass ⟨0, 0, 0, 0⟩))).getD 2 (.Pass ⟨0, 0, 0, 0⟩)) _ := fun s0 H0 => (ps_aug (i := 2) sc_walk.nd rfl (Or.inl rfl) (pe_lc (own := [("kid", 4)]) (g := gName 4) (tt := tYes) rfl sc_walk.nd (RT.pi_revA (by rfl) T.z_reversed (pe_c Gkids_in hr (by decide) (by rfl) (pa_cons (pv 1) pa_nil))) (blkOk_by (N := ["document", "node", "waiting", "level", "kid"]) (sc := (defScope s_walk)) (by decide +kernel)) (fun _ _ _ _ _ => pg_name (i := 4) sc_walk.nd rfl (Or.inl rfl)) (fun _ _ _ _ _ => pts_nil) (fun _ _ _ _ _ => (pe_tup (pa_cons (pe_op op_add (pv 3) pe_int) (pa_cons (pv 4) pa_nil))))) iop_ext)
  have B3 := ps_const B3' s Hc (fun _ _ => rfl)
  clear B3'
  refine ⟨_, _, _, _, _, fun i σp H' σ Hg => hW H a ks i σp H' σ Hg, B1, B0, B2, fun s0 H0 => (pe_tup (pa_cons (pv 3) (pa_cons (pv 1) pa_nil))), B3, ?_, ?_, ?_⟩
  · rintro σ H1 Hg ⟨rfl, s1⟩ sg
    have s2 := Same.trans s1 sg
    have kl := itS_len 1 ks
    have nl := hn.len
    refine ⟨_, rfl, a, xs, rfl, .inr ⟨SqT.of (s2 _ _ ha), fun D hD => ?_⟩⟩
    refine lc_it walk_revT (fun i H' => Same Hg H' ∧ ∃ ws, H' D = some (.lst ws) ∧ StA H H' ws ((ks.reverse.take i).map fun d => (1, d))) ⟨Sm.new hD, [], upd_same, .nil⟩ (fun i H' _ z => SqT.of (z.1 _ _ (s2 _ _ ha))) ?_ ?_
    · rintro i x H' H'' hi ⟨s3, ws, hw, hst⟩ ⟨rfl, hx⟩
      have hx' : xs.reverse[i]? = some x := by
        rw [List.getElem?_reverse hi]
        exact hx
      obtain ⟨d, hd, hxd⟩ := hn.rev.get hx'
      refine ⟨rfl, _, rfl, by show 2 ≤ sizeLine; decide, fun t ht => ?_⟩
      have wl : ws.length ≤ 1000 := by
        rw [hst.len, List.length_map, List.length_take, List.length_reverse]
        omega
      have nD : D ≠ t := ne_of_none hw ht
      refine ⟨ws, by rw [upd_ne nD]; exact hw, by show ws.length < _; exact Nat.lt_of_le_of_lt wl (by decide), fun b o e => ?_, ws ++ [.ref t], upd_same, ?_⟩
      · rw [upd_ne (ne_of_none e hD), upd_ne (ne_of_none (s3 _ _ e) ht)]
        exact s3 _ _ e
      · rw [List.take_add_one, hd, List.map_append]
        refine StA.snoc (hst.keep fun b zs e => ?_) (by rw [upd_ne (Ne.symm nD)]; exact upd_same) hxd
        rw [upd_ne (fun z => by rw [z, hw] at e; cases e), upd_ne (ne_of_none e ht)]
        exact e
    · rintro H' ⟨s3, ws, hw, hst⟩
      have e : ks.reverse.take xs.length = ks.reverse := List.take_of_length_le (by rw [List.length_reverse, nl]; exact Nat.le_refl _)
      rw [e] at hst
      refine ⟨D, ws, _, _, _, _, rfl, s1, Same.free s2 hD, hw, hst, ?_, fun b o e _ => s3 _ _ (sg _ _ e), fun z => absurd z (by decide), fun _ => Same.free sg hD⟩
      have := rest_kids 1 ks []
      rw [List.nil_append] at this
      rw [this]
      simp [rest]
  · rintro i σ H1 Hg ⟨wl, ws, st, lv, d, v, y4, rfl, s1, w0, hw, hst, hv, hi, hdr⟩ sg
    have s2 := Same.trans s1 sg
    have lt : (itS 1 ks).length - (i + 1) = (itS (lv + 1) d.kids).length + (rest st).length := by
      rw [← List.length_drop, hdr, List.length_append]
    have kl := itS_len (lv + 1) d.kids
    have rl := rest_len st
    have wsl := hst.len
    refine ⟨_, rfl, _, rfl, v, d, H, rfl, s2, hv, fun p zs H2 s3 hp hz => ?_⟩
    have zl := hz.len
    refine ⟨p, zs, rfl, .inr ⟨SqT.of hp, fun D hD => ?_⟩⟩
    refine lc_it walk_revT (fun j H' => Same H2 H' ∧ ∃ us, H' D = some (.lst us) ∧ StA H H' us ((d.kids.reverse.take j).map fun d => (lv + 1, d))) ⟨Sm.new hD, [], upd_same, .nil⟩ (fun j H' _ z => SqT.of (z.1 _ _ hp)) ?_ ?_
    · rintro j x H' H'' hj ⟨s4, us, hu, hsu⟩ ⟨rfl, hx⟩
      have hx' : zs.reverse[j]? = some x := by
        rw [List.getElem?_reverse hj]
        exact hx
      obtain ⟨e, he, hxe⟩ := hz.rev.get hx'
      refine ⟨rfl, _, rfl, _, _, rfl, rfl, _, rfl, by show 2 ≤ sizeLine; decide, fun t ht => ?_⟩
      have ul : us.length ≤ 1000 := by
        rw [hsu.len, List.length_map, List.length_take, List.length_reverse]
        omega
      have nD : D ≠ t := ne_of_none hu ht
      refine ⟨us, by rw [upd_ne nD]; exact hu, by show us.length < _; exact Nat.lt_of_le_of_lt ul (by decide), fun b o e => ?_, us ++ [.ref t], upd_same, ?_⟩
      · rw [upd_ne (ne_of_none e hD), upd_ne (ne_of_none (s4 _ _ e) ht)]
        exact s4 _ _ e
      · rw [List.take_add_one, he, List.map_append]
        refine StA.snoc (hsu.keep fun b zs e => ?_) (by rw [upd_ne (Ne.symm nD)]; exact upd_same) hxe
        rw [upd_ne (fun z => by rw [z, hu] at e; cases e), upd_ne (ne_of_none e ht)]
        exact e
    · rintro H' ⟨s4, us, hu, hsu⟩
      have e : d.kids.reverse.take zs.length = d.kids.reverse := List.take_of_length_le (by rw [List.length_reverse, zl]; exact Nat.le_refl _)
      rw [e] at hsu
      have hw' : H' wl = some (.lst ws) := s4 _ _ (s3 _ _ (sg _ _ hw))
      have ul := hsu.len
      rw [List.length_map, List.length_reverse] at ul
      refine ⟨wl, D, ws, us, rfl, rfl, hw', hu, by show ws.length + us.length ≤ _; exact Nat.le_trans (show ws.length + us.length ≤ 1000 by omega) (by decide), ?_⟩
      have tk : ∀ b xs, H1 b = some (.tup xs) → upd H' wl (.lst (ws ++ us)) b = some (.tup xs) := fun b xs e => by
        rw [upd_ne (fun z => by rw [z, hw] at e; cases e)]
        exact s4 _ _ (s3 _ _ (sg _ _ e))
      have tk' : ∀ b xs, H' b = some (.tup xs) → upd H' wl (.lst (ws ++ us)) b = some (.tup xs) := fun b xs e => by
        rw [upd_ne (fun z => by rw [z, hw'] at e; cases e)]
        exact e
      refine ⟨wl, ws ++ us, st ++ d.kids.reverse.map fun d => (lv + 1, d), _, _, _, rfl, s1, w0, upd_same, paired_app (hst.keep tk) (hsu.keep tk'), by rw [hdr, rest_kids], fun b o e ne => ?_, fun _ => rfl, fun z => by omega⟩
      rw [upd_ne ne]
      exact s4 _ _ (s3 _ _ (sg _ _ e))
  · rintro i σp H1 σ Hg ⟨wl, ws, st, y1, y3, y4, rfl, s1, w0, hw, hst, hdr, kb, c1, c2⟩
    refine ⟨_, rfl, !ws.isEmpty, .inl ⟨ws, SqL.of hw, rfl⟩, ?_⟩
    cases ws with
    | nil =>
      have : st = [] := List.eq_nil_of_length_eq_zero (by rw [← hst.len]; rfl)
      subst this
      have hl : (itS 1 ks).length ≤ i := by
        have := congrArg List.length hdr
        rw [List.length_drop] at this
        simp [rest] at this
        omega
      refine (?_ : (_ ∧ _))
      refine ⟨fun b u e z => ?_, fun Ho T => ⟨hl, wl, fun b o e ne => T.old b o e (kb b o e ne), w0, c1, c2, fun b o e => T.old b o (s1 _ _ e) (kb b o (s1 _ _ e) fun z => by rw [z, w0] at e; cases e)⟩⟩
      by_cases c : b = wl
      · rw [c, hw] at z
        cases z
      · rw [kb b u e c] at z
        cases z
    | cons w1 wr =>
      obtain ⟨ws', st', t, u, l, d, e1, rfl, hst', ht, hu⟩ := hst.last (by simp)
      rw [rest_snoc, it_eq] at hdr
      have hi : (itS 1 ks)[i]? = some (l, d) := by
        have := congrArg (fun z => z[0]?) hdr
        simpa using this
      have hdr1 : (itS 1 ks).drop (i + 1) = itS (l + 1) d.kids ++ rest st' := by
        have := congrArg List.tail hdr
        simpa [List.tail_drop] using this
      have hil : i < (itS 1 ks).length := (List.getElem?_eq_some_iff.mp hi).1
      refine (?_ : (_ ∧ _))
      rw [e1] at hw
      have nwt : t ≠ wl := fun z => by rw [z, hw] at ht; cases ht
      refine ⟨by omega, _, rfl, .inl ⟨rfl, _, SqL.of hw⟩, wl, _, .ref t, rfl, rfl, hw, by simp, t, [.int l, u], rfl, SqT.of (by rw [upd_ne nwt]; exact ht), rfl, _, _, rfl, _, _, rfl, rfl, ?_⟩
      refine ⟨_, rfl, _, rfl, by show 2 ≤ sizeLine; decide, fun q hq => ?_⟩
      have hwl : upd Hg wl (.lst (ws' ++ [V.ref t]).dropLast) wl = some (.lst ws') := by rw [List.dropLast_concat]; exact upd_same
      have hot : ∀ b o, Hg b = some o → b ≠ wl → upd Hg wl (.lst (ws' ++ [V.ref t]).dropLast) b = some o := fun b o e ne => by rw [upd_ne ne]; exact e
      generalize upd Hg wl (.lst (ws' ++ [V.ref t]).dropLast) = Hp1 at hq hwl hot ⊢
      have nwq : wl ≠ q := ne_of_none hwl hq
      have k2 : ∀ b o, Hg b = some o → b ≠ wl → upd Hp1 q (.tup [.int l, u]) b = some o := fun b o e ne => by
        rw [upd_ne (ne_of_none (hot b o e ne) hq)]
        exact hot b o e ne
      have hw2 : upd Hp1 q (.tup [.int l, u]) wl = some (.lst ws') := by rw [upd_ne nwq]; exact hwl
      have hq2 : upd Hp1 q (.tup [.int l, u]) q = some (.tup [.int l, u]) := upd_same
      generalize upd Hp1 q (.tup [.int l, u]) = H2 at k2 hw2 hq2 ⊢
      refine (?_ : (_ ∧ _))
      refine ⟨fun b u e z => ?_, fun Ho T => ?_⟩
      · by_cases c : b = wl
        · rw [c, hw2] at z
          cases z
        · rw [k2 b u (kb b u e c) c] at z
          cases z
      · have kb2 : KeptBut wl H1 Ho := fun b o e ne => T.old b o e (k2 b o (kb b o e ne) ne)
        have sm : Same H Ho := fun b o e => kb2 b o (s1 _ _ e) fun z => by rw [z, w0] at e; cases e
        refine ⟨⟨hil, wl, q, u, l, d, rfl, T.new q _ hq2 fun o z => (by cases z), hu, hi, kb2, w0, rfl, c1, c2, sm⟩, wl, ws', st', l, d, u, _, rfl, sm, w0, T.new wl _ hw2 fun o z => (by cases z), hst'.keep fun b xs e => ?_, hu, hi, hdr1⟩
        exact T.new b _ (k2 b _ e fun z => by rw [z, hw] at e; cases e) fun o z => (by cases z)
end
end VL

set_option Elab.async false
set_option linter.all false
set_option pp.maxSteps 700
set_option maxRecDepth 100000
set_option maxHeartbeats 4000000
namespace VL
open PySem PySem.Spec PyProof.Rows L2
theorem AtA.sq {K : PySem.W.Frag} {H : Hp} {v : V} {as : List (Str × Str)} (h : AtA H v as) : ∃ a ps, v = .ref a ∧ SqT K H a (ps.map V.ref) ∧ Paired (fun p (x : Str × Str) => H p = some (.tup [.str x.1, .str x.2])) ps as := by
  obtain ⟨a, o, ps, rfl, h1, h2, h3⟩ := h
  exact ⟨a, ps, rfl, .inl (.inr ⟨o, h1⟩), h3⟩
def Dn.kind : Dn → Str
  | .tx _ _ => "text"
  | .el _ _ _ _ => "element"
theorem NdA.at {H : Hp} {v : V} {d : Dn} (h : NdA H v d) : ∃ a xs, v = .ref a ∧ H a = some (.tup (.str d.kind :: .int d.num :: xs)) := by
  cases h with
  | tx h => exact ⟨_, _, rfl, h⟩
  | el h _ _ _ => exact ⟨_, _, rfl, h⟩
theorem at_0 {x : V} {ys : List V} : atI (x :: ys) 0 = some x := by
  unfold atI ixN
  rw [if_pos (by decide), if_pos (by rw [List.length_cons]; omega)]
  rfl
theorem at_1 {x y : V} {ys : List V} : atI (x :: y :: ys) 1 = some y := by
  unfold atI ixN
  rw [if_pos (by decide), if_pos (by rw [List.length_cons, List.length_cons]; omega)]
  rfl
def DocA (H : Hp) (v : V) (ks : List Dn) : Prop := ∃ a xs, v = .ref a ∧ H a = some (.tup xs) ∧ NdAs H xs ks ∧ (itS 1 ks).length ≤ 1000
theorem DocA.same {H H' : Hp} {v : V} {ks : List Dn} (h : DocA H v ks) (s : Same H H') : DocA H' v ks := by
  obtain ⟨a, xs, e, h1, h2, h3⟩ := h
  exact ⟨a, xs, e, s _ _ h1, h2.same s, h3⟩
def findD (ks : List Dn) (n : Int) : Option (Int × Dn) := (itS 1 ks).find? fun p => decide (p.2.num = n)
def spFind : Sp := fun vs H Q _ => ∃ (v : V) (ks : List Dn) (n : Int), vs = [v, .int n] ∧ DocA H v ks ∧ (findD ks n = none → ∀ H', Same H H' → Q .non H') ∧ ∀ p u H', findD ks n = some p → NdA H u p.2 → Same H H' → Q u H'
section
variable {P : Program} {w : World} {K : PySem.W.Frag} {mg : Str → Option Value} {base : Heap} {C : Ad}
theorem sc_find_node : FnScope ["document", "number", "_", "node"] ["document", "number"] (defScope s_find_node) := ⟨rfl, rfl, rfl, by decide +kernel, rfl, by decide +kernel, by decide +kernel⟩
theorem ok_find (T : Txt K w mg C) : Cal P w K mg base 6 "find_node" spFind := by
  have Gwalk := ok_walk (P := P) (base := base) T
  refine cal_of T.d_find_node sc_find_node (fun vs H Q E h => ?_) (fun f cdv A outer s H vs Q E hr h => ?_)
  · obtain ⟨v, ks, n, rfl, _⟩ := h
    rfl
  · obtain ⟨v, ks, n, rfl, ⟨a, xs, rfl, ha, hn, hN⟩, q0, q1⟩ := h
    refine ⟨_, (pss_cons (VG.ps_forG rfl hr.hd Gwalk hr (by decide) (by rfl) (pa_cons (pv 0) pa_nil) (pg_tup rfl (pgs_cons (pg_name (i := 2) sc_find_node.nd rfl (Or.inl rfl)) (pgs_cons (pg_name (i := 3) sc_find_node.nd rfl (Or.inl rfl)) pgs_nil))) (pss_one (ps_if (pt_cmpR op_eq (pe_ix ix_tup (pv 3) pe_int (fun _ _ => rfl)) (pv 1) (nomark _)) (pss_one (ps_ret (pv 3))) pss_nil))) (pss_one (ps_ret pe_non))), ?_⟩
    refine ⟨_, rfl, _, _, _, _, ⟨a, xs, ks, _, rfl, Same.refl _, ha, hn, hN, rfl, rfl, rfl, rfl⟩, fun L hL => ?_⟩
    refine ⟨fun i σp σ H' => Same H (VG.drop L H') ∧ (∃ y2 y3, σ = [some (.ref a), some (.int n), y2, y3]) ∧ ∀ j p, j < i → (itS 1 ks)[j]? = some p → p.2.num ≠ n, fun Hf σp z => ?_, ?_, ?_⟩
    · exact ⟨by rw [VG.drop_fz z hL]; exact Same.refl _, ⟨_, _, rfl⟩, fun j p hj => absurd hj (Nat.not_lt_zero _)⟩
    · rintro i σp σ H1 x Ho Hf σg ⟨s1, ⟨y2, y3, rfl⟩, no⟩ fr ⟨hi, wl, t, u, lv, d, rfl, ht, hu, hid, kb, w0, g2, p2, i0, sm⟩ hz fz hn0
      have ed := VG.drop_fz fz hn0
      have sf := fz_same fz hn0
      obtain ⟨b, ys, rfl, hb⟩ := hu.at
      have hbf := sf _ _ (sm _ _ hb)
      refine ⟨t, [.int lv, .ref b], rfl, SqT.of (sf _ _ ht), rfl, _, _, rfl, _, _, rfl, rfl, ?_⟩
      refine ⟨_, rfl, _, _, _, _, rfl, rfl, SqT.of hbf, at_1, _, rfl, rfl, _, rfl, ite2 (fun c => ?_) (fun c => ?_)⟩
      · have c' : d.num = n := by
          have := of_decide_eq_true c
          cases this
          rfl
        refine ⟨_, rfl, q1 (lv, d) _ Hf ?_ hu (Same.trans sm sf)⟩
        rw [findD, List.find?_eq_some_iff_getElem]
        refine ⟨decide_eq_true c', i, hi, (List.getElem?_eq_some_iff.mp hid).2, fun j hj => ?_⟩
        rw [decide_eq_false (no j _ hj (List.getElem?_eq_getElem (Nat.lt_trans hj hi)))]
        rfl
      · have c' : d.num ≠ n := fun z => c (decide_eq_true (by rw [z]))
        exact ⟨fun _ _ => rfl, by rw [ed]; exact hz, by rw [ed]; exact sm, ⟨_, _, rfl⟩, fun j p hj hp => by
          rcases Nat.lt_succ_iff_lt_or_eq.mp hj with hj | rfl
          · exact no j p hj hp
          · rw [hid] at hp
            cases hp
            exact c'⟩
    · rintro i σp σ H1 Ho ⟨s1, ⟨y2, y3, rfl⟩, no⟩ fr ⟨hi, wl, kb, w0, p2, i0, sm⟩ hn0
      refine q0 ?_ Ho sm
      rw [findD, List.find?_eq_none]
      intro p hp c
      obtain ⟨j, hj, rfl⟩ := List.getElem_of_mem hp
      exact no j _ (by omega) (List.getElem?_eq_getElem hj) (of_decide_eq_true c)
end
end VL

set_option Elab.async false
set_option linter.all false
set_option pp.maxSteps 700
set_option maxRecDepth 100000
set_option maxHeartbeats 4000000
namespace VL
open PySem PySem.Spec PyProof.Rows L2
theorem zW_upd {H0 : Hp} {a D : Addr} {ks : List Dn} {i : Nat} {σ : L2.St} {H H' : Hp} {us : List V} (h : zW H0 a ks (i + 1) σ H) (k : ∀ b o, H b = some o → b ≠ D → H' b = some o) (d0 : H0 D = none) (hD : H D = some (.lst us)) (ne : σ[2]? ≠ some (some (.ref D))) : zW H0 a ks (i + 1) σ H' := by
  obtain ⟨wl, ws, st, lv, d, v, y4, e, h1, h2, h3, h4, h5, h6⟩ := h
  have nw : wl ≠ D := fun z => ne (by rw [e, z]; rfl)
  exact ⟨wl, ws, st, lv, d, v, y4, e, fun b o e' => k _ _ (h1 _ _ e') fun z => by rw [z, d0] at e'; (cases e'), h2, k _ _ h3 nw, h4.keep fun b xs e' => k _ _ e' fun z => by rw [z, hD] at e'; (cases e'), h5, h6⟩
def ltS (a b : Str) : Bool := decide (a.cps.toList < b.cps.toList)
/-- each name greater than the one ahead -/
def ascB (l : List Str) : Bool := (l.zip (l.drop 1)).all fun p => ltS p.1 p.2
theorem cut_drop' {xs : List V} {k : Nat} : cutV xs (some (k : Int)) none = xs.drop k := by
  have e1 : HT.sIx xs.length 0 (some (k : Int)) = min k xs.length := HT.sIx_nat _ _ _
  have e2 : HT.sIx xs.length xs.length none = xs.length := rfl
  unfold cutV
  rw [e1, e2]
  by_cases h : k ≤ xs.length
  · rw [Nat.min_eq_left h, List.take_of_length_le]
    rw [List.length_drop]
    exact Nat.le_refl _
  · rw [Nat.min_eq_right (by omega), List.drop_eq_nil_of_le (show xs.length ≤ k by omega), List.drop_length]
    exact List.take_nil
theorem asc_stop {l : List Str} {j : Nat} {a b : Str} (h1 : l[j]? = some a) (h2 : l[j + 1]? = some b) (h : ltS a b = false) : ascB l = false := by
  unfold ascB
  rw [List.all_eq_false]
  refine ⟨(a, b), ?_, by rw [h]; decide⟩
  refine List.mem_of_getElem? (i := j) ?_
  rw [List.getElem?_zip_eq_some]
  exact ⟨h1, by rw [List.getElem?_drop, Nat.add_comm]; exact h2⟩
theorem asc_all {l : List Str} (h : ∀ (j : Nat) (a b : Str), l[j]? = some a → l[j + 1]? = some b → ltS a b = true) : ascB l = true := by
  unfold ascB
  rw [List.all_eq_true]
  rintro ⟨a, b⟩ hm
  obtain ⟨j, hj, e⟩ := List.getElem_of_mem hm
  have := List.getElem?_eq_getElem hj
  rw [e, List.getElem?_zip_eq_some, List.getElem?_drop, Nat.add_comm] at this
  exact h j a b this.1 this.2
def spAsc : Sp := fun vs H Q _ => ∃ (a : Addr) (l : List Str), vs = [.ref a] ∧ H a = some (.lst (l.map V.str)) ∧ ∀ H', Same H H' → Q (.bl (ascB l)) H'
def spIds : Sp := fun vs H Q _ => ∃ (v : V) (ks : List Dn), vs = [v] ∧ DocA H v ks ∧ ∀ p H', Same H H' → H' p = some (.lst ((itS 1 ks).map fun x => V.int x.2.num)) → Q (.ref p) H'
/-- what kids_of gives -/
def KidA (H : Hp) (v u : V) (ks : List Dn) (n : Int) : Prop := if n = 0 then u = v else match findD ks n with
  | some (_, .el _ _ _ kk) => ∃ pk xs, u = .ref pk ∧ H pk = some (.tup xs) ∧ NdAs H xs kk
  | _ => u = .non
def spKidsOf : Sp := fun vs H Q _ => ∃ (v : V) (ks : List Dn) (n : Int), vs = [v, .int n] ∧ DocA H v ks ∧ ∀ u H', Same H H' → KidA H v u ks n → Q u H'
section
variable {P : Program} {w : World} {K : PySem.W.Frag} {mg : Str → Option Value} {base : Heap} {C : Ad}
theorem sc_kids_of : FnScope ["document", "parent", "node"] ["document", "parent"] (defScope s_kids_of) := ⟨rfl, rfl, rfl, by decide +kernel, rfl, by decide +kernel, by decide +kernel⟩
theorem ok_kidsOf (T : Txt K w mg C) : Cal P w K mg base 7 "kids_of" spKidsOf := by
  have Gfind_node := ok_find (P := P) (base := base) T
  refine cal_of T.d_kids_of sc_kids_of (fun vs H Q E h => ?_) (fun f cdv A outer s H vs Q E hr h => ?_)
  · obtain ⟨v, ks, n, rfl, _⟩ := h
    rfl
  · obtain ⟨v, ks, n, rfl, hD, q⟩ := h
    refine ⟨_, (pss_cons (ps_if (pt_cmpR op_eq (pv 1) pe_int (nomark _)) (pss_one (ps_ret (pv 0))) pss_nil) (pss_cons (ps_set (i := 2) sc_kids_of.nd rfl (Or.inl rfl) (pe_c Gfind_node hr (by decide) (by rfl) (pa_cons (pv 0) (pa_cons (pv 1) pa_nil)))) (pss_cons (ps_if (PW.pt (pw_or (pt_cmp (pc_isN (pv 2))) (pw_or1 (pt_cmpR op_ne (pe_ix ix_tup (pv 2) pe_int (fun _ _ => rfl)) pe_str (nomark _))))) (pss_one (ps_ret pe_non)) pss_nil) (pss_one (ps_ret (pe_ix ix_tup (pv 2) pe_int (fun _ _ => rfl))))))), ?_⟩
    refine ⟨_, rfl, rfl, _, rfl, ite2 (fun c => ?_) (fun c => ?_)⟩
    · have c' : n = 0 := by
        have := of_decide_eq_true c
        cases this
        rfl
      exact ⟨_, rfl, q v H (Same.refl _) (by unfold KidA; rw [if_pos c'])⟩
    · have c' : ¬ n = 0 := fun z => c (decide_eq_true (by rw [z]))
      refine ⟨_, rfl, _, rfl, v, ks, n, rfl, hD, fun e0 H1 s1 => ?_, fun p u H1 e0 hu s1 => ?_⟩
      · exact ⟨_, rfl, true, rfl, iteT (iteT (q _ H1 s1 (by unfold KidA; rw [if_neg c', e0])))⟩
      · obtain ⟨lv, d⟩ := p
        cases hu with
        | tx h1 => exact ⟨_, rfl, false, rfl, iteF ⟨_, rfl, _, _, _, _, rfl, rfl, SqT.of (s1 _ _ h1), at_0, rfl, _, rfl, iteT (q _ H1 s1 (by unfold KidA; rw [if_neg c', e0]))⟩⟩
        | @el b pk m tg va as vs kk h1 hA' hk hs =>
          exact ⟨_, rfl, false, rfl, iteF ⟨_, rfl, _, _, _, _, rfl, rfl, SqT.of (s1 _ _ h1), at_0, rfl, _, rfl, iteF ⟨_, rfl, _, _, _, _, rfl, rfl, SqT.of (s1 _ _ h1), rfl, q _ H1 s1 (by unfold KidA; rw [if_neg c', e0]; exact ⟨pk, vs, rfl, hk, hs⟩)⟩⟩⟩
theorem sc_ids_of : FnScope ["document", "_", "node"] ["document"] (defScope s_ids_of) := ⟨rfl, rfl, rfl, by decide +kernel, rfl, by decide +kernel, by decide +kernel⟩
theorem ok_idsOf (T : Txt K w mg C) : Cal P w K mg base 6 "ids_of" spIds := by
  have Gwalk := ok_walk (P := P) (base := base) T
  refine cal_of T.d_ids_of sc_ids_of (fun vs H Q E h => ?_) (fun f cdv A outer s H vs Q E hr h => ?_)
  · obtain ⟨v, ks, rfl, _⟩ := h
    rfl
  · obtain ⟨v, ks, rfl, ⟨a, xs, rfl, ha, hn, hN⟩, q⟩ := h
    refine ⟨_, (pss_one (ps_ret (VG.pe_lcG (own_ := [("_", 1), ("node", 2)]) (g := gTup K 2 (gCons (gName 1) (gCons (gName 2) (gNil)))) (tt := tYes) sc_ids_of.nd hr.hd Gwalk hr (by decide) (by rfl) (pa_cons (pv 0) pa_nil) (blkOk_by (N := ["document", "_", "node"]) (sc := (defScope s_ids_of)) (by decide +kernel)) (fun _ _ _ _ _ => pg_tupS (K := K) rfl rfl (pgs_cons (pg_name (i := 1) sc_ids_of.nd rfl (Or.inl rfl)) (pgs_cons (pg_name (i := 2) sc_ids_of.nd rfl (Or.inl rfl)) pgs_nil))) (fun _ _ _ _ _ => pts_nil) (fun _ _ _ _ _ => (pe_ix (ix_tupS (K := K) rfl) (pv 2) pe_int (fun _ _ => rfl)))))), ?_⟩
    refine ⟨_, rfl, _, _, _, _, ⟨a, xs, ks, _, rfl, Same.refl _, ha, hn, hN, rfl, rfl, rfl, rfl⟩, fun L D hL hDn hDL => ?_⟩
    refine ⟨fun i σp H' => Same H (VG.drop L H') ∧ VG.drop L H' D = some (.lst (((itS 1 ks).take i).map fun x => V.int x.2.num)) ∧ (0 < i → σp[2]? ≠ some (some (.ref D))), fun Hf σp z => ?_, ?_, ?_⟩
    · have n0 : ∀ b ∈ L, upd H D (.lst []) b = none := fun b hb => by
        rw [upd_ne (fun z => hDL (by rw [← z]; exact hb))]
        exact hL b hb
      have ed := VG.drop_fz z n0
      exact ⟨by rw [ed]; exact Sm.new hDn, by rw [ed]; exact upd_same, fun h => absurd h (Nat.lt_irrefl _)⟩
    · rintro i σp H1 x Ho Hf σg ⟨s1, hus, c1⟩ fr ⟨hi, wl, t, u, lv, e, rfl, ht, hu, hid, kb, w0, g2, p2, i0, sm⟩ hz fz hn0
      have sf := fz_same fz hn0
      have nw : D ≠ wl := fun z => by
        rcases Nat.eq_zero_or_pos i with h0 | h0
        · rw [z, i0 h0] at hus
          cases hus
        · exact c1 h0 (by rw [z]; exact p2 h0)
      have hoD : Ho D = some (.lst (((itS 1 ks).take i).map fun x => V.int x.2.num)) := kb D _ hus nw
      obtain ⟨b, ys, rfl, hb⟩ := hu.at
      have hbf := sf _ _ (sm _ _ hb)
      have eT : ((itS 1 ks).take (i + 1)).map (fun x => V.int x.2.num) = ((itS 1 ks).take i).map (fun x => V.int x.2.num) ++ [V.int e.num] := by
        rw [List.take_add_one, hid, List.map_append]
        rfl
      refine ⟨t, [.int lv, .ref b], rfl, SqT.of (sf _ _ ht), rfl, _, _, rfl, _, _, rfl, rfl, rfl, ?_⟩
      refine ⟨_, rfl, b, _, _, _, rfl, rfl, SqT.of hbf, at_1, _, sf _ _ hoD, ?_, fun b' hb' => ?_, ?_, ?_⟩
      · rw [List.length_map, List.length_take]
        exact Nat.lt_of_le_of_lt (show min i _ ≤ 1000 by omega) (by decide)
      · rw [upd_ne (fun z => hDL (by rw [← z]; exact hb'))]
      · refine zW_upd hz (fun b' o e' ne => ?_) hDn hoD (fun z => ?_)
        · have nL : b' ∉ L := fun mm => by
            rw [hn0 b' mm] at e'
            cases e'
          rw [VG.drop_out nL, upd_ne ne]
          exact sf _ _ e'
        · rw [g2] at z
          cases z
          exact nw rfl
      · refine ⟨fun b' o e' => ?_, ?_, fun _ z => ?_⟩
        · have nL : b' ∉ L := fun mm => by
            rw [hL b' mm] at e'
            cases e'
          have nD : b' ≠ D := ne_of_none e' hDn
          rw [VG.drop_out nL, upd_ne nD]
          exact sf _ _ (sm _ _ e')
        · rw [VG.drop_out hDL, upd_same, eT]
        · rw [g2] at z
          cases z
          exact nw rfl
    · rintro i σp H1 Ho ⟨s1, hus, c1⟩ fr ⟨hi, wl, kb, w0, p2, i0, sm⟩ hn0
      have nw : D ≠ wl := fun z => by
        rcases Nat.eq_zero_or_pos i with h0 | h0
        · rw [z, i0 h0] at hus
          cases hus
        · exact c1 h0 (by rw [z]; exact p2 h0)
      have hoD := kb D _ hus nw
      rw [List.take_of_length_le hi] at hoD
      exact q D Ho sm hoD
end
end VL

set_option Elab.async false
set_option linter.all false
set_option pp.maxSteps 700
set_option maxRecDepth 100000
set_option maxHeartbeats 4000000
namespace VL
open PySem PySem.Spec PyProof.Rows L2
theorem Sb.keepS {G H H' : Hp} {M : List (Addr × HO)} (S : Sb G H M) (s : Same H H') : Sb G H' M := ⟨Same.trans S.s s, fun p hp => ⟨(S.m p hp).1, s _ _ (S.m p hp).2⟩, S.nd⟩
theorem sq_same {K : PySem.W.Frag} {H H' : Hp} {a : Addr} {xs : List V} (h : SqT K H a xs) (s : Same H H') : SqT K H' a xs := by
  rcases h with (h | ⟨o, h⟩) | h
  · exact .inl (.inl (s _ _ h))
  · exact .inl (.inr ⟨o, s _ _ h⟩)
  · exact .inr h
theorem zW_upd2 {H0 : Hp} {a D : Addr} {ks : List Dn} {i : Nat} {σ : L2.St} {H H' : Hp} (h : zW H0 a ks (i + 1) σ H) (k : ∀ b o, H b = some o → b ≠ D → H' b = some o) (d0 : H0 D = none) (hD : ∀ xs, H D ≠ some (.tup xs)) (ne : ∀ wl, σ[2]? = some (some (.ref wl)) → wl ≠ D) : zW H0 a ks (i + 1) σ H' := by
  obtain ⟨wl, ws, st, lv, d, v, y4, e, h1, h2, h3, h4, h5, h6⟩ := h
  have nw : wl ≠ D := ne wl (by rw [e]; rfl)
  exact ⟨wl, ws, st, lv, d, v, y4, e, fun b o e' => k _ _ (h1 _ _ e') fun z => by rw [z, d0] at e'; (cases e'), h2, k _ _ h3 nw, h4.keep fun b xs e' => k _ _ e' fun z => hD xs (by rw [← z]; exact e'), h5, h6⟩
theorem Sb.dropL {G H : Hp} {M : List (Addr × HO)} {L : List Addr} (S : Sb G H M) (g : ∀ b ∈ L, G b = none) (m : ∀ p ∈ M, p.1 ∉ L) : Sb G (VG.drop L H) M :=
  ⟨fun b o e => by rw [VG.drop_out fun z => by rw [g b z] at e; (cases e)]; exact S.s _ _ e, fun p hp => ⟨(S.m p hp).1, by rw [VG.drop_out (m p hp)]; exact (S.m p hp).2⟩, S.nd⟩
theorem Sb.kb {G H H' : Hp} {M : List (Addr × HO)} {wl : Addr} (S : Sb G H M) (k : KeptBut wl H H') (g : G wl = none) (m : ∀ p ∈ M, p.1 ≠ wl) : Sb G H' M :=
  ⟨fun b o e => k b o (S.s _ _ e) fun z => by rw [z, g] at e; (cases e), fun p hp => ⟨(S.m p hp).1, k _ _ (S.m p hp).2 (m p hp)⟩, S.nd⟩
def namD : Dn → List Str
  | .tx _ _ => []
  | .el _ _ as _ => as.map (·.1)
end VL

set_option Elab.async false
set_option linter.all false
set_option pp.maxSteps 700
set_option maxRecDepth 100000
set_option maxHeartbeats 4000000
namespace VL
open PySem PySem.Spec PyProof.Rows L2
theorem map_int_atR {ns : List Int} {j : Int} (h0 : 0 ≤ j) (h1 : j < (ns.length : Int)) : ∃ z, atI (ns.map V.int) j = some (.int z) := by
  have hj : j.toNat < ns.length := by omega
  refine ⟨ns[j.toNat], ?_⟩
  unfold atI ixN
  rw [if_pos h0, if_pos (by rw [List.length_map]; exact h1)]
  show (ns.map V.int)[j.toNat]? = _
  rw [List.getElem?_map, List.getElem?_eq_getElem hj]
  rfl
/-! ### two cells beside each other -/
theorem log_ok {i : Int} (h0 : 0 ≤ i) (h1 : i < 10 ^ 30) : i.natAbs.log2 < 1920 := by
  have h2 : i.natAbs < 2 ^ 1920 := by
    have : i.natAbs < 10 ^ 30 := by omega
    exact Nat.lt_trans this (by decide)
  by_cases hz : i.natAbs = 0
  · rw [hz]; decide
  · exact (Nat.log2_lt hz).mpr h2
def spCell (K : PySem.W.Frag) : Sp := fun vs H Q _ => ∃ (a : Addr) (ns : List Int) (k : Nat), vs = [.ref a, .int (k : Int)] ∧ SqL K H a (ns.map V.int) ∧ ∀ c, Q (.int c) H
def spStart : Sp := fun vs H Q _ => ∃ c k : Int, vs = [.int c, .int k] ∧ ∀ p s, H p = none → Q (.ref p) (upd H p (.lst [.int s]))
def spDig : Sp := fun vs H Q _ => ∃ (sa : Addr) (s m : Int), vs = [.ref sa, .int m] ∧ H sa = some (.lst [.int s]) ∧ 0 < m ∧ m < 1000 ∧ ∀ z s', 0 ≤ z → z < m → Q (.int z) (upd H sa (.lst [.int s']))
def spWord : Sp := fun vs H Q _ => ∃ (sa : Addr) (s : Int) (G : Hp) (M : List (Addr × HO)), vs = [.ref sa] ∧ Sb G H ((sa, .lst [.int s]) :: M) ∧ ∀ x s' G' H', Sb G' H' ((sa, .lst [.int s']) :: M) → Same G G' → (reprText x).length ≤ 20 → Q (.str x) H'
def lNames : List Str := ["alt", "class", "id", "name"]
def spAtts : Sp := fun vs H Q _ => ∃ (sa : Addr) (s : Int) (G : Hp) (M : List (Addr × HO)), vs = [.ref sa] ∧ Sb G H ((sa, .lst [.int s]) :: M) ∧ ∀ va as s' G' H', Sb G' H' ((sa, .lst [.int s']) :: M) → Same G G' → AtA G' va as → (as.map (·.1)).Sublist lNames → (∀ p ∈ as, (reprText p.2).length ≤ 20) → Q va H'
section
variable {P : Program} {w : World} {K : PySem.W.Frag} {mg : Str → Option Value} {base : Heap} {C : Ad}
theorem sc__law_cell : FnScope ["script", "k"] ["script", "k"] (defScope s__law_cell) := ⟨rfl, rfl, rfl, by decide +kernel, rfl, by decide +kernel, by decide +kernel⟩
theorem ok_cell (T : Txt K w mg C) : Cal P w K mg base 1 "_law_cell" (spCell K) := by
  refine cal_of T.d__law_cell sc__law_cell (fun vs H Q E h => ?_) (fun f cdv A outer s H vs Q E hr h => ?_)
  · obtain ⟨a, ns, k, rfl, _⟩ := h
    rfl
  · obtain ⟨a, ns, k, rfl, ha, q⟩ := h
    refine ⟨_, (pss_cons (ps_if (pt_cmpR op_lt (pv 1) (pe_callB call_len_seq (by rfl) T.z_len PySem.boot_len (pa_cons (pv 0) pa_nil)) (nomark _)) (pss_one (ps_ret (pe_ix ix_list (pv 0) (pv 1) (fun _ _ => rfl)))) pss_nil) (pss_one (ps_ret pe_int))), ?_⟩
    refine ⟨_, rfl, _, rfl, a, _, rfl, .inl ha, _, _, rfl, rfl, _, rfl, ite2 (fun c => ?_) (fun c => ?_)⟩
    · have := of_decide_eq_true c
      rw [List.length_map] at this
      obtain ⟨z, hz⟩ := map_int_atR (ns := ns) (j := (k : Int)) (by omega) (by omega)
      exact ⟨_, rfl, _, rfl, a, _, _, _, rfl, rfl, ha, hz, q z⟩
    · exact q 0
theorem sc__law_start : FnScope ["cell", "k", "prime", "mixed"] ["cell", "k"] (defScope s__law_start) := ⟨rfl, rfl, rfl, by decide +kernel, rfl, by decide +kernel, by decide +kernel⟩
theorem ok_start (T : Txt K w mg C) : Cal P w K mg base 1 "_law_start" spStart := by
  refine cal_of T.d__law_start sc__law_start (fun vs H Q E h => ?_) (fun f cdv A outer s H vs Q E hr h => ?_)
  · obtain ⟨c, k, rfl, _⟩ := h
    rfl
  · obtain ⟨c, k, rfl, q⟩ := h
    refine ⟨_, (pss_cons (ps_set (i := 2) sc__law_start.nd rfl (Or.inl rfl) pe_int) (pss_cons (ps_if (pt_chain op_lt op_lt (pe_un un_neg pe_int) (pv 0) pe_int) (pss_cons (ps_set (i := 3) sc__law_start.nd rfl (Or.inl rfl) (pe_op op_mod (pe_callTy call_int1 (by rfl) T.z_int (by decide +kernel) (pa_cons (pe_op op_add (pe_op op_mul (pv 0) pe_int) (pe_op op_mul (pe_op op_add (pv 1) pe_int) pe_int)) pa_nil)) (pv 2))) (pss_one (ps_ret (pe_lst (pa_cons (pe_op op_mod (pe_callTy call_int1 (by rfl) T.z_int (by decide +kernel) (pa_cons (pe_op op_add (pe_op op_add (pe_op op_mulW (pv 3) (pv 3)) (pe_op op_mul pe_int (pv 3))) (pv 1)) pa_nil)) (pv 2)) pa_nil))))) pss_nil) (pss_one (ps_ret (pe_lst (pa_cons (pe_callB call_abs (by rfl) T.z_abs (by decide +kernel) (pa_cons (pv 0) pa_nil)) pa_nil)))))), ?_⟩
    have p0 : (0 : Int) < 618970019642690137449562111 := by decide
    have small : ∀ σ : L2.St, σ[0]? = some (some (V.int c)) → tRet (tLst (tCons (tCB (fun xs H Q => ∃ i, xs = [V.int i] ∧ Q (V.int (if i < 0 then -i else i)) H) (tCons (tVar 0) tNil)) tNil)) { nx := fun _ H' => Q V.non H', rt := Q } σ H := fun σ e => ⟨_, e, _, rfl, by show 1 ≤ sizeLine; decide, fun p hp => q p _ hp⟩
    refine ⟨_, rfl, _, rfl, _, _, rfl, rfl, _, rfl, ite2 (fun c1 => ⟨_, _, rfl, rfl, _, rfl, ite2 (fun c2 => ?_) (fun c2 => small _ rfl)⟩) (fun c1 => ⟨_, rfl, iteF (small _ rfl)⟩)⟩
    refine ⟨_, rfl, _, _, rfl, rfl, .inr ⟨by decide, by decide⟩, _, rfl, _, _, rfl, rfl, _, _, rfl, rfl, .inr ⟨by decide, by decide⟩, _, _, rfl, rfl, .inl ⟨_, rfl, _, rfl, _, _, rfl, rfl, p0, ?_⟩⟩
    have x0 : 0 ≤ (c * 2654435761 + (k + 1) * 6700417) % 618970019642690137449562111 := Int.emod_nonneg _ (by decide)
    have x1 : (c * 2654435761 + (k + 1) * 6700417) % 618970019642690137449562111 < 618970019642690137449562111 := Int.emod_lt_of_pos _ (by decide)
    show gName 3 (V.int ((c * 2654435761 + (k + 1) * 6700417) % 618970019642690137449562111)) _ _ _
    generalize (c * 2654435761 + (k + 1) * 6700417) % 618970019642690137449562111 = mx at x0 x1 ⊢
    have lg := log_ok x0 (show mx < 10 ^ 30 by omega)
    exact ⟨_, rfl, _, rfl, _, _, rfl, rfl, (by show mx.natAbs.log2 + mx.natAbs.log2 < 1000000; omega), _, rfl, _, _, rfl, rfl, .inl ⟨by decide, by decide⟩, _, _, rfl, rfl, _, rfl, _, _, rfl, rfl, .inl ⟨_, rfl, _, rfl, _, _, rfl, rfl, p0, by show 1 ≤ sizeLine; decide, fun p hp => q p _ hp⟩⟩
theorem sc__law_digit : FnScope ["state", "many", "digit"] ["state", "many"] (defScope s__law_digit) := ⟨rfl, rfl, rfl, by decide +kernel, rfl, by decide +kernel, by decide +kernel⟩
theorem ok_dig (T : Txt K w mg C) : Cal P w K mg base 1 "_law_digit" spDig := by
  refine cal_of T.d__law_digit sc__law_digit (fun vs H Q E h => ?_) (fun f cdv A outer s H vs Q E hr h => ?_)
  · obtain ⟨sa, s, m, rfl, _⟩ := h
    rfl
  · obtain ⟨sa, s0, m, rfl, hs, m0, m1, q⟩ := h
    refine ⟨_, (pss_cons (ps_set (i := 2) sc__law_digit.nd rfl (Or.inl rfl) (pe_op op_mod (pe_callTy call_int1 (by rfl) T.z_int (by decide +kernel) (pa_cons (pe_ix ix_list (pv 0) pe_int (fun _ _ => rfl)) pa_nil)) (pv 1))) (pss_cons (ps_asg (pe_op op_fdiv (pe_ix ix_list (pv 0) pe_int (fun _ _ => rfl)) (pv 1)) (pg_sub (pv 0) pe_int set_list)) (pss_one (ps_ret (pv 2))))), ?_⟩
    refine ⟨_, rfl, sa, _, _, _, rfl, rfl, SqL.of hs, rfl, .inl ⟨_, rfl, _, rfl, _, _, rfl, rfl, m0, ?_⟩⟩
    refine ⟨_, rfl, sa, _, _, _, rfl, rfl, SqL.of hs, rfl, _, rfl, _, _, rfl, rfl, ⟨m0, by omega⟩, ?_⟩
    refine ⟨_, rfl, sa, _, _, 0, rfl, rfl, hs, rfl, ?_⟩
    exact ⟨_, rfl, q _ _ (Int.emod_nonneg _ (by omega)) (Int.emod_lt_of_pos _ m0)⟩
end
end VL

set_option Elab.async false
set_option linter.all false
set_option pp.maxSteps 700
set_option maxRecDepth 100000
set_option maxHeartbeats 4000000
namespace VL
open PySem PySem.Spec PyProof.Rows L2
theorem atI_mem {α : Type} {xs : List α} {k : Int} (h0 : 0 ≤ k) (h1 : k < xs.length) : ∃ x, atI xs k = some x ∧ x ∈ xs := by
  obtain ⟨m, rfl⟩ := Int.eq_ofNat_of_zero_le h0
  refine ⟨xs[m]'(by omega), ?_, List.getElem_mem _⟩
  unfold atI ixN
  rw [if_pos h0, if_pos h1]
  show xs[(m : Int).toNat]? = _
  rw [Int.toNat_natCast, List.getElem?_eq_getElem]
section
variable {P : Program} {w : World} {K : PySem.W.Frag} {mg : Str → Option Value} {base : Heap} {C : Ad}
theorem sc__law_word : FnScope ["state"] ["state"] (defScope s__law_word) := ⟨rfl, rfl, rfl, by decide +kernel, rfl, by decide +kernel, by decide +kernel⟩
theorem ok_word (T : Txt K w mg C) : Cal P w K mg base 2 "_law_word" spWord := by
  have G_law_digit := ok_dig (P := P) (base := base) T
  refine cal_of T.d__law_word sc__law_word (fun vs H Q E h => ?_) (fun f cdv A outer s H vs Q E hr h => ?_)
  · obtain ⟨sa, s, G, M, rfl, _⟩ := h
    rfl
  · obtain ⟨sa, s0, G, M, rfl, S, q⟩ := h
    refine ⟨_, (pss_one (ps_ret (pe_ix ix_tup (pe_tup (pa_cons pe_str (pa_cons pe_str (pa_cons pe_str (pa_cons pe_str pa_nil))))) (pe_c G_law_digit hr (by decide) (by rfl) (pa_cons (pv 0) (pa_cons pe_int pa_nil))) (fun _ _ => rfl)))), ?_⟩
    refine ⟨by show 4 ≤ sizeLine; decide, fun t ht => ?_⟩
    have S1 := S.alloc (o := .tup [V.str "", .str "a", .str "b", .str "ab"]) ht
    have g1 := S.grow (o := .tup [V.str "", .str "a", .str "b", .str "ab"]) ht
    refine ⟨_, rfl, sa, s0, 4, rfl, S1.hd, by decide, by decide, fun z s' z0 z1 => ?_⟩
    have S2 := S1.put (u := .lst [.int s'])
    obtain ⟨c, hc, hm⟩ := atI_mem (xs := [V.str "", .str "a", .str "b", .str "ab"]) z0 z1
    have ht2 := S2.s t (.tup [V.str "", .str "a", .str "b", .str "ab"]) upd_same
    have hc' : ∃ x : Str, c = V.str x ∧ (reprText x).length ≤ 20 := by
      simp only [List.mem_cons, List.not_mem_nil, or_false] at hm
      rcases hm with rfl | rfl | rfl | rfl <;> exact ⟨_, rfl, by decide +kernel⟩
    obtain ⟨x, rfl, xl⟩ := hc'
    exact ⟨t, _, _, _, rfl, rfl, SqT.of ht2, hc, q x s' _ _ S2 g1 xl⟩
theorem sc__law_attributes : FnScope ["state", "pairs", "name"] ["state"] (defScope s__law_attributes) := ⟨rfl, rfl, rfl, by decide +kernel, rfl, by decide +kernel, by decide +kernel⟩
theorem ok_atts (T : Txt K w mg C) : Cal P w K mg base 3 "_law_attributes" spAtts := by
  have G_law_digit := ok_dig (P := P) (base := base) T
  have G_law_word := ok_word (P := P) (base := base) T
  refine cal_of T.d__law_attributes sc__law_attributes (fun vs H Q E h => ?_) (fun f cdv A outer s H vs Q E hr h => ?_)
  · obtain ⟨sa, s, G, M, rfl, _⟩ := h
    rfl
  · obtain ⟨sa, s0, G, M, rfl, S, q⟩ := h
    refine ⟨_, (pss_cons (ps_set (i := 1) sc__law_attributes.nd rfl (Or.inl rfl) (pe_lst pa_nil)) (pss_cons (ps_for PassesOwn.never rfl (pi_tup (pe_tup (pa_cons pe_str (pa_cons pe_str (pa_cons pe_str (pa_cons pe_str pa_nil)))))) (pg_name (i := 2) sc__law_attributes.nd rfl (Or.inl rfl)) (pss_one (ps_if (pt_cmpR op_eq (pe_c G_law_digit hr (by decide) (by rfl) (pa_cons (pv 0) (pa_cons pe_int pa_nil))) pe_int (nomark _)) (pss_one (ps_expr (pe_bm PySem.F.plainAttrs_list PySem.F.slot_list_append PySem.F.type_list_append mt_append (pv 1) (pa_cons (pe_tup (pa_cons (pv 2) (pa_cons (pe_c G_law_word hr (by decide) (by rfl) (pa_cons (pv 0) pa_nil)) pa_nil))) pa_nil)))) pss_nil))) (pss_one (ps_ret (pe_callTy call_tupleF (by rfl) T.z_tuple (by decide +kernel) (pa_cons (pv 1) pa_nil)))))), ?_⟩
    refine ⟨by show 0 ≤ sizeLine; decide, fun p hp => ?_⟩
    have S1 := S.add (o := .lst []) hp
    refine ⟨by show 4 ≤ sizeLine; decide, fun t ht => ?_⟩
    have S2 := S1.alloc (o := .tup (lNames.map V.str)) ht
    have g2 := S1.grow (o := .tup (lNames.map V.str)) ht
    have ht2 : upd G t (.tup (lNames.map V.str)) t = some (.tup (lNames.map V.str)) := upd_same
    generalize upd G t (.tup (lNames.map V.str)) = G2 at S2 g2 ht2
    refine ⟨t, rfl, ⟨_, SqT.of upd_same⟩, ?_⟩
    refine for_it (walk_tup (K := K) (a := t) (xs := lNames.map V.str)) (fun j σ H' => ∃ (s' : Int) (G' : Hp) (ps : List Addr) (as : List (Str × Str)) (y2 : Option V), Sb G' H' ((p, .lst (ps.map V.ref)) :: (sa, .lst [.int s']) :: M) ∧ Same G2 G' ∧ Paired (fun b (x : Str × Str) => G' b = some (.tup [.str x.1, .str x.2])) ps as ∧ (as.map (·.1)).Sublist (lNames.take j) ∧ (∀ p ∈ as, (reprText p.2).length ≤ 20) ∧
      σ = [some (.ref sa), some (.ref p), y2]) ⟨s0, G2, [], [], _, S2, Same.refl _, .nil, List.Sublist.refl _, (fun _ h => nomatch h), rfl⟩ (fun j σ H' _ z => by obtain ⟨_, _, _, _, _, S', g', _⟩ := z; exact SqT.of (S'.s _ _ (g' _ _ ht2))) ?_ ?_
    · rintro j x σ H3 H4 hj ⟨s', G', ps, as, y2, S3, g3, hps, sub, avl, rfl⟩ ⟨rfl, hx⟩
      rw [List.getElem?_map] at hx
      obtain ⟨nm, hnm, rfl⟩ := Option.map_eq_some_iff.mp hx
      have tk : lNames.take (j + 1) = lNames.take j ++ [nm] := by rw [List.take_add_one, hnm]; rfl
      have j4 : j < 4 := by have h : j < (lNames.map V.str).length := hj; exact h
      refine ⟨_, rfl, sa, s', 3, rfl, S3.hd2, by decide, by decide, fun z s2 z0 z1 => ?_⟩
      have S4 := S3.put2 (u := .lst [.int s2])
      refine ⟨rfl, _, rfl, ite2 (fun c => ?_) (fun c => ?_)⟩
      · refine ⟨_, rfl, .inl ⟨rfl, _, SqL.of S4.hd⟩, _, rfl, ?_⟩
        refine ⟨_, rfl, sa, s2, G', (p, .lst (ps.map V.ref)) :: M, rfl, S4.swap, fun w s3 G5 H5 S5 g5 wl => ⟨by show 2 ≤ sizeLine; decide, fun b hb => ?_⟩⟩
        have S6 := S5.swap.alloc (o := .tup [.str nm, .str w]) hb
        have g6 := S5.swap.grow (o := .tup [.str nm, .str w]) hb
        have pl := Paired.length hps
        have al := sub.length_le
        refine ⟨p, _, _, rfl, rfl, S6.hd, ?_, s3, _, ps ++ [b], as ++ [(nm, w)], _, ?_, Same.trans g3 (Same.trans g5 g6), ?_, ?_, ?_, rfl⟩
        · rw [List.length_map] at al ⊢
          rw [List.length_take] at al
          exact Nat.lt_of_le_of_lt (show ps.length ≤ 4 by omega) (by decide)
        · have := S6.put (u := .lst ((ps ++ [b]).map V.ref))
          simpa using this
        · exact Paired.snoc (Paired.mono (fun _ _ h => g6 _ _ (g5 _ _ h)) hps) upd_same
        · rw [tk, List.map_append]
          exact sub.append (List.Sublist.refl _)
        · intro e he
          rcases List.mem_append.mp he with he | he
          · exact avl e he
          · rw [List.mem_singleton.mp he]
            exact wl
      · refine ⟨s2, G', ps, as, _, S4, g3, hps, ?_, avl, rfl⟩
        rw [tk]
        exact sub.trans (List.sublist_append_left _ _)
    · rintro σ H3 ⟨s', G', ps, as, y2, S3, g3, hps, sub, avl, rfl⟩
      refine ⟨_, rfl, p, _, rfl, SqL.of S3.hd, fun l o hl ho => ?_⟩
      obtain ⟨S4, g4⟩ := S3.drop
      have S5 := S4.alloc (o := .frz o (.tup (ps.map V.ref))) hl
      have g5 := S4.grow (o := .frz o (.tup (ps.map V.ref))) hl
      exact q _ as s' _ _ S5 (Same.trans g2 (Same.trans g3 (Same.trans g4 g5))) ⟨l, o, ps, rfl, upd_same, ho, Paired.mono (fun _ _ h => g5 _ _ (g4 _ _ h)) hps⟩ (by simpa using sub) avl
end
end VL

set_option Elab.async false
set_option linter.all false
set_option pp.maxSteps 700
set_option maxRecDepth 100000
set_option maxHeartbeats 4000000
namespace VL
open PySem PySem.Spec PyProof.Rows L2
theorem cut_take {xs : List V} {k : Nat} : cutV xs none (some (k : Int)) = xs.take k := by
  have e1 : HT.sIx xs.length 0 none = 0 := rfl
  have e2 : HT.sIx xs.length xs.length (some (k : Int)) = min k xs.length := HT.sIx_nat _ _ _
  unfold cutV
  rw [e1, e2, List.drop_zero, Nat.sub_zero]
  by_cases h : k ≤ xs.length
  · rw [Nat.min_eq_left h]
  · rw [Nat.min_eq_right (by omega), List.take_of_length_le (Nat.le_refl _), List.take_of_length_le (by omega)]
theorem Sb.eqo {G H : Hp} {M : List (Addr × HO)} {t : Addr} {o o' : HO} (S : Sb G H ((t, o) :: M)) (h : o = o') : Sb G H ((t, o') :: M) := h ▸ S
def spPool : Sp := fun vs H Q _ => ∃ (sa : Addr) (s : Int) (m : Nat) (G : Hp) (M : List (Addr × HO)), vs = [.ref sa, .int (m : Int)] ∧ m ≤ 100 ∧ Sb G H ((sa, .lst [.int s]) :: M) ∧
  ∀ (pa : Addr) (pool : List Int) (s' : Int) (G' H' : Hp), Sb G' H' ((pa, .lst (pool.map V.int)) :: (sa, .lst [.int s']) :: M) → Same G G' → pool.length = m → pool.Nodup → (∀ x ∈ pool, 1 ≤ x ∧ x ≤ (m : Int)) → Q (.ref pa) H'
theorem nd_put {pool : List Int} {k : Nat} {x : Int} (h : pool.Nodup) (hx : x ∉ pool) : (pool.take k ++ [x] ++ pool.drop k).Nodup := by
  have p1 : (pool.take k ++ [x] ++ pool.drop k).Perm (x :: pool) := by
    have : (pool.take k ++ ([x] ++ pool.drop k)).Perm (x :: (pool.take k ++ pool.drop k)) := List.perm_middle
    rw [List.take_append_drop] at this
    rw [List.append_assoc]
    exact this
  exact p1.nodup_iff.mpr (List.nodup_cons.mpr ⟨hx, h⟩)
section
variable {P : Program} {w : World} {K : PySem.W.Frag} {mg : Str → Option Value} {base : Heap} {C : Ad}
theorem sc__law_pool : FnScope ["state", "many", "pool", "k", "place"] ["state", "many"] (defScope s__law_pool) := ⟨rfl, rfl, rfl, by decide +kernel, rfl, by decide +kernel, by decide +kernel⟩
theorem ok_pool (T : Txt K w mg C) : Cal P w K mg base 2 "_law_pool" spPool := by
  have G_law_digit := ok_dig (P := P) (base := base) T
  refine cal_of T.d__law_pool sc__law_pool (fun vs H Q E h => ?_) (fun f cdv A outer s H vs Q E hr h => ?_)
  · obtain ⟨sa, s, m, G, M, rfl, _⟩ := h
    rfl
  · obtain ⟨sa, s0, m, G, M, rfl, m100, S, q⟩ := h
    have big : 100000 < sizeLine := by decide
    refine ⟨_, (pss_cons (ps_set (i := 2) sc__law_pool.nd rfl (Or.inl rfl) (pe_lst pa_nil)) (pss_cons (ps_for PassesOwn.never rfl (pi_range1 (by rfl) T.z_range (pa_cons (pv 1) pa_nil)) (pg_name (i := 3) sc__law_pool.nd rfl (Or.inl rfl)) (pss_cons (ps_set (i := 4) sc__law_pool.nd rfl (Or.inl rfl) (pe_c G_law_digit hr (by decide) (by rfl) (pa_cons (pv 0) (pa_cons (pe_op op_add (pe_callB call_len_seq (by rfl) T.z_len PySem.boot_len (pa_cons (pv 2) pa_nil)) pe_int) pa_nil)))) (pss_one (ps_set (i := 2) sc__law_pool.nd rfl (Or.inl rfl) (pe_op op_cat (pe_op op_cat (pe_slice sl_list (pv 2) po_none (po_some (pv 4))) (pe_lst (pa_cons (pe_op op_add (pv 3) pe_int) pa_nil))) (pe_slice sl_list (pv 2) (po_some (pv 4)) po_none)))))) (pss_one (ps_ret (pv 2))))), ?_⟩
    refine ⟨by show 0 ≤ sizeLine; decide, fun p hp => ?_⟩
    have S1 := S.add (o := .lst []) hp
    refine ⟨_, rfl, _, rfl, by omega, by omega, ?_⟩
    refine for_range (lo := 0) (n := (m : Int).toNat) (fun j σ H' => ∃ (pa : Addr) (pool : List Int) (s' : Int) (G' : Hp) (y3 y4 : Option V), Sb G' H' ((pa, .lst (pool.map V.int)) :: (sa, .lst [.int s']) :: M) ∧ Same G G' ∧ pool.length = j ∧ pool.Nodup ∧ (∀ x ∈ pool, 1 ≤ x ∧ x ≤ (j : Int)) ∧
      σ = [some (.ref sa), some (.int (m : Int)), some (.ref pa), y3, y4]) ⟨p, [], s0, G, _, _, S1, Same.refl _, rfl, List.nodup_nil, (fun _ h => nomatch h), rfl⟩ ?_ ?_
    · rintro j σ H3 hj ⟨pa, pool, s', G', y3, y4, S3, g3, pl, pn, pb, rfl⟩
      have hj' : j < m := by omega
      refine ⟨_, rfl, _, rfl, pa, _, rfl, .inl (SqL.of S3.hd), _, _, rfl, rfl, sa, s', ((pool.map V.int).length : Int) + 1, rfl, S3.hd2, by omega, by rw [List.length_map]; omega, fun z s2 z0 z1 => ?_⟩
      obtain ⟨k, rfl⟩ := Int.eq_ofNat_of_zero_le z0
      have S4 := S3.put2 (u := .lst [.int s2])
      refine ⟨_, rfl, _, rfl, _, rfl, pa, _, rfl, SqL.of S4.hd, fun q1 hq1 => ?_⟩
      rw [show cutV (pool.map V.int) none (some ((k : Nat) : Int)) = (pool.take k).map V.int by rw [cut_take, List.map_take]]
      have S5 := S4.alloc (o := .lst ((pool.take k).map V.int)) hq1
      have g5 := S4.grow (o := .lst ((pool.take k).map V.int)) hq1
      have hq1' : upd G' q1 (.lst ((pool.take k).map V.int)) q1 = some (.lst ((pool.take k).map V.int)) := upd_same
      generalize upd G' q1 (.lst ((pool.take k).map V.int)) = G5 at S5 g5 hq1'
      refine ⟨_, rfl, _, _, rfl, rfl, by show 1 ≤ sizeLine; decide, fun q2 hq2 => ?_⟩
      have S6 := S5.alloc (o := .lst [.int (0 + (j : Int) + 1)]) hq2
      have g6 := S5.grow (o := .lst [.int (0 + (j : Int) + 1)]) hq2
      have hq2' : upd G5 q2 (.lst [.int (0 + (j : Int) + 1)]) q2 = some (.lst [.int (0 + (j : Int) + 1)]) := upd_same
      generalize upd G5 q2 (.lst [.int (0 + (j : Int) + 1)]) = G6 at S6 g6 hq2'
      refine ⟨q1, q2, _, _, rfl, rfl, S6.s _ _ (g6 _ _ hq1'), S6.s _ _ hq2', ?_, fun q3 hq3 => ?_⟩
      · rw [List.length_map, List.length_take]
        exact Nat.le_trans (show min k pool.length + 1 ≤ 1000 by omega) (by decide)
      have S7 := S6.alloc (o := .lst ((pool.take k).map V.int ++ [.int (0 + (j : Int) + 1)])) hq3
      have g7 := S6.grow (o := .lst ((pool.take k).map V.int ++ [.int (0 + (j : Int) + 1)])) hq3
      have hq3' : upd G6 q3 (.lst ((pool.take k).map V.int ++ [.int (0 + (j : Int) + 1)])) q3 = some (.lst ((pool.take k).map V.int ++ [.int (0 + (j : Int) + 1)])) := upd_same
      generalize upd G6 q3 (.lst ((pool.take k).map V.int ++ [.int (0 + (j : Int) + 1)])) = G7 at S7 g7 hq3'
      refine ⟨_, rfl, _, rfl, _, rfl, pa, _, rfl, SqL.of S7.hd, fun q4 hq4 => ?_⟩
      rw [show cutV (pool.map V.int) (some ((k : Nat) : Int)) none = (pool.drop k).map V.int by rw [cut_drop', List.map_drop]]
      have S8 := S7.alloc (o := .lst ((pool.drop k).map V.int)) hq4
      have g8 := S7.grow (o := .lst ((pool.drop k).map V.int)) hq4
      have hq4' : upd G7 q4 (.lst ((pool.drop k).map V.int)) q4 = some (.lst ((pool.drop k).map V.int)) := upd_same
      generalize upd G7 q4 (.lst ((pool.drop k).map V.int)) = G8 at S8 g8 hq4'
      refine ⟨q3, q4, _, _, rfl, rfl, S8.s _ _ (g8 _ _ hq3'), S8.s _ _ hq4', ?_, fun q5 hq5 => ?_⟩
      · rw [List.length_append, List.length_map, List.length_map, List.length_take, List.length_drop]
        exact Nat.le_trans (show min k pool.length + 1 + (pool.length - k) ≤ 1000 by omega) (by decide)
      have S9 := S8.add (o := .lst ((pool.take k).map V.int ++ [.int (0 + (j : Int) + 1)] ++ (pool.drop k).map V.int)) hq5
      obtain ⟨S10, g10⟩ := S9.swap.drop
      have e : (pool.take k).map V.int ++ [.int (0 + (j : Int) + 1)] ++ (pool.drop k).map V.int = (pool.take k ++ [0 + (j : Int) + 1] ++ pool.drop k).map V.int := by simp
      refine ⟨q5, pool.take k ++ [0 + (j : Int) + 1] ++ pool.drop k, s2, _, _, _, S10.eqo (congrArg HO.lst e), Same.trans g3 (Same.trans g5 (Same.trans g6 (Same.trans g7 (Same.trans g8 g10)))), ?_, nd_put pn (fun h => ?_), fun x hx => ?_, rfl⟩
      · rw [List.length_append, List.length_append, List.length_take, List.length_drop]
        show min k pool.length + 1 + (pool.length - k) = j + 1
        omega
      · have := pb _ h
        omega
      · rcases List.mem_append.mp hx with hx | hx
        · rcases List.mem_append.mp hx with hx | hx
          · have := pb x (List.mem_of_mem_take hx)
            omega
          · rw [List.mem_singleton.mp hx]
            omega
        · have := pb x (List.mem_of_mem_drop hx)
          omega
    · rintro σ H3 ⟨pa, pool, s', G', y3, y4, S3, g3, pl, pn, pb, rfl⟩
      refine ⟨_, rfl, q pa pool s' G' H3 S3 g3 (by omega) pn (fun x hx => by have := pb x hx; omega)⟩
end
end VL

set_option Elab.async false
set_option linter.all false
set_option pp.maxSteps 700
set_option maxRecDepth 100000
set_option maxHeartbeats 4000000
namespace VL
open PySem PySem.Spec PyProof.Rows L2
theorem Sb.perm {G H : Hp} {M M' : List (Addr × HO)} (S : Sb G H M) (h : M.Perm M') : Sb G H M' := ⟨S.s, fun p hp => S.m p (h.mem_iff.mpr hp), (h.map _).nodup_iff.mp S.nd⟩
theorem Sb.put3 {G H : Hp} {M : List (Addr × HO)} {p q : Addr × HO} {t : Addr} {o u : HO} (S : Sb G H (p :: q :: (t, o) :: M)) : Sb G (upd H t u) (p :: q :: (t, u) :: M) := ((S.perm (List.perm_middle (l₁ := [p, q]))).put (u := u)).perm (List.perm_middle (l₁ := [p, q])).symm
theorem Sb.hd3 {G H : Hp} {M : List (Addr × HO)} {p q r : Addr × HO} (S : Sb G H (p :: q :: r :: M)) : H r.1 = some r.2 := (S.m r (by simp)).2
/-- the third to the front -/
theorem Sb.rot3 {G H : Hp} {M : List (Addr × HO)} {p q r : Addr × HO} (S : Sb G H (p :: q :: r :: M)) : Sb G H (r :: p :: q :: M) := S.perm (List.perm_middle (l₁ := [p, q]))
/-- the first to the third place -/
theorem Sb.tor3 {G H : Hp} {M : List (Addr × HO)} {p q r : Addr × HO} (S : Sb G H (r :: p :: q :: M)) : Sb G H (p :: q :: r :: M) := S.perm (List.perm_middle (l₁ := [p, q])).symm
/-- names in their order -/
def OwnSh : Dn → Prop
  | .tx _ x => (reprText x).length ≤ 20
  | .el _ t as _ => (reprText t).length ≤ 20 ∧ ∀ p ∈ as, (reprText p.2).length ≤ 20
def NamOk (d : Dn) : Prop := (namD d).Sublist lNames ∧ OwnSh d
def spFalse : Sp := fun _ _ _ _ => False
def spLNode (N : Nat) : Sp := fun vs H Q _ => ∃ (n : Nat) (sa pa : Addr) (s : Int) (pool : List Int) (G : Hp) (M : List (Addr × HO)), vs = [.ref sa, .int (n : Int), .ref pa] ∧ n ≤ N ∧ pool ≠ [] ∧ pool.length ≤ 100 ∧ Sb G H ((pa, .lst (pool.map V.int)) :: (sa, .lst [.int s]) :: M) ∧
  ∀ (v : V) (d : Dn) (pool' : List Int) (s' : Int) (G' H' : Hp), Sb G' H' ((pa, .lst (pool'.map V.int)) :: (sa, .lst [.int s']) :: M) → Same G G' → NdA G' v d → AllD NamOk d → dN d ≤ n → pool = pool' ++ (numN d).reverse → Q v H'
def spLDoc : Sp := fun vs H Q _ => ∃ (sa : Addr) (s : Int) (m l : Nat) (G : Hp) (M : List (Addr × HO)), vs = [.ref sa, .int (m : Int), .int (l : Int)] ∧ m ≤ 100 ∧ l ≤ 5 ∧ Sb G H ((sa, .lst [.int s]) :: M) ∧
  ∀ (p : Addr) (xs : List V) (ks : List Dn) (s' : Int) (G' H' : Hp), Sb G' H' ((sa, .lst [.int s']) :: M) → Same G G' → G' p = some (.tup xs) → NdAs G' xs ks → AllS NamOk ks → dS ks ≤ l → (numS ks).Nodup → (∀ x ∈ numS ks, 1 ≤ x ∧ x ≤ (m : Int)) → (numS ks).length ≤ m → Q (.ref p) H'
section
variable {P : Program} {w : World} {K : PySem.W.Frag} {mg : Str → Option Value} {base : Heap} {C : Ad}
theorem sc__law_node : FnScope ["state", "levels", "pool", "number", "kids", "k"] ["state", "levels", "pool"] (defScope s__law_node) := ⟨rfl, rfl, rfl, by decide +kernel, rfl, by decide +kernel, by decide +kernel⟩
theorem ln_0 (T : Txt K w mg C) {k : Nat} : Cal P w K mg base (k + 1) "_law_node" spFalse := cal_of T.d__law_node sc__law_node (fun vs H Q E h => h.elim) (fun f cdv A outer s H vs Q E hr h => h.elim)
theorem ln_S (T : Txt K w mg C) {N : Nat} {sp : Sp} (hsp : ∀ m, m + 1 = N → sp = spLNode m) (G_law_node : Cal P w K mg base (N + 3) "_law_node" sp) : Cal P w K mg base (N + 4) "_law_node" (spLNode N) := by
  have G_law_digit := ok_dig (P := P) (base := base) T
  have G_law_word := ok_word (P := P) (base := base) T
  have G_law_attributes := ok_atts (P := P) (base := base) T
  refine cal_of T.d__law_node sc__law_node (fun vs H Q E h => ?_) (fun f cdv A outer s H vs Q E hr h => ?_)
  · obtain ⟨n, sa, pa, s, pool, G, M, rfl, _⟩ := h
    rfl
  · obtain ⟨n, sa, pa, s0, pool, G, M, rfl, nN, pne, pl, S, q⟩ := h
    have big : 100000 < sizeLine := by decide
    refine ⟨_, (pss_cons (ps_set (i := 3) sc__law_node.nd rfl (Or.inl rfl) (pe_bm0 PySem.F.plainAttrs_list PySem.F.slot_list_pop PySem.F.type_list_pop mt_pop (pv 2))) (pss_cons (ps_if (PW.pt (pw_or (pt_cmpR op_eq (pv 1) pe_int (nomark _)) (pw_or1 (pt_cmpR op_eq (pe_c G_law_digit hr (by omega) (by rfl) (pa_cons (pv 0) (pa_cons pe_int pa_nil))) pe_int (nomark _))))) (pss_one (ps_ret (pe_tup (pa_cons pe_str (pa_cons (pv 3) (pa_cons (pe_c G_law_word hr (by omega) (by rfl) (pa_cons (pv 0) pa_nil)) pa_nil)))))) pss_nil) (pss_cons (ps_set (i := 4) sc__law_node.nd rfl (Or.inl rfl) (pe_lst pa_nil)) (pss_cons (ps_for PassesOwn.never rfl (pi_range1 (by rfl) T.z_range (pa_cons (pe_ix ix_tup (pe_tup (pa_cons pe_int (pa_cons pe_int (pa_cons pe_int (pa_cons pe_int (pa_cons pe_int (pa_cons pe_int pa_nil))))))) (pe_c G_law_digit hr (by omega) (by rfl) (pa_cons (pv 0) (pa_cons pe_int pa_nil))) (fun _ _ => rfl)) pa_nil)) (pg_name (i := 5) sc__law_node.nd rfl (Or.inl rfl)) (pss_one (ps_if (pt_cmpR op_gt (pe_callB call_len_seq (by rfl) T.z_len PySem.boot_len (pa_cons (pv 2) pa_nil)) pe_int (nomark _)) (pss_one (ps_expr (pe_bm PySem.F.plainAttrs_list PySem.F.slot_list_append PySem.F.type_list_append mt_append (pv 4) (pa_cons (pe_c G_law_node hr (by omega) (by rfl) (pa_cons (pv 0) (pa_cons (pe_op op_sub (pv 1) pe_int) (pa_cons (pv 2) pa_nil)))) pa_nil)))) pss_nil))) (pss_one (ps_ret (pe_tup (pa_cons pe_str (pa_cons (pv 3) (pa_cons (pe_ix ix_tup (pe_tup (pa_cons pe_str (pa_cons pe_str (pa_cons pe_str pa_nil)))) (pe_c G_law_digit hr (by omega) (by rfl) (pa_cons (pv 0) (pa_cons pe_int pa_nil))) (fun _ _ => rfl)) (pa_cons (pe_c G_law_attributes hr (by omega) (by rfl) (pa_cons (pv 0) pa_nil)) (pa_cons (pe_callTy call_tuple_of (by rfl) T.z_tuple (by decide +kernel) (pa_cons (pv 4) pa_nil)) pa_nil)))))))))))), ?_⟩
    obtain ⟨pool1, num, rfl⟩ : ∃ r x, pool = r ++ [x] := ⟨pool.dropLast, pool.getLast pne, (List.dropLast_concat_getLast pne).symm⟩
    have S1 := S.put (u := .lst (pool1.map V.int))
    have hy : ((pool1 ++ [num]).map V.int)[((pool1 ++ [num]).map V.int).length - 1]? = some (.int num) := by simp
    refine ⟨_, rfl, .inl ⟨rfl, _, SqL.of S.hd⟩, pa, _, _, rfl, rfl, S.hd, hy, ?_⟩
    rw [show ((pool1 ++ [num]).map V.int).dropLast = pool1.map V.int by simp]
    have pl1 : pool1.length ≤ 99 := by
      rw [List.length_append] at pl
      have : pool1.length + 1 ≤ 100 := pl
      omega
    show tSeq _ _ _ _ (upd H pa (.lst (pool1.map V.int)))
    generalize upd H pa (.lst (pool1.map V.int)) = H1 at S1 ⊢
    have txt : ∀ (s2 : Int) (H2 : Hp) (σ : L2.St), Sb G H2 ((pa, .lst (pool1.map V.int)) :: (sa, .lst [.int s2]) :: M) → σ[3]? = some (some (V.int num)) → σ[0]? = some (some (V.ref sa)) → tRet (tTup (tCons (tC (.str "text")) (tCons (tVar 3) (tCons (tCall spWord [] E0 (tCons (tVar 0) tNil)) tNil)))) { nx := fun _ H' => Q V.non H', rt := Q } σ H2 := fun s2 H2 σ S2 e3 e0 => by
      refine ⟨_, e3, _, e0, sa, s2, G, (pa, .lst (pool1.map V.int)) :: M, rfl, S2.swap, fun x s3 G3 H3 S3 g3 xl => ⟨by show 3 ≤ sizeLine; decide, fun t ht => ?_⟩⟩
      refine q (.ref t) (.tx num x) pool1 s3 _ _ (S3.swap.alloc ht) (Same.trans g3 (S3.swap.grow ht)) (.tx upd_same) ?_ (Nat.zero_le _) rfl
      simp only [AllD]
      exact ⟨List.nil_sublist _, xl⟩
    refine ⟨_, rfl, rfl, _, rfl, ite2 (fun _ => iteT (txt s0 H1 _ S1 rfl rfl)) (fun c0 => ?_)⟩
    have n0 : n ≠ 0 := fun z => c0 (decide_eq_true (by rw [z]; rfl))
    obtain ⟨m, rfl⟩ : ∃ m, n = m + 1 := ⟨n - 1, by omega⟩
    obtain ⟨N', rfl⟩ : ∃ N', N = N' + 1 := ⟨N - 1, by omega⟩
    have esp := hsp N' rfl
    subst esp
    refine ⟨_, rfl, sa, s0, 5, rfl, S1.hd2, by decide, by decide, fun z s2 z0 z1 => ⟨rfl, _, rfl, ite2 (fun _ => txt s2 _ _ (S1.put2 (u := .lst [.int s2])) rfl rfl) (fun _ => ?_)⟩⟩
    have S2 := S1.put2 (u := .lst [.int s2])
    show tSeq _ _ _ _ (upd H1 sa (.lst [.int s2]))
    generalize upd H1 sa (.lst [.int s2]) = H2 at S2 ⊢
    clear txt
    refine ⟨by show 0 ≤ sizeLine; decide, fun kl hkl => ?_⟩
    have S3 := S2.add (o := .lst []) hkl
    refine ⟨by show 6 ≤ sizeLine; decide, fun tt htt => ?_⟩
    have S4 := S3.alloc (o := .tup [V.int 0, .int 1, .int 2, .int 3, .int 4, .int 2]) htt
    have g4 := S3.grow (o := .tup [V.int 0, .int 1, .int 2, .int 3, .int 4, .int 2]) htt
    have htt' : upd G tt (.tup [V.int 0, .int 1, .int 2, .int 3, .int 4, .int 2]) tt = some (.tup [V.int 0, .int 1, .int 2, .int 3, .int 4, .int 2]) := upd_same
    generalize upd G tt (.tup [V.int 0, .int 1, .int 2, .int 3, .int 4, .int 2]) = G4 at S4 g4 htt'
    refine ⟨_, rfl, sa, s2, 6, rfl, S4.hd3, by decide, by decide, fun z3 s3 z30 z31 => ?_⟩
    have S5 := S4.put3 (u := .lst [.int s3])
    obtain ⟨c, hc, hm⟩ := atI_mem (xs := [V.int 0, .int 1, .int 2, .int 3, .int 4, .int 2]) z30 z31
    have hc' : ∃ x : Nat, c = V.int (x : Int) ∧ x ≤ 4 := by
      simp only [List.mem_cons, List.not_mem_nil, or_false] at hm
      rcases hm with rfl | rfl | rfl | rfl | rfl | rfl
      · exact ⟨0, rfl, by decide⟩
      · exact ⟨1, rfl, by decide⟩
      · exact ⟨2, rfl, by decide⟩
      · exact ⟨3, rfl, by decide⟩
      · exact ⟨4, rfl, by decide⟩
      · exact ⟨2, rfl, by decide⟩
    obtain ⟨x, rfl, x4⟩ := hc'
    refine ⟨tt, _, _, _, rfl, rfl, SqT.of (S5.s _ _ htt'), hc, _, rfl, by omega, by omega, ?_⟩
    refine for_range (lo := 0) (n := (x : Int).toNat) (fun j σ H' => ∃ (s' : Int) (pool' : List Int) (kk : List Dn) (kxs : List V) (G' : Hp) (y5 : Option V), Sb G' H' ((kl, .lst kxs) :: (pa, .lst (pool'.map V.int)) :: (sa, .lst [.int s']) :: M) ∧ Same G4 G' ∧ NdAs G' kxs kk ∧ AllS NamOk kk ∧ dS kk ≤ m ∧ kk.length ≤ j ∧ pool1 = pool' ++ (numS kk).reverse ∧
      σ = [some (.ref sa), some (.int ((m + 1 : Nat) : Int)), some (.ref pa), some (.int num), some (.ref kl), y5]) ⟨s3, pool1, [], [], G4, _, S5, Same.refl _, .nil, trivial, Nat.zero_le _, Nat.le_refl _, by simp [numS], rfl⟩ ?_ ?_
    · rintro j σ H6 hj ⟨s', pool', kk, kxs, G', y5, S6, g6, dk, ak, bk, kkl, ep, rfl⟩
      have kxl := dk.len
      have pl' : pool'.length ≤ 99 := by
        have := congrArg List.length ep
        rw [List.length_append] at this
        omega
      refine ⟨_, rfl, pa, _, rfl, .inl (SqL.of S6.hd2), _, _, rfl, rfl, _, rfl, ite2 (fun c => ?_) (fun c => ⟨s', pool', kk, kxs, G', _, S6, g6, dk, ak, bk, by omega, ep, rfl⟩)⟩
      have pne' : pool' ≠ [] := fun z => by
        have := of_decide_eq_true c
        rw [z] at this
        exact absurd this (by decide)
      refine ⟨_, rfl, .inl ⟨rfl, _, SqL.of S6.hd⟩, _, rfl, _, rfl, _, _, rfl, rfl, _, rfl, m, sa, pa, s', pool', G', (kl, .lst kxs) :: M, ?_, by omega, pne', by omega, S6.tor3, fun v d pool2 s7 G7 H7 S7 g7 nv ad bd e7 => ?_⟩
      · show [V.ref sa, V.int (((m + 1 : Nat) : Int) - 1), V.ref pa] = _
        rw [show ((m + 1 : Nat) : Int) - 1 = (m : Int) by omega]
      · have S8 := S7.rot3
        refine ⟨kl, kxs, v, rfl, rfl, S8.hd, by omega, s7, pool2, kk ++ [d], kxs ++ [v], G7, _, S8.put, Same.trans g6 g7, (dk.same g7).app (.cons nv .nil), AllS_app ak (AllS_one ad), by rw [dS_app, dS_one]; omega, by rw [List.length_append, List.length_singleton]; omega, ?_, rfl⟩
        rw [ep, e7, numS_app, numS_one, List.reverse_append, List.append_assoc]
    · rintro σ H6 ⟨s', pool', kk, kxs, G', y5, S6, g6, dk, ak, bk, kkl, ep, rfl⟩
      refine ⟨_, rfl, by show 3 ≤ sizeLine; decide, fun t3 ht3 => ?_⟩
      have S7 := S6.alloc (o := .tup [V.str "p", .str "div", .str "b"]) ht3
      have g7 := S6.grow (o := .tup [V.str "p", .str "div", .str "b"]) ht3
      have ht3' : upd G' t3 (.tup [V.str "p", .str "div", .str "b"]) t3 = some (.tup [V.str "p", .str "div", .str "b"]) := upd_same
      generalize upd G' t3 (.tup [V.str "p", .str "div", .str "b"]) = G7 at S7 g7 ht3'
      refine ⟨_, rfl, sa, s', 3, rfl, S7.hd3, by decide, by decide, fun z8 s8 z80 z81 => ?_⟩
      have S8 := S7.put3 (u := .lst [.int s8])
      obtain ⟨c8, hc8, hm8⟩ := atI_mem (xs := [V.str "p", .str "div", .str "b"]) z80 z81
      have hc8' : ∃ tg : Str, c8 = V.str tg ∧ (reprText tg).length ≤ 20 := by
        simp only [List.mem_cons, List.not_mem_nil, or_false] at hm8
        rcases hm8 with rfl | rfl | rfl <;> exact ⟨_, rfl, by decide +kernel⟩
      obtain ⟨tg, rfl, tgl⟩ := hc8'
      refine ⟨t3, _, _, _, rfl, rfl, SqT.of (S8.s _ _ ht3'), hc8, _, rfl, sa, s8, G7, _, rfl, S8.rot3, fun va as s9 G9 H9 S9 g9 hva sub avl => ?_⟩
      have S10 := S9.tor3
      refine ⟨_, rfl, kl, kxs, rfl, .inl ⟨SqL.of S10.hd, fun pk hpk => ⟨by show 5 ≤ sizeLine; decide, fun t ht => ?_⟩⟩⟩
      obtain ⟨S11, g11⟩ := S10.drop
      have S12 := S11.alloc (o := .tup kxs) hpk
      have g12 := S11.grow (o := .tup kxs) hpk
      have S13 := S12.alloc (o := .tup [.str "element", .int num, .str tg, va, .ref pk]) ht
      have g13 := S12.grow (o := .tup [.str "element", .int num, .str tg, va, .ref pk]) ht
      have ga := Same.trans g11 (Same.trans g12 g13)
      refine q (.ref t) (.el num tg as kk) pool' s9 _ _ S13 (Same.trans g4 (Same.trans g6 (Same.trans g7 (Same.trans g9 ga)))) (.el upd_same (hva.same ga) (g13 _ _ upd_same) (dk.same (Same.trans g7 (Same.trans g9 ga)))) ?_ ?_ ?_
      · simp only [AllD]
        exact ⟨⟨sub, tgl, avl⟩, ak⟩
      · simp only [dN]
        omega
      · rw [ep]
        simp [numN]
theorem ln_N (T : Txt K w mg C) : ∀ n : Nat, Cal P w K mg base (n + 4) "_law_node" (spLNode n)
  | 0 => ln_S T (N := 0) (sp := spFalse) (fun m h => by omega) (ln_0 T)
  | n + 1 => ln_S T (N := n + 1) (sp := spLNode n) (fun m h => by rw [Nat.succ.inj h]) (ln_N T n)
end
end VL

set_option Elab.async false
set_option linter.all false
set_option pp.maxSteps 700
set_option maxRecDepth 100000
set_option maxHeartbeats 4000000
namespace VL
open PySem PySem.Spec PyProof.Rows L2
section
variable {P : Program} {w : World} {K : PySem.W.Frag} {mg : Str → Option Value} {base : Heap} {C : Ad}
theorem sc__law_document : FnScope ["state", "many", "levels", "pool", "nodes", "k"] ["state", "many", "levels"] (defScope s__law_document) := ⟨rfl, rfl, rfl, by decide +kernel, rfl, by decide +kernel, by decide +kernel⟩
theorem ok_ldoc (T : Txt K w mg C) : Cal P w K mg base 10 "_law_document" spLDoc := by
  have G_law_digit := ok_dig (P := P) (base := base) T
  have G_law_pool := ok_pool (P := P) (base := base) T
  have G_law_node := ln_N (P := P) (base := base) T 5
  refine cal_of T.d__law_document sc__law_document (fun vs H Q E h => ?_) (fun f cdv A outer s H vs Q E hr h => ?_)
  · obtain ⟨sa, s, m, l, G, M, rfl, _⟩ := h
    rfl
  · obtain ⟨sa, s0, m, l, G, M, rfl, m100, l5, S, q⟩ := h
    have big : 100000 < sizeLine := by decide
    refine ⟨_, (pss_cons (ps_set (i := 3) sc__law_document.nd rfl (Or.inl rfl) (pe_c G_law_pool hr (by decide) (by rfl) (pa_cons (pv 0) (pa_cons (pv 1) pa_nil)))) (pss_cons (ps_set (i := 4) sc__law_document.nd rfl (Or.inl rfl) (pe_lst pa_nil)) (pss_cons (ps_for PassesOwn.never rfl (pi_range1 (by rfl) T.z_range (pa_cons (pe_op op_add pe_int (pe_c G_law_digit hr (by decide) (by rfl) (pa_cons (pv 0) (pa_cons pe_int pa_nil)))) pa_nil)) (pg_name (i := 5) sc__law_document.nd rfl (Or.inl rfl)) (pss_one (ps_if (pt_cmpR op_gt (pe_callB call_len_seq (by rfl) T.z_len PySem.boot_len (pa_cons (pv 3) pa_nil)) pe_int (nomark _)) (pss_one (ps_expr (pe_bm PySem.F.plainAttrs_list PySem.F.slot_list_append PySem.F.type_list_append mt_append (pv 4) (pa_cons (pe_c G_law_node hr (by decide) (by rfl) (pa_cons (pv 0) (pa_cons (pv 2) (pa_cons (pv 3) pa_nil)))) pa_nil)))) pss_nil))) (pss_one (ps_ret (pe_callTy call_tuple_of (by rfl) T.z_tuple (by decide +kernel) (pa_cons (pv 4) pa_nil))))))), ?_⟩
    refine ⟨_, rfl, _, rfl, sa, s0, m, G, M, rfl, m100, S, fun pa pool s1 G1 H1 S1 g1 pl pn pb => ?_⟩
    refine ⟨by show 0 ≤ sizeLine; decide, fun kl hkl => ?_⟩
    have S2 := S1.add (o := .lst []) hkl
    refine ⟨_, rfl, sa, s1, 5, rfl, S2.hd3, by decide, by decide, fun z s2 z0 z1 => ?_⟩
    have S3 := S2.put3 (u := .lst [.int s2])
    refine ⟨_, _, rfl, rfl, _, rfl, by omega, by omega, ?_⟩
    refine for_range (lo := 0) (n := (1 + z).toNat) (fun j σ H' => ∃ (s' : Int) (pool' : List Int) (kk : List Dn) (kxs : List V) (G' : Hp) (y5 : Option V), Sb G' H' ((kl, .lst kxs) :: (pa, .lst (pool'.map V.int)) :: (sa, .lst [.int s']) :: M) ∧ Same G1 G' ∧ NdAs G' kxs kk ∧ AllS NamOk kk ∧ dS kk ≤ l ∧ kk.length ≤ j ∧ pool = pool' ++ (numS kk).reverse ∧
      σ = [some (.ref sa), some (.int (m : Int)), some (.int (l : Int)), some (.ref pa), some (.ref kl), y5]) ⟨s2, pool, [], [], G1, _, S3, Same.refl _, .nil, trivial, Nat.zero_le _, Nat.le_refl _, by simp [numS], rfl⟩ ?_ ?_
    · rintro j σ H6 hj ⟨s', pool', kk, kxs, G', y5, S6, g6, dk, ak, bk, kkl, ep, rfl⟩
      have kxl := dk.len
      have pl' : pool'.length ≤ 100 := by
        have := congrArg List.length ep
        rw [List.length_append] at this
        omega
      refine ⟨_, rfl, pa, _, rfl, .inl (SqL.of S6.hd2), _, _, rfl, rfl, _, rfl, ite2 (fun c => ?_) (fun c => ⟨s', pool', kk, kxs, G', _, S6, g6, dk, ak, bk, by omega, ep, rfl⟩)⟩
      have pne' : pool' ≠ [] := fun z => by
        have := of_decide_eq_true c
        rw [z] at this
        exact absurd this (by decide)
      refine ⟨_, rfl, .inl ⟨rfl, _, SqL.of S6.hd⟩, _, rfl, _, rfl, _, rfl, l, sa, pa, s', pool', G', (kl, .lst kxs) :: M, rfl, l5, pne', pl', S6.tor3, fun v d pool2 s7 G7 H7 S7 g7 nv ad bd e7 => ?_⟩
      have S8 := S7.rot3
      refine ⟨kl, kxs, v, rfl, rfl, S8.hd, by omega, s7, pool2, kk ++ [d], kxs ++ [v], G7, _, S8.put, Same.trans g6 g7, (dk.same g7).app (.cons nv .nil), AllS_app ak (AllS_one ad), by rw [dS_app, dS_one]; omega, by rw [List.length_append, List.length_singleton]; omega, ?_, rfl⟩
      rw [ep, e7, numS_app, numS_one, List.reverse_append, List.append_assoc]
    · rintro σ H6 ⟨s', pool', kk, kxs, G', y5, S6, g6, dk, ak, bk, kkl, ep, rfl⟩
      refine ⟨_, rfl, kl, kxs, rfl, .inl ⟨SqL.of S6.hd, fun p hp => ?_⟩⟩
      obtain ⟨S7, g7⟩ := S6.drop
      obtain ⟨S8, g8⟩ := S7.drop
      have S9 := S8.alloc (o := .tup kxs) hp
      have g9 := S8.grow (o := .tup kxs) hp
      have g69 := Same.trans g7 (Same.trans g8 g9)
      have sub : (numS kk).reverse.Sublist pool := by rw [ep]; exact List.sublist_append_right _ _
      have nd : (numS kk).Nodup := by
        have := pn.sublist sub
        exact (List.reverse_perm _).nodup_iff.mp this
      refine q p kxs kk s' _ _ S9 (Same.trans g1 (Same.trans g6 g69)) upd_same (dk.same g69) ak bk nd (fun x hx => pb x (sub.subset (List.mem_reverse.mpr hx))) ?_
      have := sub.length_le
      rw [List.length_reverse] at this
      omega
end
end VL

set_option Elab.async false
set_option linter.all false
set_option pp.maxSteps 700
set_option maxRecDepth 100000
set_option maxHeartbeats 4000000
namespace VL
open PySem PySem.Spec PyProof.Rows L2
mutual
/-- each node with its parent and its level -/
def flN (par lv : Int) : Dn → List (Dn × Int × Int)
  | .tx n x => [(.tx n x, par, lv)]
  | .el n t as ks => (.el n t as ks, par, lv) :: flP n (lv + 1) ks
def flP (par lv : Int) : List Dn → List (Dn × Int × Int)
  | [] => []
  | d :: r => flN par lv d ++ flP par lv r
end
theorem flN_eq {par lv : Int} {d : Dn} : flN par lv d = (d, par, lv) :: flP d.num (lv + 1) d.kids := by
  cases d with
  | tx n x => simp only [flN, Dn.kids, flP]
  | el n t as ks => simp only [flN, Dn.kids, Dn.num]
theorem flP_app {par lv : Int} : ∀ a b : List Dn, flP par lv (a ++ b) = flP par lv a ++ flP par lv b
  | [], b => by simp only [flP, List.nil_append]
  | d :: r, b => by simp only [List.cons_append, flP, flP_app r b, List.append_assoc]
mutual
theorem flN_it (par lv : Int) : ∀ d : Dn, (flN par lv d).map (fun x => (x.2.2, x.1)) = it lv d
  | .tx n x => by simp only [flN, it, List.map_cons, List.map_nil]
  | .el n t as ks => by
    simp only [flN, it, List.map_cons]
    rw [flP_it n (lv + 1) ks]
theorem flP_it (par lv : Int) : ∀ ks : List Dn, (flP par lv ks).map (fun x => (x.2.2, x.1)) = itS lv ks
  | [] => by simp only [flP, itS, List.map_nil]
  | d :: r => by
    simp only [flP, itS, List.map_append]
    rw [flN_it par lv d, flP_it par lv r]
end
mutual
/-- how deep the calls go -/
def hN : Dn → Nat
  | .tx _ _ => 1
  | .el _ _ _ ks => hS ks + 1
def hS : List Dn → Nat
  | [] => 0
  | d :: r => max (hN d) (hS r)
end
theorem hN_eq {d : Dn} : hN d = hS d.kids + 1 := by
  cases d with
  | tx n x => simp only [hN, Dn.kids, hS]
  | el n t as ks => simp only [hN, Dn.kids]
theorem hS_mem : ∀ {ks : List Dn} {d : Dn}, d ∈ ks → hN d ≤ hS ks
  | e :: r, d, h => by
    simp only [hS]
    rcases List.mem_cons.mp h with rfl | h
    · omega
    · have := hS_mem h
      omega
mutual
theorem hN_dN : ∀ d : Dn, hN d ≤ dN d + 1
  | .tx n x => by simp only [hN, dN]; omega
  | .el n t as ks => by
    have := hS_dS ks
    simp only [hN, dN]
    omega
theorem hS_dS : ∀ ks : List Dn, hS ks ≤ dS ks + 1
  | [] => by simp only [hS]; omega
  | d :: r => by
    have h1 := hN_dN d
    have h2 := hS_dS r
    simp only [hS, dS]
    omega
end
def RowA (H : Hp) (v : V) (x : Dn × Int × Int) : Prop := ∃ a u, v = .ref a ∧ H a = some (.lst [u, .int x.2.1, .int x.2.2]) ∧ NdA H u x.1
theorem RowA.same {H H' : Hp} {vs : List V} {xs : List (Dn × Int × Int)} (h : Paired (RowA H) vs xs) (s : Same H H') : Paired (RowA H') vs xs := Paired.mono (fun _ _ ⟨a, u, e, h1, h2⟩ => ⟨a, u, e, s _ _ h1, h2.same s⟩) h
def spBelow : Sp := fun vs H Q _ => ∃ (v : V) (d : Dn) (G : Hp) (M : List (Addr × HO)), vs = [v] ∧ Sb G H M ∧ NdA G v d ∧ ∀ (p : Addr) (xs : List V) (G' H' : Hp), Sb G' H' M → Same G G' → G' p = some (.tup xs) → NdAs G' xs d.kids → Q (.ref p) H'
def spFlat (N : Nat) : Sp := fun vs H Q _ => ∃ (a : Addr) (par lv : Int) (xs : List V) (ks : List Dn) (G : Hp) (M : List (Addr × HO)), vs = [.ref a, .int par, .int lv] ∧ Sb G H M ∧ G a = some (.tup xs) ∧ NdAs G xs ks ∧ hS ks ≤ N ∧ (flP par lv ks).length ≤ 1000 ∧
  ∀ (p : Addr) (rs : List V) (G' H' : Hp), Sb G' H' M → Same G G' → G' p = some (.lst rs) → Paired (RowA G') rs (flP par lv ks) → Q (.ref p) H'
theorem NdAs.get' {H : Hp} {vs : List V} {ds : List Dn} (h : NdAs H vs ds) {j : Nat} {v : V} (hv : vs[j]? = some v) : ∃ d, ds[j]? = some d ∧ NdA H v d := by
  induction j generalizing vs ds with
  | zero =>
    cases h with
    | nil => simp at hv
    | cons a b => exact ⟨_, rfl, by rw [← Option.some.inj hv]; exact a⟩
  | succ j ih =>
    cases h with
    | nil => simp at hv
    | cons a b => exact ih b (by simpa using hv)
section
variable {P : Program} {w : World} {K : PySem.W.Frag} {mg : Str → Option Value} {base : Heap} {C : Ad}
theorem sc__law_below : FnScope ["node"] ["node"] (defScope s__law_below) := ⟨rfl, rfl, rfl, by decide +kernel, rfl, by decide +kernel, by decide +kernel⟩
theorem ok_below (T : Txt K w mg C) : Cal P w K mg base 1 "_law_below" spBelow := by
  refine cal_of T.d__law_below sc__law_below (fun vs H Q E h => ?_) (fun f cdv A outer s H vs Q E hr h => ?_)
  · obtain ⟨v, d, G, M, rfl, _⟩ := h
    rfl
  · obtain ⟨v, d, G, M, rfl, S, hd, q⟩ := h
    refine ⟨_, (pss_cons (ps_if (pt_cmpR op_eq (pe_ix ix_tup (pv 0) pe_int (fun _ _ => rfl)) pe_str (nomark _)) (pss_one (ps_ret (pe_ix ix_tup (pv 0) pe_int (fun _ _ => rfl)))) pss_nil) (pss_one (ps_ret (pe_tup pa_nil)))), ?_⟩
    cases hd with
    | @tx b m y h1 =>
      refine ⟨_, rfl, b, _, _, _, rfl, rfl, SqT.of (S.s _ _ h1), at_0, rfl, _, rfl, ite2 (fun c => absurd c (by decide)) (fun _ => ?_)⟩
      exact ⟨by show 0 ≤ sizeLine; decide, fun p hp => q p [] _ _ (S.alloc hp) (S.grow hp) upd_same .nil⟩
    | @el b pk m tg va as vs kk h1 hA' hk hs =>
      refine ⟨_, rfl, b, _, _, _, rfl, rfl, SqT.of (S.s _ _ h1), at_0, rfl, _, rfl, ite2 (fun _ => ?_) (fun c => absurd (by decide) c)⟩
      exact ⟨_, rfl, b, _, _, _, rfl, rfl, SqT.of (S.s _ _ h1), rfl, q pk vs G H S (Same.refl _) hk hs⟩
theorem sc__law_flat : FnScope ["document", "parent", "level", "rows", "node"] ["document", "parent", "level"] (defScope s__law_flat) := ⟨rfl, rfl, rfl, by decide +kernel, rfl, by decide +kernel, by decide +kernel⟩
theorem lf_0 (T : Txt K w mg C) {k : Nat} : Cal P w K mg base (k + 1) "_law_flat" spFalse := cal_of T.d__law_flat sc__law_flat (fun vs H Q E h => h.elim) (fun f cdv A outer s H vs Q E hr h => h.elim)
theorem lf_S (T : Txt K w mg C) {N : Nat} {sp : Sp} (hsp : ∀ m, m + 1 = N → sp = spFlat m) (G_law_flat : Cal P w K mg base (N + 1) "_law_flat" sp) : Cal P w K mg base (N + 2) "_law_flat" (spFlat N) := by
  have G_law_below := ok_below (P := P) (base := base) T
  refine cal_of T.d__law_flat sc__law_flat (fun vs H Q E h => ?_) (fun f cdv A outer s H vs Q E hr h => ?_)
  · obtain ⟨a, par, lv, xs, ks, G, M, rfl, _⟩ := h
    rfl
  · obtain ⟨a, par, lv, xs, ks, G, M, rfl, S, ha, hxs, hN, hl, q⟩ := h
    have big : 100000 < sizeLine := by decide
    refine ⟨_, (pss_cons (ps_set (i := 3) sc__law_flat.nd rfl (Or.inl rfl) (pe_lst pa_nil)) (pss_cons (ps_for PassesOwn.never rfl (pi_tup (pv 0)) (pg_name (i := 4) sc__law_flat.nd rfl (Or.inl rfl)) (pss_cons (ps_expr (pe_bm PySem.F.plainAttrs_list PySem.F.slot_list_append PySem.F.type_list_append mt_append (pv 3) (pa_cons (pe_lst (pa_cons (pv 4) (pa_cons (pv 1) (pa_cons (pv 2) pa_nil)))) pa_nil))) (pss_one (ps_set (i := 3) sc__law_flat.nd rfl (Or.inl rfl) (pe_op op_cat (pv 3) (pe_c G_law_flat hr (by omega) (by rfl) (pa_cons (pe_c G_law_below hr (by omega) (by rfl) (pa_cons (pv 4) pa_nil)) (pa_cons (pe_ix ix_tup (pv 4) pe_int (fun _ _ => rfl)) (pa_cons (pe_op op_add (pv 2) pe_int) pa_nil))))))))) (pss_one (ps_ret (pv 3))))), ?_⟩
    refine ⟨by show 0 ≤ sizeLine; decide, fun p hp => ?_⟩
    have S1 := S.add (o := .lst []) hp
    refine ⟨_, rfl, a, rfl, ⟨_, SqT.of (S1.s _ _ ha)⟩, ?_⟩
    refine for_it (walk_tup (K := K) (a := a) (xs := xs)) (fun j σ H' => ∃ (p : Addr) (rs : List V) (G' : Hp) (y4 : Option V), Sb G' H' ((p, .lst rs) :: M) ∧ Same G G' ∧ Paired (RowA G') rs (flP par lv (ks.take j)) ∧
      σ = [some (.ref a), some (.int par), some (.int lv), some (.ref p), y4]) ⟨p, [], G, _, S1, Same.refl _, by rw [List.take_zero]; simp only [flP]; exact .nil, rfl⟩ (fun j σ H' _ z => by obtain ⟨_, _, _, _, S', g', _⟩ := z; exact SqT.of (S'.s _ _ (g' _ _ ha))) ?_ ?_
    · rintro j x σ H3 H4 hj ⟨p, rs, G', y4, S3, g3, hrs, rfl⟩ ⟨rfl, hx⟩
      obtain ⟨d, hd, hxd⟩ := hxs.get' hx
      have dm := List.mem_of_getElem? hd
      have h1 := hS_mem dm
      rw [hN_eq] at h1
      obtain ⟨N', rfl⟩ : ∃ N', N = N' + 1 := ⟨N - 1, by omega⟩
      have esp := hsp N' rfl
      subst esp
      have eT : flP par lv (ks.take (j + 1)) = flP par lv (ks.take j) ++ [(d, par, lv)] ++ flP d.num (lv + 1) d.kids := by
        rw [List.take_add_one, hd, flP_app]
        show _ ++ flP par lv [d] = _
        simp only [flP, List.append_nil]
        rw [flN_eq, List.append_assoc]
        rfl
      have tl : (flP par lv (ks.take (j + 1))).length ≤ 1000 := by
        have e : flP par lv ks = flP par lv (ks.take (j + 1)) ++ flP par lv (ks.drop (j + 1)) := by rw [← flP_app, List.take_append_drop]
        rw [e, List.length_append] at hl
        omega
      rw [eT, List.length_append, List.length_append] at tl
      have tl : (flP par lv (ks.take j)).length + 1 + (flP d.num (lv + 1) d.kids).length ≤ 1000 := tl
      have rl := Paired.length hrs
      obtain ⟨b, ys, rfl, hb⟩ := hxd.at
      refine ⟨_, rfl, .inl ⟨rfl, _, SqL.of S3.hd⟩, _, rfl, _, rfl, _, rfl, by show 3 ≤ sizeLine; decide, fun r hr => ?_⟩
      have S4 := S3.alloc (o := .lst [.ref b, .int par, .int lv]) hr
      have g4 := S3.grow (o := .lst [.ref b, .int par, .int lv]) hr
      have hr4 : upd G' r (.lst [.ref b, .int par, .int lv]) r = some (.lst [.ref b, .int par, .int lv]) := upd_same
      generalize upd G' r (.lst [.ref b, .int par, .int lv]) = G4 at S4 g4 hr4
      refine ⟨p, rs, .ref r, rfl, rfl, S4.hd, by omega, ?_⟩
      have S5 := S4.put (u := .lst (rs ++ [.ref r]))
      have hd5 := hxd.same (Same.trans g3 g4)
      refine ⟨_, rfl, _, rfl, .ref b, d, G4, _, rfl, S5, hd5, fun p2 xs2 G6 H6 S6 g6 hp2 hx2 => ?_⟩
      have hb6 := S6.s _ _ (g6 _ _ (g4 _ _ (g3 _ _ hb)))
      refine ⟨_, rfl, b, _, _, _, rfl, rfl, SqT.of hb6, at_1, _, rfl, _, _, rfl, rfl, p2, d.num, lv + 1, xs2, d.kids, G6, _, rfl, S6, hp2, hx2, by omega, by omega, fun p7 rs7 G7 H7 S7 g7 hp7 hrs7 => ?_⟩
      have r7 := Paired.length hrs7
      refine ⟨p, p7, _, _, rfl, rfl, S7.hd, S7.s _ _ hp7, by rw [List.length_append]; show rs.length + 1 + rs7.length ≤ _; omega, fun p8 hp8 => ?_⟩
      have S8 := S7.add (o := .lst (rs ++ [V.ref r] ++ rs7)) hp8
      obtain ⟨S9, g9⟩ := S8.swap.drop
      refine ⟨p8, rs ++ [V.ref r] ++ rs7, _, _, S9, Same.trans g3 (Same.trans g4 (Same.trans g6 (Same.trans g7 g9))), ?_, rfl⟩
      rw [eT]
      have g79 := Same.trans g7 g9
      exact paired_app (paired_app (RowA.same hrs (Same.trans g4 (Same.trans g6 g79))) (.cons ⟨r, .ref b, rfl, g79 _ _ (g6 _ _ hr4), hd5.same (Same.trans g6 g79)⟩ .nil)) (RowA.same hrs7 g9)
    · rintro σ H3 ⟨p, rs, G', y4, S3, g3, hrs, rfl⟩
      rw [List.take_of_length_le (by rw [hxs.len]; exact Nat.le_refl _)] at hrs
      obtain ⟨S4, g4⟩ := S3.drop
      exact ⟨_, rfl, q p rs _ H3 S4 (Same.trans g3 g4) upd_same (RowA.same hrs g4)⟩
theorem lf_N (T : Txt K w mg C) : ∀ n : Nat, Cal P w K mg base (n + 2) "_law_flat" (spFlat n)
  | 0 => lf_S T (N := 0) (sp := spFalse) (fun m h => by omega) (lf_0 T)
  | n + 1 => lf_S T (N := n + 1) (sp := spFlat n) (fun m h => by rw [Nat.succ.inj h]) (lf_N T n)
end
end VL

set_option Elab.async false
set_option linter.all false
set_option pp.maxSteps 700
set_option maxRecDepth 100000
set_option maxHeartbeats 4000000
namespace VL
open PySem PySem.Spec PyProof.Rows L2
/-- the place of a number among nodes -/
def placeD (kk : List Dn) (n : Int) : Option Nat := kk.findIdx? fun d => decide (d.num = n)
def isPl (kk : List Dn) : Option Int → Bool
  | none => true
  | some m => (placeD kk m).isSome
def intV : Option Int → V
  | none => .non
  | some m => .int m
def levD (ks : List Dn) (n : Int) : Int := match findD ks n with
  | some p => p.1
  | none => 0
def spPlace : Sp := fun vs H Q _ => ∃ (a : Addr) (xs : List V) (kk : List Dn) (n : Int), vs = [.ref a, .int n] ∧ H a = some (.tup xs) ∧ NdAs H xs kk ∧ (placeD kk n = none → ∀ H', Same H H' → Q .non H') ∧ ∀ (i : Nat) H', placeD kk n = some i → Same H H' → Q (.int (i : Int)) H'
def spIsPl : Sp := fun vs H Q _ => ∃ (a : Addr) (xs : List V) (kk : List Dn) (ah : Option Int), vs = [.ref a, intV ah] ∧ H a = some (.tup xs) ∧ NdAs H xs kk ∧ ∀ H', Same H H' → Q (.bl (isPl kk ah)) H'
def spLevel : Sp := fun vs H Q _ => ∃ (v : V) (ks : List Dn) (n : Int), vs = [v, .int n] ∧ DocA H v ks ∧ ∀ H', Same H H' → Q (.int (levD ks n)) H'
def spHeight : Sp := fun vs H Q _ => ∃ (v : V) (ks : List Dn), vs = [v] ∧ DocA H v ks ∧ ks ≠ [] ∧ ∀ m H', Same H H' → m ∈ (itS 1 ks).map (·.1) → (∀ y ∈ (itS 1 ks).map (·.1), y ≤ m) → Q (.int m) H'
theorem place_some {kk : List Dn} {n : Int} {i : Nat} {d : Dn} (h : kk[i]? = some d) (hd : d.num = n) (no : ∀ (j : Nat) (e : Dn), j < i → kk[j]? = some e → e.num ≠ n) : placeD kk n = some i := by
  unfold placeD
  rw [List.findIdx?_eq_some_iff_getElem]
  obtain ⟨hi, e⟩ := List.getElem?_eq_some_iff.mp h
  refine ⟨hi, by rw [e]; exact decide_eq_true hd, fun j hj => ?_⟩
  have := no j _ hj (List.getElem?_eq_getElem (Nat.lt_trans hj hi))
  rw [decide_eq_false this]
  decide
theorem place_none {kk : List Dn} {n : Int} (no : ∀ (j : Nat) (e : Dn), kk[j]? = some e → e.num ≠ n) : placeD kk n = none := by
  unfold placeD
  rw [List.findIdx?_eq_none_iff]
  intro d hd
  obtain ⟨j, hj, e⟩ := List.getElem_of_mem hd
  exact decide_eq_false (no j d (by rw [← e]; exact List.getElem?_eq_getElem hj))
section
variable {P : Program} {w : World} {K : PySem.W.Frag} {mg : Str → Option Value} {base : Heap} {C : Ad}
theorem sc_place_among : FnScope ["nodes", "number", "index", "node"] ["nodes", "number"] (defScope s_place_among) := ⟨rfl, rfl, rfl, by decide +kernel, rfl, by decide +kernel, by decide +kernel⟩
theorem ok_place (T : Txt K w mg C) : Cal P w K mg base 1 "place_among" spPlace := by
  refine cal_of T.d_place_among sc_place_among (fun vs H Q E h => ?_) (fun f cdv A outer s H vs Q E hr h => ?_)
  · obtain ⟨a, xs, kk, n, rfl, _⟩ := h
    rfl
  · obtain ⟨a, xs, kk, n, rfl, ha, hxs, q0, q1⟩ := h
    have xl := hxs.len
    refine ⟨_, (pss_cons (ps_for PassesOwn.never rfl (pi_enumT (by rfl) T.z_enumerate (pa_cons (pv 0) pa_nil)) (pg_tup rfl (pgs_cons (pg_name (i := 2) sc_place_among.nd rfl (Or.inl rfl)) (pgs_cons (pg_name (i := 3) sc_place_among.nd rfl (Or.inl rfl)) pgs_nil))) (pss_one (ps_if (pt_cmpR op_eq (pe_ix ix_tup (pv 3) pe_int (fun _ _ => rfl)) (pv 1) (nomark _)) (pss_one (ps_ret (pv 2))) pss_nil))) (pss_one (ps_ret pe_non))), ?_⟩
    refine ⟨_, rfl, a, _, rfl, SqT.of ha, ?_⟩
    refine for_it (walk_enumT (K := K) (a := a) (xs := xs)) (fun j σ H' => Same H H' ∧ (∃ y2 y3, σ = [some (.ref a), some (.int n), y2, y3]) ∧ ∀ (i : Nat) (e : Dn), i < j → kk[i]? = some e → e.num ≠ n) ⟨Same.refl _, ⟨_, _, rfl⟩, fun i _ h => absurd h (Nat.not_lt_zero _)⟩ (fun j σ H' _ z => SqT.of (z.1 _ _ ha)) ?_ ?_
    · rintro j v σ H2 H3 hj ⟨s2, ⟨y2, y3, rfl⟩, no⟩ ⟨T0, x, y, rfl, hT, rfl, hy1, hy2⟩
      cases hy1
      obtain ⟨d, hd, hyd⟩ := hxs.get' hy2
      obtain ⟨b, ys, rfl, hb⟩ := hyd.at
      have s3 := Same.trans s2 (Sm.new (o := .tup [V.int (j : Int), .ref b]) hT)
      refine ⟨_, _, rfl, SqT.of upd_same, rfl, _, _, rfl, _, _, rfl, rfl, ?_⟩
      refine ⟨_, rfl, b, _, _, _, rfl, rfl, SqT.of (s3 _ _ hb), at_1, _, rfl, rfl, _, rfl, ite2 (fun c => ?_) (fun c => ?_)⟩
      · have e : d.num = n := by
          have := of_decide_eq_true c
          injection this
        exact ⟨_, rfl, q1 j _ (place_some hd e no) s3⟩
      · have e : d.num ≠ n := fun z => c (decide_eq_true (by rw [z]))
        refine ⟨s3, ⟨_, _, rfl⟩, fun i e' hi he => ?_⟩
        rcases Nat.lt_succ_iff_lt_or_eq.mp hi with hi | rfl
        · exact no i e' hi he
        · rw [hd] at he
          cases he
          exact e
    · rintro σ H2 ⟨s2, ⟨y2, y3, rfl⟩, no⟩
      exact q0 (place_none fun j e h => no j e (by rw [xl]; exact (List.getElem?_eq_some_iff.mp h).1) h) H2 s2
theorem sc_is_place : FnScope ["nodes", "ahead"] ["nodes", "ahead"] (defScope s_is_place) := ⟨rfl, rfl, rfl, by decide +kernel, rfl, by decide +kernel, by decide +kernel⟩
theorem ok_isPl (T : Txt K w mg C) : Cal P w K mg base 2 "is_place" spIsPl := by
  have Gplace_among := ok_place (P := P) (base := base) T
  refine cal_of T.d_is_place sc_is_place (fun vs H Q E h => ?_) (fun f cdv A outer s H vs Q E hr h => ?_)
  · obtain ⟨a, xs, kk, ah, rfl, _⟩ := h
    rfl
  · obtain ⟨a, xs, kk, ah, rfl, ha, hxs, q⟩ := h
    refine ⟨_, (pss_one (ps_ret (pe_or (pe_cmp (pc_isN (pv 1))) (pe_one (pe_cmp (pc_notN (pe_c Gplace_among hr (by decide) (by rfl) (pa_cons (pv 0) (pa_cons (pv 1) pa_nil))))))))), ?_⟩
    cases ah with
    | none => exact ⟨_, rfl, true, rfl, iteT (q H (Same.refl _))⟩
    | some m =>
      refine ⟨_, rfl, false, rfl, iteF ?_⟩
      refine ⟨_, rfl, _, rfl, a, xs, kk, m, rfl, ha, hxs, fun e H1 s1 => ?_, fun i H1 e s1 => ?_⟩
      · have : isPl kk (some m) = false := by
          show (placeD kk m).isSome = false
          rw [e]
          rfl
        rw [this] at q
        exact q H1 s1
      · have : isPl kk (some m) = true := by
          show (placeD kk m).isSome = true
          rw [e]
          rfl
        rw [this] at q
        exact q H1 s1
theorem sc_level_of : FnScope ["document", "number", "level", "node"] ["document", "number"] (defScope s_level_of) := ⟨rfl, rfl, rfl, by decide +kernel, rfl, by decide +kernel, by decide +kernel⟩
theorem ok_level (T : Txt K w mg C) : Cal P w K mg base 6 "level_of" spLevel := by
  have Gwalk := ok_walk (P := P) (base := base) T
  refine cal_of T.d_level_of sc_level_of (fun vs H Q E h => ?_) (fun f cdv A outer s H vs Q E hr h => ?_)
  · obtain ⟨v, ks, n, rfl, _⟩ := h
    rfl
  · obtain ⟨v, ks, n, rfl, ⟨a, xs, rfl, ha, hn, hN⟩, q⟩ := h
    refine ⟨_, (pss_cons (VG.ps_forG rfl hr.hd Gwalk hr (by decide) (by rfl) (pa_cons (pv 0) pa_nil) (pg_tup rfl (pgs_cons (pg_name (i := 2) sc_level_of.nd rfl (Or.inl rfl)) (pgs_cons (pg_name (i := 3) sc_level_of.nd rfl (Or.inl rfl)) pgs_nil))) (pss_one (ps_if (pt_cmpR op_eq (pe_ix ix_tup (pv 3) pe_int (fun _ _ => rfl)) (pv 1) (nomark _)) (pss_one (ps_ret (pv 2))) pss_nil))) (pss_one (ps_ret pe_int))), ?_⟩
    refine ⟨_, rfl, _, _, _, _, ⟨a, xs, ks, _, rfl, Same.refl _, ha, hn, hN, rfl, rfl, rfl, rfl⟩, fun L hL => ?_⟩
    refine ⟨fun i σp σ H' => Same H (VG.drop L H') ∧ (∃ y2 y3, σ = [some (.ref a), some (.int n), y2, y3]) ∧ ∀ j p, j < i → (itS 1 ks)[j]? = some p → p.2.num ≠ n, fun Hf σp z => ?_, ?_, ?_⟩
    · exact ⟨by rw [VG.drop_fz z hL]; exact Same.refl _, ⟨_, _, rfl⟩, fun j p hj => absurd hj (Nat.not_lt_zero _)⟩
    · rintro i σp σ H1 x Ho Hf σg ⟨s1, ⟨y2, y3, rfl⟩, no⟩ fr ⟨hi, wl, t, u, lv, d, rfl, ht, hu, hid, kb, w0, g2, p2, i0, sm⟩ hz fz hn0
      have ed := VG.drop_fz fz hn0
      have sf := fz_same fz hn0
      obtain ⟨b, ys, rfl, hb⟩ := hu.at
      have hbf := sf _ _ (sm _ _ hb)
      refine ⟨t, [.int lv, .ref b], rfl, SqT.of (sf _ _ ht), rfl, _, _, rfl, _, _, rfl, rfl, ?_⟩
      refine ⟨_, rfl, _, _, _, _, rfl, rfl, SqT.of hbf, at_1, _, rfl, rfl, _, rfl, ite2 (fun c => ?_) (fun c => ?_)⟩
      · have c' : d.num = n := by
          have := of_decide_eq_true c
          cases this
          rfl
        have e : findD ks n = some (lv, d) := by
          rw [findD, List.find?_eq_some_iff_getElem]
          refine ⟨decide_eq_true c', i, hi, (List.getElem?_eq_some_iff.mp hid).2, fun j hj => ?_⟩
          rw [decide_eq_false (no j _ hj (List.getElem?_eq_getElem (Nat.lt_trans hj hi)))]
          rfl
        unfold levD at q
        rw [e] at q
        exact ⟨_, rfl, q Hf (Same.trans sm sf)⟩
      · have c' : d.num ≠ n := fun z => c (decide_eq_true (by rw [z]))
        exact ⟨fun _ _ => rfl, by rw [ed]; exact hz, by rw [ed]; exact sm, ⟨_, _, rfl⟩, fun j p hj hp => by
          rcases Nat.lt_succ_iff_lt_or_eq.mp hj with hj | rfl
          · exact no j p hj hp
          · rw [hid] at hp
            cases hp
            exact c'⟩
    · rintro i σp σ H1 Ho ⟨s1, ⟨y2, y3, rfl⟩, no⟩ fr ⟨hi, wl, kb, w0, p2, i0, sm⟩ hn0
      have e : findD ks n = none := by
        rw [findD, List.find?_eq_none]
        intro p hp c
        obtain ⟨j, hj, rfl⟩ := List.getElem_of_mem hp
        exact no j _ (by omega) (List.getElem?_eq_getElem hj) (of_decide_eq_true c)
      unfold levD at q
      rw [e] at q
      exact q Ho sm
end
end VL

set_option Elab.async false
set_option linter.all false
set_option pp.maxSteps 700
set_option maxRecDepth 100000
set_option maxHeartbeats 4000000
namespace VL
open PySem PySem.Spec PyProof.Rows L2
mutual
theorem hgt_N (l : Int) : ∀ d : Dn, (∀ p ∈ it l d, p.1 ≤ l + hN d - 1) ∧ ∃ p ∈ it l d, p.1 = l + hN d - 1
  | .tx n x => by
    simp only [it, hN, List.mem_singleton]
    refine ⟨fun p hp => by rw [hp]; omega, _, rfl, by omega⟩
  | .el n t as ks => by
    have h := hgt_S (l + 1) ks
    simp only [it, hN, List.mem_cons]
    refine ⟨fun p hp => ?_, ?_⟩
    · rcases hp with rfl | hp
      · show l ≤ _
        omega
      · have := h.1 p hp
        omega
    · by_cases hk : ks = []
      · subst hk
        refine ⟨_, .inl rfl, ?_⟩
        show l = _
        simp only [hS]
        omega
      · obtain ⟨p, hp, e⟩ := h.2 hk
        exact ⟨p, .inr hp, by omega⟩
theorem hgt_S (l : Int) : ∀ ks : List Dn, (∀ p ∈ itS l ks, p.1 ≤ l + hS ks - 1) ∧ (ks ≠ [] → ∃ p ∈ itS l ks, p.1 = l + hS ks - 1)
  | [] => ⟨fun p hp => by simp [itS] at hp, fun h => absurd rfl h⟩
  | d :: r => by
    have h1 := hgt_N l d
    have h2 := hgt_S l r
    simp only [itS, hS, List.mem_append]
    refine ⟨fun p hp => ?_, fun _ => ?_⟩
    · rcases hp with hp | hp
      · have := h1.1 p hp
        omega
      · have := h2.1 p hp
        omega
    · by_cases c : hS r ≤ hN d
      · obtain ⟨p, hp, e⟩ := h1.2
        exact ⟨p, .inl hp, by omega⟩
      · have hr : r ≠ [] := fun z => by
          rw [z] at c
          simp [hS] at c
        obtain ⟨p, hp, e⟩ := h2.2 hr
        exact ⟨p, .inr hp, by omega⟩
end
def kidsD (ks : List Dn) (n : Int) : Option (List Dn) := if n = 0 then some ks else match findD ks n with
  | some (_, .el _ _ _ kk) => some kk
  | _ => none
theorem kid_of {H : Hp} {v u : V} {ks : List Dn} {n : Int} (hD : DocA H v ks) (h : KidA H v u ks n) : (kidsD ks n = none ∧ u = .non) ∨ ∃ kk pk xs, kidsD ks n = some kk ∧ u = .ref pk ∧ H pk = some (.tup xs) ∧ NdAs H xs kk := by
  unfold KidA at h
  unfold kidsD
  by_cases c : n = 0
  · rw [if_pos c] at h ⊢
    obtain ⟨a, xs, e, h1, h2, _⟩ := hD
    exact .inr ⟨ks, a, xs, rfl, by rw [h, e], h1, h2⟩
  · rw [if_neg c] at h ⊢
    cases e : findD ks n with
    | none =>
      rw [e] at h
      exact .inl ⟨rfl, h⟩
    | some p =>
      rw [e] at h
      obtain ⟨lv, d⟩ := p
      cases d with
      | tx m y => exact .inl ⟨rfl, h⟩
      | el m tg as kk =>
        obtain ⟨pk, xs, e1, e2, e3⟩ := h
        exact .inr ⟨kk, pk, xs, rfl, e1, e2, e3⟩
inductive OpD where
  | rem (p n : Int)
  | ins (p : Int) (d : Dn) (ah : Option Int)
  | mov (p n : Int) (ah : Option Int)
  | txt (n : Int) (x : Str)
  | set (n : Int) (k x : Str)
  | uns (n : Int) (k : Str)
def wordD : OpD → Str
  | .rem _ _ => "remove"
  | .ins _ _ _ => "insert"
  | .mov _ _ _ => "move"
  | .txt _ _ => "text"
  | .set _ _ _ => "set"
  | .uns _ _ => "unset"
inductive OpA (H : Hp) : V → OpD → Prop
  | rem {a : Addr} {p n : Int} : H a = some (.tup [.str "remove", .int p, .int n]) → OpA H (.ref a) (.rem p n)
  | ins {a : Addr} {p : Int} {u : V} {d : Dn} {ah : Option Int} : H a = some (.tup [.str "insert", .int p, u, intV ah]) → NdA H u d → OpA H (.ref a) (.ins p d ah)
  | mov {a : Addr} {p n : Int} {ah : Option Int} : H a = some (.tup [.str "move", .int p, .int n, intV ah]) → OpA H (.ref a) (.mov p n ah)
  | txt {a : Addr} {n : Int} {x : Str} : H a = some (.tup [.str "text", .int n, .str x]) → OpA H (.ref a) (.txt n x)
  | set {a : Addr} {n : Int} {k x : Str} : H a = some (.tup [.str "set", .int n, .str k, .str x]) → OpA H (.ref a) (.set n k x)
  | uns {a : Addr} {n : Int} {k : Str} : H a = some (.tup [.str "unset", .int n, .str k]) → OpA H (.ref a) (.uns n k)
theorem OpA.same {H H' : Hp} {v : V} {o : OpD} (h : OpA H v o) (s : Same H H') : OpA H' v o := by
  cases h with
  | rem h => exact .rem (s _ _ h)
  | ins h hd => exact .ins (s _ _ h) (hd.same s)
  | mov h => exact .mov (s _ _ h)
  | txt h => exact .txt (s _ _ h)
  | set h => exact .set (s _ _ h)
  | uns h => exact .uns (s _ _ h)
/-- the fault of an operation -/
def faultD (ks : List Dn) : OpD → Option Str
  | .rem p n => match kidsD ks p with
    | none => some ("no such element" : Str)
    | some kk => if (placeD kk n).isSome = true then none else some ("no such kid" : Str)
  | .ins p d ah => match kidsD ks p with
    | none => some ("no such element" : Str)
    | some kk => if (numN d).any (fun n => decide (n ∈ numS ks)) = true then some ("id in use" : Str) else if isPl kk ah = true then (if levD ks p + hN d > 40 then some ("nested too deep" : Str) else none) else some ("no such kid" : Str)
  | .mov p n ah => match kidsD ks p with
    | none => some ("no such element" : Str)
    | some kk => if (placeD kk n).isSome = true ∧ ah ≠ some n ∧ isPl kk ah = true then none else some ("no such kid" : Str)
  | .txt n _ => match findD ks n with
    | some (_, .tx _ _) => none
    | _ => some ("no such text" : Str)
  | .set n _ _ => match findD ks n with
    | some (_, .el _ _ _ _) => none
    | _ => some ("no such element" : Str)
  | .uns n k => match findD ks n with
    | some (_, .el _ _ as _) => if k ∈ as.map (·.1) then none else some ("no such attribute" : Str)
    | _ => some ("no such element" : Str)
def fV : Option Str → V
  | none => .non
  | some x => .str x
def spF (c : Str) : Sp := fun vs H Q _ => ∃ (v u : V) (ks : List Dn) (o : OpD), vs = [v, u] ∧ DocA H v ks ∧ OpA H u o ∧ wordD o = c ∧ (∀ p d ah, o = .ins p d ah → (numN d).length ≤ 100) ∧ (∀ p ∈ itS 1 ks, (namD p.2).length ≤ 100) ∧ ∀ H', Same H H' → Q (fV (faultD ks o)) H'
section
variable {P : Program} {w : World} {K : PySem.W.Frag} {mg : Str → Option Value} {base : Heap} {C : Ad}
theorem sc_remove_fault : FnScope ["document", "operation", "_", "parent", "number", "kids"] ["document", "operation"] (defScope s_remove_fault) := ⟨rfl, rfl, rfl, by decide +kernel, rfl, by decide +kernel, by decide +kernel⟩
theorem ok_fRem (T : Txt K w mg C) : Cal P w K mg base 8 "remove_fault" (spF "remove") := by
  have Gkids_of := ok_kidsOf (P := P) (base := base) T
  have Gplace_among := ok_place (P := P) (base := base) T
  refine cal_of T.d_remove_fault sc_remove_fault (fun vs H Q E h => ?_) (fun f cdv A outer s H vs Q E hr h => ?_)
  · obtain ⟨v, u, ks, o, rfl, _⟩ := h
    rfl
  · obtain ⟨v, u, ks, o, rfl, hD, ho, hw, _, _, q⟩ := h
    cases ho with
    | @rem a p n h1 =>
      refine ⟨_, (pss_cons (ps_asg (pv 1) (pg_tup rfl (pgs_cons (pg_name (i := 2) sc_remove_fault.nd rfl (Or.inl rfl)) (pgs_cons (pg_name (i := 3) sc_remove_fault.nd rfl (Or.inl rfl)) (pgs_cons (pg_name (i := 4) sc_remove_fault.nd rfl (Or.inl rfl)) pgs_nil))))) (pss_cons (ps_set (i := 5) sc_remove_fault.nd rfl (Or.inl rfl) (pe_c Gkids_of hr (by decide) (by rfl) (pa_cons (pv 0) (pa_cons (pv 3) pa_nil)))) (pss_cons (ps_if (pt_cmp (pc_isN (pv 5))) (pss_one (ps_ret pe_str)) pss_nil) (pss_cons (ps_if (pt_cmp (pc_isN (pe_c Gplace_among hr (by decide) (by rfl) (pa_cons (pv 5) (pa_cons (pv 4) pa_nil))))) (pss_one (ps_ret pe_str)) pss_nil) (pss_one (ps_ret pe_non)))))), ?_⟩
      refine ⟨_, rfl, _, _, rfl, SqT.of h1, rfl, _, _, rfl, _, _, rfl, _, _, rfl, rfl, ?_⟩
      refine ⟨_, rfl, _, rfl, v, ks, p, rfl, hD, fun u H1 s1 hk => ?_⟩
      rcases kid_of hD hk with ⟨e, rfl⟩ | ⟨kk, pk, xs, e, rfl, h2, h3⟩
      · refine ⟨_, rfl, true, rfl, iteT ?_⟩
        have : faultD ks (.rem p n) = some ("no such element" : Str) := by simp only [faultD, e]
        rw [this] at q
        exact q H1 s1
      · refine ⟨_, rfl, false, rfl, iteF ?_⟩
        refine ⟨_, rfl, _, rfl, pk, xs, kk, n, rfl, s1 _ _ h2, h3.same s1, fun ep H2 s2 => ⟨true, rfl, iteT ?_⟩, fun i H2 ep s2 => ⟨false, rfl, iteF ?_⟩⟩
        · have : faultD ks (.rem p n) = some ("no such kid" : Str) := by simp [faultD, e, ep]
          rw [this] at q
          exact q H2 (Same.trans s1 s2)
        · have : faultD ks (.rem p n) = none := by simp [faultD, e, ep]
          rw [this] at q
          exact q H2 (Same.trans s1 s2)
    | ins h1 h2 => exact absurd (show ("insert" : Str) = "remove" from hw) (by decide)
    | mov h1 => exact absurd (show ("move" : Str) = "remove" from hw) (by decide)
    | txt h1 => exact absurd (show ("text" : Str) = "remove" from hw) (by decide)
    | set h1 => exact absurd (show ("set" : Str) = "remove" from hw) (by decide)
    | uns h1 => exact absurd (show ("unset" : Str) = "remove" from hw) (by decide)
theorem sc_text_fault : FnScope ["document", "operation", "node"] ["document", "operation"] (defScope s_text_fault) := ⟨rfl, rfl, rfl, by decide +kernel, rfl, by decide +kernel, by decide +kernel⟩
theorem ok_fTxt (T : Txt K w mg C) : Cal P w K mg base 8 "text_fault" (spF "text") := by
  have Gfind_node := ok_find (P := P) (base := base) T
  refine cal_of T.d_text_fault sc_text_fault (fun vs H Q E h => ?_) (fun f cdv A outer s H vs Q E hr h => ?_)
  · obtain ⟨v, u, ks, o, rfl, _⟩ := h
    rfl
  · obtain ⟨v, u, ks, o, rfl, hD, ho, hw, _, _, q⟩ := h
    cases ho with
    | @txt a n x h1 =>
      have hm : ∀ {e0}, findD ks n = e0 → faultD ks (.txt n x) = (match e0 with
        | some (_, .tx _ _) => none
        | _ => some ("no such text" : Str)) := fun {e0} h => by subst h; rfl
      refine ⟨_, (pss_cons (ps_set (i := 2) sc_text_fault.nd rfl (Or.inl rfl) (pe_c Gfind_node hr (by decide) (by rfl) (pa_cons (pv 0) (pa_cons (pe_ix ix_tup (pv 1) pe_int (fun _ _ => rfl)) pa_nil)))) (pss_cons (ps_if (PW.pt (pw_or (pt_cmp (pc_isN (pv 2))) (pw_or1 (pt_cmpR op_ne (pe_ix ix_tup (pv 2) pe_int (fun _ _ => rfl)) pe_str (nomark _))))) (pss_one (ps_ret pe_str)) pss_nil) (pss_one (ps_ret pe_non)))), ?_⟩
      refine ⟨_, rfl, _, rfl, a, _, _, _, rfl, rfl, SqT.of h1, at_1, v, ks, n, rfl, hD, fun e0 H1 s1 => ?_, fun p' u' H1 e0 hu s1 => ?_⟩
      · rw [hm e0] at q
        exact ⟨_, rfl, true, rfl, iteT (iteT (q H1 s1))⟩
      · obtain ⟨lv, d⟩ := p'
        rw [hm e0] at q
        cases hu with
        | @tx b m y h2 => exact ⟨_, rfl, false, rfl, iteF ⟨_, rfl, b, _, _, _, rfl, rfl, SqT.of (s1 _ _ h2), at_0, rfl, _, rfl, iteF (q H1 s1)⟩⟩
        | @el b pk m tg va as vs kk h2 hA' hk hs => exact ⟨_, rfl, false, rfl, iteF ⟨_, rfl, b, _, _, _, rfl, rfl, SqT.of (s1 _ _ h2), at_0, rfl, _, rfl, iteT (q H1 s1)⟩⟩
    | rem h1 => exact absurd (show ("remove" : Str) = "text" from hw) (by decide)
    | ins h1 h2 => exact absurd (show ("insert" : Str) = "text" from hw) (by decide)
    | mov h1 => exact absurd (show ("move" : Str) = "text" from hw) (by decide)
    | set h1 => exact absurd (show ("set" : Str) = "text" from hw) (by decide)
    | uns h1 => exact absurd (show ("unset" : Str) = "text" from hw) (by decide)
theorem sc_set_fault : FnScope ["document", "operation", "node"] ["document", "operation"] (defScope s_set_fault) := ⟨rfl, rfl, rfl, by decide +kernel, rfl, by decide +kernel, by decide +kernel⟩
theorem ok_fSet (T : Txt K w mg C) : Cal P w K mg base 8 "set_fault" (spF "set") := by
  have Gfind_node := ok_find (P := P) (base := base) T
  refine cal_of T.d_set_fault sc_set_fault (fun vs H Q E h => ?_) (fun f cdv A outer s H vs Q E hr h => ?_)
  · obtain ⟨v, u, ks, o, rfl, _⟩ := h
    rfl
  · obtain ⟨v, u, ks, o, rfl, hD, ho, hw, _, _, q⟩ := h
    cases ho with
    | @set a n k x h1 =>
      have hm : ∀ {e0}, findD ks n = e0 → faultD ks (.set n k x) = (match e0 with
        | some (_, .el _ _ _ _) => none
        | _ => some ("no such element" : Str)) := fun {e0} h => by subst h; rfl
      refine ⟨_, (pss_cons (ps_set (i := 2) sc_set_fault.nd rfl (Or.inl rfl) (pe_c Gfind_node hr (by decide) (by rfl) (pa_cons (pv 0) (pa_cons (pe_ix ix_tup (pv 1) pe_int (fun _ _ => rfl)) pa_nil)))) (pss_cons (ps_if (PW.pt (pw_or (pt_cmp (pc_isN (pv 2))) (pw_or1 (pt_cmpR op_ne (pe_ix ix_tup (pv 2) pe_int (fun _ _ => rfl)) pe_str (nomark _))))) (pss_one (ps_ret pe_str)) pss_nil) (pss_one (ps_ret pe_non)))), ?_⟩
      refine ⟨_, rfl, _, rfl, a, _, _, _, rfl, rfl, SqT.of h1, at_1, v, ks, n, rfl, hD, fun e0 H1 s1 => ?_, fun p' u' H1 e0 hu s1 => ?_⟩
      · rw [hm e0] at q
        exact ⟨_, rfl, true, rfl, iteT (iteT (q H1 s1))⟩
      · obtain ⟨lv, d⟩ := p'
        rw [hm e0] at q
        cases hu with
        | @tx b m y h2 => exact ⟨_, rfl, false, rfl, iteF ⟨_, rfl, b, _, _, _, rfl, rfl, SqT.of (s1 _ _ h2), at_0, rfl, _, rfl, iteT (q H1 s1)⟩⟩
        | @el b pk m tg va as vs kk h2 hA' hk hs => exact ⟨_, rfl, false, rfl, iteF ⟨_, rfl, b, _, _, _, rfl, rfl, SqT.of (s1 _ _ h2), at_0, rfl, _, rfl, iteF (q H1 s1)⟩⟩
    | rem h1 => exact absurd (show ("remove" : Str) = "set" from hw) (by decide)
    | ins h1 h2 => exact absurd (show ("insert" : Str) = "set" from hw) (by decide)
    | mov h1 => exact absurd (show ("move" : Str) = "set" from hw) (by decide)
    | txt h1 => exact absurd (show ("text" : Str) = "set" from hw) (by decide)
    | uns h1 => exact absurd (show ("unset" : Str) = "set" from hw) (by decide)
end
end VL

set_option Elab.async false
set_option linter.all false
set_option pp.maxSteps 700
set_option maxRecDepth 100000
set_option maxHeartbeats 4000000
namespace VL
open PySem PySem.Spec PyProof.Rows L2
section
variable {P : Program} {w : World} {K : PySem.W.Frag} {mg : Str → Option Value} {base : Heap} {C : Ad}
theorem sc_move_fault : FnScope ["document", "operation", "_", "parent", "number", "ahead", "kids"] ["document", "operation"] (defScope s_move_fault) := ⟨rfl, rfl, rfl, by decide +kernel, rfl, by decide +kernel, by decide +kernel⟩
theorem ok_fMov (T : Txt K w mg C) : Cal P w K mg base 8 "move_fault" (spF "move") := by
  have Gkids_of := ok_kidsOf (P := P) (base := base) T
  have Gplace_among := ok_place (P := P) (base := base) T
  have Gis_place := ok_isPl (P := P) (base := base) T
  refine cal_of T.d_move_fault sc_move_fault (fun vs H Q E h => ?_) (fun f cdv A outer s H vs Q E hr h => ?_)
  · obtain ⟨v, u, ks, o, rfl, _⟩ := h
    rfl
  · obtain ⟨v, u, ks, o, rfl, hD, ho, hw, _, _, q⟩ := h
    cases ho with
    | @mov a p n ah h1 =>
      refine ⟨_, (pss_cons (ps_asg (pv 1) (pg_tup rfl (pgs_cons (pg_name (i := 2) sc_move_fault.nd rfl (Or.inl rfl)) (pgs_cons (pg_name (i := 3) sc_move_fault.nd rfl (Or.inl rfl)) (pgs_cons (pg_name (i := 4) sc_move_fault.nd rfl (Or.inl rfl)) (pgs_cons (pg_name (i := 5) sc_move_fault.nd rfl (Or.inl rfl)) pgs_nil)))))) (pss_cons (ps_set (i := 6) sc_move_fault.nd rfl (Or.inl rfl) (pe_c Gkids_of hr (by decide) (by rfl) (pa_cons (pv 0) (pa_cons (pv 3) pa_nil)))) (pss_cons (ps_if (pt_cmp (pc_isN (pv 6))) (pss_one (ps_ret pe_str)) pss_nil) (pss_cons (ps_if (PW.pt (pw_or (pt_cmp (pc_isN (pe_c Gplace_among hr (by decide) (by rfl) (pa_cons (pv 6) (pa_cons (pv 4) pa_nil))))) (pw_or (pt_cmpR op_eq (pv 5) (pv 4) (nomark _)) (pw_or1 (pt_not (pt_val (pe_c Gis_place hr (by decide) (by rfl) (pa_cons (pv 6) (pa_cons (pv 5) pa_nil))))))))) (pss_one (ps_ret pe_str)) pss_nil) (pss_one (ps_ret pe_non)))))), ?_⟩
      refine ⟨_, rfl, _, _, rfl, SqT.of h1, rfl, _, _, rfl, _, _, rfl, _, _, rfl, _, _, rfl, rfl, ?_⟩
      refine ⟨_, rfl, _, rfl, v, ks, p, rfl, hD, fun u H1 s1 hk => ?_⟩
      rcases kid_of hD hk with ⟨e, rfl⟩ | ⟨kk, pk, xs, e, rfl, h2, h3⟩
      · refine ⟨_, rfl, true, rfl, iteT ?_⟩
        have : faultD ks (.mov p n ah) = some ("no such element" : Str) := by simp only [faultD, e]
        rw [this] at q
        exact q H1 s1
      · refine ⟨_, rfl, false, rfl, iteF ?_⟩
        have bad : ∀ H', Same H1 H' → ¬ ((placeD kk n).isSome = true ∧ ah ≠ some n ∧ isPl kk ah = true) → Q (.str "no such kid") H' := fun H' s' hn => by
          have : faultD ks (.mov p n ah) = some ("no such kid" : Str) := by
            simp only [faultD, e]
            rw [if_neg hn]
          rw [this] at q
          exact q H' (Same.trans s1 s')
        refine ⟨_, rfl, _, rfl, pk, xs, kk, n, rfl, s1 _ _ h2, h3.same s1, fun ep H2 s2 => ⟨true, rfl, iteT (iteT (bad H2 s2 fun z => by rw [ep] at z; exact absurd z.1 (by decide)))⟩, fun i H2 ep s2 => ⟨false, rfl, iteF ?_⟩⟩
        have sc : scal (intV ah) (.int n) = true := by cases ah <;> rfl
        refine ⟨_, rfl, _, rfl, sc, _, rfl, ite2 (fun c => iteT (bad H2 s2 fun z => z.2.1 ?_)) (fun c => ?_)⟩
        · have c := of_decide_eq_true c
          cases ah with
          | none => cases c
          | some m =>
            have c : V.int m = V.int n := c
            rw [V.int.inj c]
        have na : ah ≠ some n := fun z => c (decide_eq_true (by rw [z]; rfl))
        refine ⟨_, rfl, _, rfl, pk, xs, kk, ah, rfl, s2 _ _ (s1 _ _ h2), (h3.same s1).same s2, fun H3 s3 => ⟨_, rfl, ?_⟩⟩
        cases hp : isPl kk ah with
        | false => exact iteT (bad H3 (Same.trans s2 s3) fun z => by rw [hp] at z; exact absurd z.2.2 (by decide))
        | true =>
          have : faultD ks (.mov p n ah) = none := by
            simp only [faultD, e]
            rw [if_pos ⟨by rw [ep]; rfl, na, hp⟩]
          rw [this] at q
          exact iteF (q H3 (Same.trans s1 (Same.trans s2 s3)))
    | rem h1 => exact absurd (show ("remove" : Str) = "move" from hw) (by decide)
    | ins h1 h2 => exact absurd (show ("insert" : Str) = "move" from hw) (by decide)
    | txt h1 => exact absurd (show ("text" : Str) = "move" from hw) (by decide)
    | set h1 => exact absurd (show ("set" : Str) = "move" from hw) (by decide)
    | uns h1 => exact absurd (show ("unset" : Str) = "move" from hw) (by decide)
theorem sc_unset_fault : FnScope ["document", "operation", "_", "number", "name", "node", "other"] ["document", "operation"] (defScope s_unset_fault) := ⟨rfl, rfl, rfl, by decide +kernel, rfl, by decide +kernel, by decide +kernel⟩
theorem ok_fUns (T : Txt K w mg C) : Cal P w K mg base 8 "unset_fault" (spF "unset") := by
  have Gfind_node := ok_find (P := P) (base := base) T
  refine cal_of T.d_unset_fault sc_unset_fault (fun vs H Q E h => ?_) (fun f cdv A outer s H vs Q E hr h => ?_)
  · obtain ⟨v, u, ks, o, rfl, _⟩ := h
    rfl
  · obtain ⟨v, u, ks, o, rfl, hD, ho, hw, _, nl, q⟩ := h
    cases ho with
    | @uns a n k h1 =>
      refine ⟨_, (pss_cons (ps_asg (pv 1) (pg_tup rfl (pgs_cons (pg_name (i := 2) sc_unset_fault.nd rfl (Or.inl rfl)) (pgs_cons (pg_name (i := 3) sc_unset_fault.nd rfl (Or.inl rfl)) (pgs_cons (pg_name (i := 4) sc_unset_fault.nd rfl (Or.inr rfl)) pgs_nil))))) (pss_cons (ps_set (i := 5) sc_unset_fault.nd rfl (Or.inl rfl) (pe_c Gfind_node hr (by decide) (by rfl) (pa_cons (pv 0) (pa_cons (pv 3) pa_nil)))) (pss_cons (ps_if (PW.pt (pw_or (pt_cmp (pc_isN (pv 5))) (pw_or1 (pt_cmpR op_ne (pe_ix ix_tup (pv 5) pe_int (fun _ _ => rfl)) pe_str (nomark _))))) (pss_one (ps_ret pe_str)) pss_nil) (pss_cons (ps_if (pt_not (pt_val (pe_callB (cr_any rfl) (by rfl) T.z_any (by decide +kernel) (pa_cons (pe_lc (own := [("other", 6), ("_", 2)]) (g := gTup K 2 (gCons (gName 6) (gCons (gName 2) (gNil)))) (tt := tYes) rfl sc_unset_fault.nd (pi_tup (pe_ix ix_tup (pv 5) pe_int (fun _ _ => rfl))) (blkOk_by (N := ["document", "operation", "_", "number", "name", "node", "other"]) (sc := (defScope s_unset_fault)) (by decide +kernel)) (fun _ _ _ _ _ => pg_tupS (K := K) rfl rfl (pgs_cons (pg_name (i := 6) sc_unset_fault.nd rfl (Or.inl rfl)) (pgs_cons (pg_name (i := 2) sc_unset_fault.nd rfl (Or.inl rfl)) pgs_nil))) (fun _ _ _ _ _ => pts_nil) (fun _ _ _ _ _ => (pe_cmpR op_eq (pv 6) (pv 4) (nomark _)))) pa_nil)))) (pss_one (ps_ret pe_str)) pss_nil) (pss_one (ps_ret pe_non)))))), ?_⟩
      refine ⟨_, rfl, _, _, rfl, SqT.of h1, rfl, _, _, rfl, _, _, rfl, _, _, rfl, rfl, ?_⟩
      refine ⟨_, rfl, _, rfl, v, ks, n, rfl, hD, fun e0 H1 s1 => ?_, fun p' u' H1 e0 hu s1 => ?_⟩
      · have : faultD ks (.uns n k) = some ("no such element" : Str) := by simp only [faultD, e0]
        rw [this] at q
        exact ⟨_, rfl, true, rfl, iteT (iteT (q H1 s1))⟩
      · obtain ⟨lv, d⟩ := p'
        have pm : (lv, d) ∈ itS 1 ks := List.mem_of_find?_eq_some e0
        cases hu with
        | @tx b m y h2 =>
          have : faultD ks (.uns n k) = some ("no such element" : Str) := by simp only [faultD, e0]
          rw [this] at q
          exact ⟨_, rfl, false, rfl, iteF ⟨_, rfl, b, _, _, _, rfl, rfl, SqT.of (s1 _ _ h2), at_0, rfl, _, rfl, iteT (q H1 s1)⟩⟩
        | @el b pk m tg va as vs kk h2 hA' hk hs =>
          have hf : faultD ks (.uns n k) = if k ∈ as.map (·.1) then none else some ("no such attribute" : Str) := by simp only [faultD, e0]
          rw [hf] at q
          have al : (as.map (·.1)).length ≤ 100 := nl _ pm
          rw [List.length_map] at al
          obtain ⟨at_, ps, rfl, hsq, hps⟩ := (hA'.same s1).sq (K := K)
          have pl := Paired.length hps
          refine ⟨_, rfl, false, rfl, iteF ⟨_, rfl, b, _, _, _, rfl, rfl, SqT.of (s1 _ _ h2), at_0, rfl, _, rfl, iteF ?_⟩⟩
          refine ⟨_, rfl, b, _, _, _, rfl, rfl, SqT.of (s1 _ _ h2), rfl, at_, rfl, ⟨_, hsq⟩, fun D hD' => ?_⟩
          refine lc_it (walk_tup (K := K) (a := at_) (xs := ps.map V.ref)) (fun j H' => Same H1 H' ∧ H' D = some (.lst (((as.map fun x => decide (x.1 = k)).take j).map V.bl))) ⟨Sm.new hD', upd_same⟩ (fun j H' _ z => sq_same hsq z.1) ?_ ?_
          · rintro j x H4 H5 hj ⟨s4, h4⟩ ⟨rfl, hx⟩
            rw [List.getElem?_map] at hx
            obtain ⟨p, hp, rfl⟩ := Option.map_eq_some_iff.mp hx
            obtain ⟨y, hy, hpy⟩ := paired_get hps hp
            refine ⟨p, _, rfl, SqT.of (s4 _ _ hpy), rfl, _, _, rfl, _, _, rfl, rfl, rfl, ?_⟩
            refine ⟨_, rfl, _, rfl, rfl, ?_⟩
            rw [show decide (V.str y.1 = V.str k) = decide (y.1 = k) from decide_eq_decide.mpr ⟨fun z => V.str.inj z, fun z => by rw [z]⟩]
            refine ⟨_, h4, ?_, fun c o eo => ?_, ?_⟩
            · rw [List.length_map, List.length_take, List.length_map]
              exact Nat.lt_of_le_of_lt (show min j as.length ≤ 1000 by omega) (by decide)
            · rw [upd_ne (ne_of_none eo hD')]
              exact s4 _ _ eo
            · rw [upd_same, List.take_add_one, List.getElem?_map, hy, List.map_append]
              rfl
          · rintro H4 ⟨s4, h4⟩
            rw [List.take_of_length_le (by rw [List.length_map, List.length_map, pl]; exact Nat.le_refl _)] at h4
            refine ⟨D, _, rfl, SqL.of h4, _, rfl, ?_⟩
            have ea : (as.map fun x => decide (x.1 = k)).any id = decide (k ∈ as.map (·.1)) := by
              rw [Bool.eq_iff_iff, decide_eq_true_iff, List.any_eq_true, List.mem_map]
              constructor
              · rintro ⟨b, hb, h⟩
                obtain ⟨x, hx, rfl⟩ := List.mem_map.mp hb
                exact ⟨x, hx, of_decide_eq_true h⟩
              · rintro ⟨x, hx, h⟩
                exact ⟨true, List.mem_map.mpr ⟨x, hx, decide_eq_true h⟩, rfl⟩
            rw [ea]
            by_cases c : k ∈ as.map (·.1)
            · rw [if_pos c] at q
              rw [decide_eq_true c]
              exact iteF (q H4 (Same.trans s1 s4))
            · rw [if_neg c] at q
              rw [decide_eq_false c]
              exact iteT (q H4 (Same.trans s1 s4))
    | rem h1 => exact absurd (show ("remove" : Str) = "unset" from hw) (by decide)
    | ins h1 h2 => exact absurd (show ("insert" : Str) = "unset" from hw) (by decide)
    | mov h1 => exact absurd (show ("move" : Str) = "unset" from hw) (by decide)
    | txt h1 => exact absurd (show ("text" : Str) = "unset" from hw) (by decide)
    | set h1 => exact absurd (show ("set" : Str) = "unset" from hw) (by decide)
end
end VL

set_option Elab.async false
set_option linter.all false
set_option pp.maxSteps 700
set_option maxRecDepth 100000
set_option maxHeartbeats 4000000
namespace VL
open PySem PySem.Spec PyProof.Rows L2
section
variable {P : Program} {w : World} {K : PySem.W.Frag} {mg : Str → Option Value} {base : Heap} {C : Ad}
theorem sc_height_of : FnScope ["document", "level", "_"] ["document"] (defScope s_height_of) := ⟨rfl, rfl, rfl, by decide +kernel, rfl, by decide +kernel, by decide +kernel⟩
theorem ok_height (T : Txt K w mg C) : Cal P w K mg base 6 "height_of" spHeight := by
  have Gwalk := ok_walk (P := P) (base := base) T
  refine cal_of T.d_height_of sc_height_of (fun vs H Q E h => ?_) (fun f cdv A outer s H vs Q E hr h => ?_)
  · obtain ⟨v, ks, rfl, _⟩ := h
    rfl
  · obtain ⟨v, ks, rfl, ⟨a, xs, rfl, ha, hn, hN⟩, hne, q⟩ := h
    refine ⟨_, (pss_one (ps_ret (pe_callB (cr_max rfl) (by rfl) T.z_max (by decide +kernel) (pa_cons (VG.pe_lcG (own_ := [("level", 1), ("_", 2)]) (g := gTup K 2 (gCons (gName 1) (gCons (gName 2) (gNil)))) (tt := tYes) sc_height_of.nd hr.hd Gwalk hr (by decide) (by rfl) (pa_cons (pv 0) pa_nil) (blkOk_by (N := ["document", "level", "_"]) (sc := (defScope s_height_of)) (by decide +kernel)) (fun _ _ _ _ _ => pg_tupS (K := K) rfl rfl (pgs_cons (pg_name (i := 1) sc_height_of.nd rfl (Or.inl rfl)) (pgs_cons (pg_name (i := 2) sc_height_of.nd rfl (Or.inl rfl)) pgs_nil))) (fun _ _ _ _ _ => pts_nil) (fun _ _ _ _ _ => (pv 1))) pa_nil)))), ?_⟩
    refine ⟨_, rfl, _, _, _, _, ⟨a, xs, ks, _, rfl, Same.refl _, ha, hn, hN, rfl, rfl, rfl, rfl⟩, fun L D hL hDn hDL => ?_⟩
    refine ⟨fun i σp H' => Same H (VG.drop L H') ∧ VG.drop L H' D = some (.lst (((itS 1 ks).take i).map fun x => V.int x.1)) ∧ (0 < i → σp[2]? ≠ some (some (.ref D))), fun Hf σp z => ?_, ?_, ?_⟩
    · have n0 : ∀ b ∈ L, upd H D (.lst []) b = none := fun b hb => by
        rw [upd_ne (fun z => hDL (by rw [← z]; exact hb))]
        exact hL b hb
      have ed := VG.drop_fz z n0
      exact ⟨by rw [ed]; exact Sm.new hDn, by rw [ed]; exact upd_same, fun h => absurd h (Nat.lt_irrefl _)⟩
    · rintro i σp H1 x Ho Hf σg ⟨s1, hus, c1⟩ fr ⟨hi, wl, t, u, lv, e, rfl, ht, hu, hid, kb, w0, g2, p2, i0, sm⟩ hz fz hn0
      have sf := fz_same fz hn0
      have nw : D ≠ wl := fun z => by
        rcases Nat.eq_zero_or_pos i with h0 | h0
        · rw [z, i0 h0] at hus
          cases hus
        · exact c1 h0 (by rw [z]; exact p2 h0)
      have hoD : Ho D = some (.lst (((itS 1 ks).take i).map fun x => V.int x.1)) := kb D _ hus nw
      obtain ⟨b, ys, rfl, hb⟩ := hu.at
      have hbf := sf _ _ (sm _ _ hb)
      have eT : ((itS 1 ks).take (i + 1)).map (fun x => V.int x.1) = ((itS 1 ks).take i).map (fun x => V.int x.1) ++ [V.int lv] := by
        rw [List.take_add_one, hid, List.map_append]
        rfl
      refine ⟨t, [.int lv, .ref b], rfl, SqT.of (sf _ _ ht), rfl, _, _, rfl, _, _, rfl, rfl, rfl, ?_⟩
      refine ⟨_, rfl, _, sf _ _ hoD, ?_, fun b' hb' => ?_, ?_, ?_⟩
      · rw [List.length_map, List.length_take]
        exact Nat.lt_of_le_of_lt (show min i _ ≤ 1000 by omega) (by decide)
      · rw [upd_ne (fun z => hDL (by rw [← z]; exact hb'))]
      · refine zW_upd hz (fun b' o e' ne => ?_) hDn hoD (fun z => ?_)
        · have nL : b' ∉ L := fun mm => by
            rw [hn0 b' mm] at e'
            cases e'
          rw [VG.drop_out nL, upd_ne ne]
          exact sf _ _ e'
        · rw [g2] at z
          cases z
          exact nw rfl
      · refine ⟨fun b' o e' => ?_, ?_, fun _ z => ?_⟩
        · have nL : b' ∉ L := fun mm => by
            rw [hL b' mm] at e'
            cases e'
          have nD : b' ≠ D := ne_of_none e' hDn
          rw [VG.drop_out nL, upd_ne nD]
          exact sf _ _ (sm _ _ e')
        · rw [VG.drop_out hDL, upd_same, eT]
        · rw [g2] at z
          cases z
          exact nw rfl
    · rintro i σp H1 Ho ⟨s1, hus, c1⟩ fr ⟨hi, wl, kb, w0, p2, i0, sm⟩ hn0
      have nw : D ≠ wl := fun z => by
        rcases Nat.eq_zero_or_pos i with h0 | h0
        · rw [z, i0 h0] at hus
          cases hus
        · exact c1 h0 (by rw [z]; exact p2 h0)
      have hoD := kb D _ hus nw
      rw [List.take_of_length_le hi] at hoD
      have il : 0 < (itS 1 ks).length := by
        have := itS_len 1 ks
        have : 0 < ks.length := Nat.pos_of_ne_zero fun z => hne (List.length_eq_zero_iff.mp z)
        omega
      exact ⟨D, (itS 1 ks).map (·.1), rfl, SqL.of (by rw [hoD, List.map_map]; rfl), by rw [List.length_map]; exact il, fun m hm hx => q m Ho sm hm hx⟩
theorem sc_insert_fault : FnScope ["document", "operation", "_", "parent", "node", "ahead", "kids", "used", "number"] ["document", "operation"] (defScope s_insert_fault) := ⟨rfl, rfl, rfl, by decide +kernel, rfl, by decide +kernel, by decide +kernel⟩
theorem ok_fIns (T : Txt K w mg C) : Cal P w K mg base 8 "insert_fault" (spF "insert") := by
  have Gkids_of := ok_kidsOf (P := P) (base := base) T
  have Gids_of := ok_idsOf (P := P) (base := base) T
  have Gis_place := ok_isPl (P := P) (base := base) T
  have Glevel_of := ok_level (P := P) (base := base) T
  have Gheight_of := ok_height (P := P) (base := base) T
  refine cal_of T.d_insert_fault sc_insert_fault (fun vs H Q E h => ?_) (fun f cdv A outer s H vs Q E hr h => ?_)
  · obtain ⟨v, u, ks, o, rfl, _⟩ := h
    rfl
  · obtain ⟨v, u, ks, o, rfl, hD, ho, hw, dl, _, q⟩ := h
    have hu := hu_of hr
    cases ho with
    | @ins a p u d ah h1 hd =>
      have dl := dl _ _ _ rfl
      refine ⟨_, (pss_cons (ps_asg (pv 1) (pg_tup rfl (pgs_cons (pg_name (i := 2) sc_insert_fault.nd rfl (Or.inl rfl)) (pgs_cons (pg_name (i := 3) sc_insert_fault.nd rfl (Or.inl rfl)) (pgs_cons (pg_name (i := 4) sc_insert_fault.nd rfl (Or.inl rfl)) (pgs_cons (pg_name (i := 5) sc_insert_fault.nd rfl (Or.inl rfl)) pgs_nil)))))) (pss_cons (ps_set (i := 6) sc_insert_fault.nd rfl (Or.inl rfl) (pe_c Gkids_of hr (by decide) (by rfl) (pa_cons (pv 0) (pa_cons (pv 3) pa_nil)))) (pss_cons (ps_if (pt_cmp (pc_isN (pv 6))) (pss_one (ps_ret pe_str)) pss_nil) (pss_cons (ps_set (i := 7) sc_insert_fault.nd rfl (Or.inr rfl) (pe_dc (own := [("number", 8)]) (g := gName 8) (tt := tYes) rfl sc_insert_fault.nd (pi_list (pe_c Gids_of hr (by decide) (by rfl) (pa_cons (pv 0) pa_nil))) (blkOk_by (N := ["document", "operation", "_", "parent", "node", "ahead", "kids", "used", "number"]) (sc := (defScope s_insert_fault)) (by decide +kernel)) (fun _ _ _ _ _ => pg_name (i := 8) sc_insert_fault.nd rfl (Or.inl rfl)) (fun _ _ _ _ _ => pts_nil) (fun _ _ _ _ _ => (pv 8)) (fun _ _ _ _ _ => pe_bl))) (pss_cons (ps_if (pt_val (pe_callB (cr_any rfl) (by rfl) T.z_any (by decide +kernel) (pa_cons (pe_lc (own := [("number", 8)]) (g := gName 8) (tt := tYes) rfl sc_insert_fault.nd (pi_list (pe_c Gids_of hr (by decide) (by rfl) (pa_cons (pe_tup (pa_cons (pv 4) pa_nil)) pa_nil))) (blkOk_by (N := ["document", "operation", "_", "parent", "node", "ahead", "kids", "used", "number"]) (sc := (defScope s_insert_fault)) (by decide +kernel)) (fun _ _ _ _ _ => pg_name (i := 8) sc_insert_fault.nd rfl (Or.inl rfl)) (fun _ _ _ _ _ => pts_nil) (fun _ _ _ _ _ => (pe_cmp (pc_din hu (pv 8) (pv 7))))) pa_nil))) (pss_one (ps_ret pe_str)) pss_nil) (pss_cons (ps_if (pt_not (pt_val (pe_c Gis_place hr (by decide) (by rfl) (pa_cons (pv 6) (pa_cons (pv 5) pa_nil))))) (pss_one (ps_ret pe_str)) pss_nil) (pss_cons (ps_if (pt_cmpR op_gt (pe_op op_add (pe_c Glevel_of hr (by decide) (by rfl) (pa_cons (pv 0) (pa_cons (pv 3) pa_nil))) (pe_c Gheight_of hr (by decide) (by rfl) (pa_cons (pe_tup (pa_cons (pv 4) pa_nil)) pa_nil))) (C8.pe_gc (by rfl) T.g_LOWEST_LEVEL) (nomark _)) (pss_one (ps_ret pe_str)) pss_nil) (pss_one (ps_ret pe_non))))))))), ?_⟩
      refine ⟨_, rfl, _, _, rfl, SqT.of h1, rfl, _, _, rfl, _, _, rfl, _, _, rfl, _, _, rfl, rfl, ?_⟩
      refine ⟨_, rfl, _, rfl, v, ks, p, rfl, hD, fun u1 H1 s1 hk => ?_⟩
      rcases kid_of hD hk with ⟨e, rfl⟩ | ⟨kk, pk, xs, e, rfl, h2, h3⟩
      · refine ⟨_, rfl, true, rfl, iteT ?_⟩
        have : faultD ks (.ins p d ah) = some ("no such element" : Str) := by simp only [faultD, e]
        rw [this] at q
        exact q H1 s1
      · refine ⟨_, rfl, false, rfl, iteF ?_⟩
        refine ⟨_, rfl, v, ks, rfl, hD.same s1, fun ip H2 s2 hip => ?_⟩
        have enum : ∀ l : List (Int × Dn), (l.map fun x => V.int x.2.num) = (l.map fun x => x.2.num).map V.int := fun l => by rw [List.map_map]; rfl
        have e5 : ((itS 1 ks).map fun x => x.2.num) = numS ks := itS_num 1 ks
        obtain ⟨_, _, _, _, _, kl⟩ := hD
        have hD : DocA H v ks := ⟨_, _, ‹_›, ‹_›, ‹_›, kl⟩
        refine ⟨ip, rfl, ⟨_, SqL.of hip⟩, fun D hD2 => ?_⟩
        refine dc_itQ (walk_list (K := K) (a := ip) (xs := (itS 1 ks).map fun x => V.int x.2.num)) (fun j H' => Same H2 H' ∧ ∃ kv, H' D = some (.dK kv) ∧ kv.length ≤ j ∧ ∀ n, (valV kv (.inl n)).isSome = decide (n ∈ ((itS 1 ks).take j).map fun x => x.2.num)) ⟨Sm.new hD2, [], upd_same, Nat.le_refl _, fun n => rfl⟩ (fun j H' _ z => SqL.of (z.1 _ _ hip)) ?_ ?_
        · rintro j x H3 H4 hj ⟨s3, kv, hkv, kvl, kvv⟩ ⟨rfl, hx⟩
          rw [List.getElem?_map] at hx
          obtain ⟨y, hy, rfl⟩ := Option.map_eq_some_iff.mp hx
          rw [List.length_map] at hj
          refine ⟨rfl, _, rfl, kv, .inl y.2.num, rfl, hkv, Nat.lt_of_le_of_lt (show kv.length ≤ 1000 by omega) (by decide), fun c o eo => ?_, putK kv (.inl y.2.num) (.bl true), upd_same, ?_, fun n => ?_⟩
          · rw [upd_ne (ne_of_none eo hD2)]
            exact s3 _ _ eo
          · have := length_putK kv (.inl y.2.num) (.bl true)
            omega
          · rw [valV_put, List.take_add_one, hy, List.map_append]
            by_cases en : n = y.2.num
            · rw [if_pos (by rw [en]), en]
              simp
            · rw [if_neg (fun z => en (Sum.inl.inj z)), kvv]
              simp [en]
        rintro H3 ⟨s3, kv, hkv, kvl, kvv⟩
        rw [List.take_of_length_le (by rw [List.length_map]; exact Nat.le_refl _), e5] at kvv
        have dlen : (itS 1 [d]).length ≤ 1000 := by
          have := congrArg List.length (itS_num 1 [d])
          rw [List.length_map, numS_one] at this
          omega
        have s13 := Same.trans s1 (Same.trans s2 s3)
        refine ⟨_, rfl, by show 1 ≤ sizeLine; decide, fun t ht => ?_⟩
        have s4 := Sm.new (o := .tup [u]) ht
        have dA : DocA (upd H3 t (.tup [u])) (.ref t) [d] := ⟨t, [u], rfl, upd_same, .cons ((hd.same s13).same s4) .nil, dlen⟩
        generalize upd H3 t (.tup [u]) = H4 at s4 dA
        refine ⟨.ref t, [d], rfl, dA, fun ip2 H5 s5 hip2 => ?_⟩
        have hkv5 := s5 _ _ (s4 _ _ hkv)
        refine ⟨ip2, rfl, ⟨_, SqL.of hip2⟩, fun D3 hD3 => ?_⟩
        refine lc_it (walk_list (K := K) (a := ip2) (xs := (itS 1 [d]).map fun x => V.int x.2.num)) (fun j H' => Same H5 H' ∧ H' D3 = some (.lst ((((itS 1 [d]).take j).map fun x => decide (x.2.num ∈ numS ks)).map V.bl))) ⟨Sm.new hD3, upd_same⟩ (fun j H' _ z => SqL.of (z.1 _ _ hip2)) ?_ ?_
        · rintro j x H6 H7 hj ⟨s6, h6⟩ ⟨rfl, hx⟩
          rw [List.getElem?_map] at hx
          obtain ⟨y, hy, rfl⟩ := Option.map_eq_some_iff.mp hx
          refine ⟨rfl, _, rfl, _, rfl, D, _, rfl, DGet.k (k := .inl y.2.num) (s6 _ _ hkv5), ?_⟩
          rw [kvv]
          refine ⟨_, h6, ?_, fun c o eo => ?_, ?_⟩
          · rw [List.length_map, List.length_map, List.length_take]
            exact Nat.lt_of_le_of_lt (show min j _ ≤ 1000 by omega) (by decide)
          · rw [upd_ne (ne_of_none eo hD3)]
            exact s6 _ _ eo
          · rw [upd_same, List.take_add_one, hy, List.map_append, List.map_append]
            rfl
        rintro H6 ⟨s6, h6⟩
        rw [List.take_of_length_le (by rw [List.length_map]; exact Nat.le_refl _)] at h6
        refine ⟨D3, _, rfl, SqL.of h6, _, rfl, ?_⟩
        have ea : ((itS 1 [d]).map fun x => decide (x.2.num ∈ numS ks)).any id = (numN d).any fun n => decide (n ∈ numS ks) := by
          rw [← numS_one d, ← itS_num 1 [d], List.any_map, List.any_map]
          rfl
        rw [ea]
        have s16 := Same.trans s13 (Same.trans s4 (Same.trans s5 s6))
        cases hany : (numN d).any fun n => decide (n ∈ numS ks) with
        | true =>
          have : faultD ks (.ins p d ah) = some ("id in use" : Str) := by
            simp only [faultD, e]
            rw [if_pos hany]
          rw [this] at q
          exact iteT (q H6 s16)
        | false =>
          refine iteF ?_
          refine ⟨_, rfl, _, rfl, pk, xs, kk, ah, rfl, s16 _ _ h2, h3.same s16, fun H7 s7 => ⟨_, rfl, ?_⟩⟩
          have s17 := Same.trans s16 s7
          cases hpl : isPl kk ah with
          | false =>
            have : faultD ks (.ins p d ah) = some ("no such kid" : Str) := by
              simp only [faultD, e]
              rw [if_neg (by rw [hany]; decide), if_neg (by rw [hpl]; decide)]
            rw [this] at q
            exact iteT (q H7 s17)
          | true =>
            refine iteF ?_
            have hgt := hgt_N 1 d
            have i1 : itS 1 [d] = it 1 d := by simp only [itS, List.append_nil]
            refine ⟨_, rfl, _, rfl, v, ks, p, rfl, hD.same s17, fun H8 s8 => ⟨_, rfl, by show 1 ≤ sizeLine; decide, fun t2 ht2 => ?_⟩⟩
            have s9 := Sm.new (o := .tup [u]) ht2
            have dA2 : DocA (upd H8 t2 (.tup [u])) (.ref t2) [d] := ⟨t2, [u], rfl, upd_same, .cons ((hd.same (Same.trans s17 s8)).same s9) .nil, dlen⟩
            generalize upd H8 t2 (.tup [u]) = H9 at s9 dA2
            refine ⟨.ref t2, [d], rfl, dA2, by simp, fun m H10 s10 hm hmx => ?_⟩
            have em : m = (hN d : Int) := by
              rw [i1] at hm hmx
              obtain ⟨p1, hp1, rfl⟩ := List.mem_map.mp hm
              obtain ⟨p2, hp2, e2⟩ := hgt.2
              have a1 := hgt.1 p1 hp1
              have a2 := hmx p2.1 (List.mem_map.mpr ⟨p2, hp2, rfl⟩)
              omega
            subst em
            have s110 := Same.trans s17 (Same.trans s8 (Same.trans s9 s10))
            refine ⟨_, _, rfl, rfl, _, _, rfl, rfl, _, rfl, ite2 (fun c => ?_) (fun c => ?_)⟩
            · have c := of_decide_eq_true c
              have : faultD ks (.ins p d ah) = some ("nested too deep" : Str) := by
                simp only [faultD, e]
                rw [if_neg (by rw [hany]; decide), if_pos hpl, if_pos c]
              rw [this] at q
              exact q H10 s110
            · have c : ¬ (levD ks p + (hN d : Int) > 40) := fun z => c (decide_eq_true z)
              have : faultD ks (.ins p d ah) = none := by
                simp only [faultD, e]
                rw [if_neg (by rw [hany]; decide), if_pos hpl, if_neg c]
              rw [this] at q
              exact q H10 s110
    | rem h1 => exact absurd (show ("remove" : Str) = "insert" from hw) (by decide)
    | mov h1 => exact absurd (show ("move" : Str) = "insert" from hw) (by decide)
    | txt h1 => exact absurd (show ("text" : Str) = "insert" from hw) (by decide)
    | set h1 => exact absurd (show ("set" : Str) = "insert" from hw) (by decide)
    | uns h1 => exact absurd (show ("unset" : Str) = "insert" from hw) (by decide)
end
end VL

set_option Elab.async false
set_option linter.all false
set_option pp.maxSteps 700
set_option maxRecDepth 100000
set_option maxHeartbeats 4000000
namespace VL
open PySem PySem.Spec PyProof.Rows L2
def spFault : Sp := fun vs H Q _ => ∃ (v u : V) (ks : List Dn) (o : OpD), vs = [v, u] ∧ DocA H v ks ∧ OpA H u o ∧ (∀ p d ah, o = .ins p d ah → (numN d).length ≤ 100) ∧ (∀ p ∈ itS 1 ks, (namD p.2).length ≤ 100) ∧ ∀ H', Same H H' → Q (fV (faultD ks o)) H'
theorem OpA.at {H : Hp} {u : V} {o : OpD} (h : OpA H u o) : ∃ a xs, u = .ref a ∧ H a = some (.tup (.str (wordD o) :: xs)) := by
  cases h with
  | rem h => exact ⟨_, _, rfl, h⟩
  | ins h _ => exact ⟨_, _, rfl, h⟩
  | mov h => exact ⟨_, _, rfl, h⟩
  | txt h => exact ⟨_, _, rfl, h⟩
  | set h => exact ⟨_, _, rfl, h⟩
  | uns h => exact ⟨_, _, rfl, h⟩
section
variable {P : Program} {w : World} {K : PySem.W.Frag} {mg : Str → Option Value} {base : Heap} {C : Ad}
theorem sc_fault_of : FnScope ["document", "operation", "action"] ["document", "operation"] (defScope s_fault_of) := ⟨rfl, rfl, rfl, by decide +kernel, rfl, by decide +kernel, by decide +kernel⟩
theorem ok_fault (T : Txt K w mg C) : Cal P w K mg base 9 "fault_of" spFault := by
  obtain ⟨aT, gT_FAULTS, ⟨f1, m1, e1⟩, ⟨f2, m2, e2⟩, ⟨f3, m3, e3⟩, ⟨f4, m4, e4⟩, ⟨f5, m5, e5⟩, ⟨f6, m6, e6⟩⟩ := T.tb_FAULTS
  refine cal_of T.d_fault_of sc_fault_of (fun vs H Q E h => ?_) (fun f cdv A outer s H vs Q E hr h => ?_)
  · obtain ⟨v, u, ks, o, rfl, _⟩ := h
    rfl
  · obtain ⟨v, u, ks, o, rfl, hD, ho, dl, nl, q⟩ := h
    obtain ⟨a, xs, rfl, hat⟩ := ho.at
    refine ⟨_, (pss_cons (ps_set (i := 2) sc_fault_of.nd rfl (Or.inl rfl) (pe_ix ix_kdict (C8.pe_gc (by rfl) gT_FAULTS) (pe_ix ix_tup (pv 1) pe_int (fun _ _ => rfl)) (fun _ _ => rfl))) (pss_one (ps_ret (pe_callT (i := 2) hr rfl (Or.inl rfl) (pa_cons (pv 0) (pa_cons (pv 1) pa_nil)))))), ?_⟩
    refine ⟨_, rfl, a, _, _, _, rfl, rfl, SqT.of hat, at_0, ?_⟩
    have ho' := ho
    cases ho with
    | rem h1 =>
      refine ⟨aT, _, .ref f1, rfl, rfl, e1, ?_⟩
      exact ⟨"remove_fault", 8, spF "remove", f1, Nat.le_refl _, ok_fRem T, m1, rfl, _, rfl, _, rfl, _, _, ks, _, rfl, hD, ho', rfl, dl, nl, q⟩
    | ins h1 h2 =>
      refine ⟨aT, _, .ref f2, rfl, rfl, e2, ?_⟩
      exact ⟨"insert_fault", 8, spF "insert", f2, Nat.le_refl _, ok_fIns T, m2, rfl, _, rfl, _, rfl, _, _, ks, _, rfl, hD, ho', rfl, dl, nl, q⟩
    | mov h1 =>
      refine ⟨aT, _, .ref f3, rfl, rfl, e3, ?_⟩
      exact ⟨"move_fault", 8, spF "move", f3, Nat.le_refl _, ok_fMov T, m3, rfl, _, rfl, _, rfl, _, _, ks, _, rfl, hD, ho', rfl, dl, nl, q⟩
    | txt h1 =>
      refine ⟨aT, _, .ref f4, rfl, rfl, e4, ?_⟩
      exact ⟨"text_fault", 8, spF "text", f4, Nat.le_refl _, ok_fTxt T, m4, rfl, _, rfl, _, rfl, _, _, ks, _, rfl, hD, ho', rfl, dl, nl, q⟩
    | set h1 =>
      refine ⟨aT, _, .ref f5, rfl, rfl, e5, ?_⟩
      exact ⟨"set_fault", 8, spF "set", f5, Nat.le_refl _, ok_fSet T, m5, rfl, _, rfl, _, rfl, _, _, ks, _, rfl, hD, ho', rfl, dl, nl, q⟩
    | uns h1 =>
      refine ⟨aT, _, .ref f6, rfl, rfl, e6, ?_⟩
      exact ⟨"unset_fault", 8, spF "unset", f6, Nat.le_refl _, ok_fUns T, m6, rfl, _, rfl, _, rfl, _, _, ks, _, rfl, hD, ho', rfl, dl, nl, q⟩
end
end VL

set_option Elab.async false
set_option linter.all false
set_option pp.maxSteps 700
set_option maxRecDepth 100000
set_option maxHeartbeats 4000000
namespace VL
open PySem PySem.Spec PyProof.Rows L2
def rowD (ks : List Dn) (n : Int) : Option (Dn × Int × Int) := (flP 0 1 ks).find? fun x => decide (x.1.num = n)
theorem row_find (ks : List Dn) (n : Int) : findD ks n = (rowD ks n).map fun x => (x.2.2, x.1) := by
  unfold findD rowD
  rw [← flP_it 0 1 ks, List.find?_map]
  rfl
theorem flP_num (par lv : Int) (ks : List Dn) : (flP par lv ks).map (fun x => x.1.num) = numS ks := by
  have h := congrArg (List.map fun p : Int × Dn => p.2.num) (flP_it par lv ks)
  rw [List.map_map, itS_num] at h
  exact h
theorem flP_len (par lv : Int) (ks : List Dn) : (flP par lv ks).length = (numS ks).length := by
  rw [← flP_num par lv ks, List.length_map]
/-- a document the law may walk -/
structure DocL (H : Hp) (a : Addr) (xs : List V) (ks : List Dn) : Prop where
  at_ : H a = some (.tup xs)
  nd : NdAs H xs ks
  hs : hS ks ≤ 40
  ns : (numS ks).length ≤ 1000
theorem DocL.same {H H' : Hp} {a : Addr} {xs : List V} {ks : List Dn} (h : DocL H a xs ks) (s : Same H H') : DocL H' a xs ks := ⟨s _ _ h.at_, h.nd.same s, h.hs, h.ns⟩
def spLIds : Sp := fun vs H Q _ => ∃ (a : Addr) (xs : List V) (ks : List Dn), vs = [.ref a] ∧ DocL H a xs ks ∧ ∀ p H', Same H H' → H p = none → H' p = some (.lst ((numS ks).map V.int)) → Q (.ref p) H'
def spRow : Sp := fun vs H Q _ => ∃ (a : Addr) (xs : List V) (ks : List Dn) (n : Int), vs = [.ref a, .int n] ∧ DocL H a xs ks ∧ (rowD ks n = none → ∀ H', Same H H' → Q .non H') ∧ ∀ v x H', rowD ks n = some x → Same H H' → RowA H' v x → Q v H'
def spLKids : Sp := fun vs H Q _ => ∃ (a : Addr) (xs : List V) (ks : List Dn) (n : Int), vs = [.ref a, .int n] ∧ DocL H a xs ks ∧ (kidsD ks n = none → ∀ H', Same H H' → Q .non H') ∧ ∀ kk pk ys H', kidsD ks n = some kk → Same H H' → H' pk = some (.tup ys) → NdAs H' ys kk → Q (.ref pk) H'
theorem num_mem : ∀ {ks : List Dn} {k : Dn}, k ∈ ks → (numN k).length ≤ (numS ks).length
  | e :: r, k, h => by
    simp only [numS, List.length_append]
    rcases List.mem_cons.mp h with rfl | h
    · omega
    · have := num_mem h
      omega
theorem num_kids {d : Dn} : (numS d.kids).length ≤ (numN d).length := by
  cases d with
  | tx n x => simp [Dn.kids, numS]
  | el n t as ks => simp [Dn.kids, numN]
theorem len_num : ∀ ks : List Dn, ks.length ≤ (numS ks).length
  | [] => Nat.zero_le _
  | d :: r => by
    have := len_num r
    have h1 : 1 ≤ (numN d).length := by cases d <;> simp [numN]
    simp only [numS, List.length_cons, List.length_append]
    omega
theorem hS_max : ∀ {ks : List Dn}, hS ks = 0 ∨ ∃ k ∈ ks, hN k = hS ks
  | [] => .inl rfl
  | d :: r => by
    simp only [hS]
    by_cases c : hS r ≤ hN d
    · exact .inr ⟨d, List.mem_cons_self, by omega⟩
    · rcases hS_max (ks := r) with h | ⟨k, hk, e⟩
      · omega
      · exact .inr ⟨k, List.mem_cons_of_mem _ hk, by omega⟩
abbrev hN_ (k : Dn) : Int := (hN k : Int)
def spLHgt (N : Nat) : Sp := fun vs H Q _ => ∃ (v : V) (d : Dn), vs = [v] ∧ NdA H v d ∧ hN d ≤ N ∧ (numN d).length ≤ 1000 ∧ ∀ H', Same H H' → Q (.int (hN_ d)) H'
section
variable {P : Program} {w : World} {K : PySem.W.Frag} {mg : Str → Option Value} {base : Heap} {C : Ad}
theorem sc__law_ids : FnScope ["document", "row"] ["document"] (defScope s__law_ids) := ⟨rfl, rfl, rfl, by decide +kernel, rfl, by decide +kernel, by decide +kernel⟩
theorem ok_lids (T : Txt K w mg C) : Cal P w K mg base 43 "_law_ids" spLIds := by
  have G_law_flat := lf_N (P := P) (base := base) T 40
  refine cal_of T.d__law_ids sc__law_ids (fun vs H Q E h => ?_) (fun f cdv A outer s H vs Q E hr h => ?_)
  · obtain ⟨a, xs, ks, rfl, _⟩ := h
    rfl
  · obtain ⟨a, xs, ks, rfl, dq, q⟩ := h
    have fl := flP_len 0 1 ks
    have ns := dq.ns
    refine ⟨_, (pss_one (ps_ret (pe_lc (own := [("row", 1)]) (g := gName 1) (tt := tYes) rfl sc__law_ids.nd (pi_list (pe_c G_law_flat hr (by decide) (by rfl) (pa_cons (pv 0) (pa_cons pe_int (pa_cons pe_int pa_nil))))) (blkOk_by (N := ["document", "row"]) (sc := (defScope s__law_ids)) (by decide +kernel)) (fun _ _ _ _ _ => pg_name (i := 1) sc__law_ids.nd rfl (Or.inl rfl)) (fun _ _ _ _ _ => pts_nil) (fun _ _ _ _ _ => (pe_ix (ix_tupS (K := K) rfl) (pe_ix (ix_listS (K := K) rfl) (pv 1) pe_int (fun _ _ => rfl)) pe_int (fun _ _ => rfl)))))), ?_⟩
    refine ⟨_, rfl, a, 0, 1, xs, ks, H, [], rfl, Sb.nil, dq.at_, dq.nd, dq.hs, by omega, fun rp rs G1 H1 S1 g1 hrp hrs => ?_⟩
    have s1 := Same.trans g1 S1.s
    have hrp1 := S1.s _ _ hrp
    have hrs1 := RowA.same hrs S1.s
    have rl := Paired.length hrs
    refine ⟨rp, rfl, ⟨_, SqL.of hrp1⟩, fun D hD => ?_⟩
    refine lc_it (walk_list (K := K) (a := rp) (xs := rs)) (fun j H' => Same H1 H' ∧ H' D = some (.lst (((flP 0 1 ks).take j).map fun x => V.int x.1.num))) ⟨Sm.new hD, upd_same⟩ (fun j H' _ z => SqL.of (z.1 _ _ hrp1)) ?_ ?_
    · rintro j x H2 H3 hj ⟨s2, h2⟩ ⟨rfl, hx⟩
      obtain ⟨y, hy, ra, u, rfl, hra, hu⟩ := paired_get hrs1 hx
      obtain ⟨b, ys, rfl, hb⟩ := hu.at
      refine ⟨rfl, _, rfl, ra, _, _, _, rfl, rfl, SqL.of (s2 _ _ hra), at_0, b, _, _, _, rfl, rfl, SqT.of (s2 _ _ hb), at_1, _, h2, ?_, fun c o eo => ?_, ?_⟩
      · rw [List.length_map, List.length_take]
        exact Nat.lt_of_le_of_lt (show min j _ ≤ 1000 by omega) (by decide)
      · rw [upd_ne (ne_of_none eo hD)]
        exact s2 _ _ eo
      · rw [upd_same, List.take_add_one, hy, List.map_append]
        rfl
    rintro H2 ⟨s2, h2⟩
    rw [List.take_of_length_le (by omega), show ((flP 0 1 ks).map fun x => V.int x.1.num) = (numS ks).map V.int by rw [← flP_num 0 1 ks, List.map_map]; rfl] at h2
    exact q D H2 (Same.trans s1 s2) (Same.free s1 hD) h2
theorem sc__law_row_of : FnScope ["document", "number", "row"] ["document", "number"] (defScope s__law_row_of) := ⟨rfl, rfl, rfl, by decide +kernel, rfl, by decide +kernel, by decide +kernel⟩
theorem ok_row (T : Txt K w mg C) : Cal P w K mg base 43 "_law_row_of" spRow := by
  have G_law_flat := lf_N (P := P) (base := base) T 40
  refine cal_of T.d__law_row_of sc__law_row_of (fun vs H Q E h => ?_) (fun f cdv A outer s H vs Q E hr h => ?_)
  · obtain ⟨a, xs, ks, n, rfl, _⟩ := h
    rfl
  · obtain ⟨a, xs, ks, n, rfl, dq, q0, q1⟩ := h
    have fl := flP_len 0 1 ks
    have ns := dq.ns
    refine ⟨_, (pss_cons (ps_for PassesOwn.never rfl (pi_list (pe_c G_law_flat hr (by decide) (by rfl) (pa_cons (pv 0) (pa_cons pe_int (pa_cons pe_int pa_nil))))) (pg_name (i := 2) sc__law_row_of.nd rfl (Or.inl rfl)) (pss_one (ps_if (pt_cmpR op_eq (pe_ix ix_tup (pe_ix ix_list (pv 2) pe_int (fun _ _ => rfl)) pe_int (fun _ _ => rfl)) (pv 1) (nomark _)) (pss_one (ps_ret (pv 2))) pss_nil))) (pss_one (ps_ret pe_non))), ?_⟩
    refine ⟨_, rfl, a, 0, 1, xs, ks, H, [], rfl, Sb.nil, dq.at_, dq.nd, dq.hs, by omega, fun rp rs G1 H1 S1 g1 hrp hrs => ?_⟩
    have s1 := Same.trans g1 S1.s
    have hrp1 := S1.s _ _ hrp
    have hrs1 := RowA.same hrs S1.s
    have rl := Paired.length hrs
    refine ⟨rp, rfl, ⟨_, SqL.of hrp1⟩, ?_⟩
    refine for_it (walk_list (K := K) (a := rp) (xs := rs)) (fun j σ H' => H' = H1 ∧ (∃ y2, σ = [some (.ref a), some (.int n), y2]) ∧ ∀ (i : Nat) (x : Dn × Int × Int), i < j → (flP 0 1 ks)[i]? = some x → x.1.num ≠ n) ⟨rfl, ⟨_, rfl⟩, fun i _ h => absurd h (Nat.not_lt_zero _)⟩ (fun j σ H' _ z => by rw [z.1]; exact SqL.of hrp1) ?_ ?_
    · rintro j v σ H2 H3 hj ⟨rfl, ⟨y2, rfl⟩, no⟩ ⟨rfl, hx⟩
      obtain ⟨y, hy, ra, u, rfl, hra, hu⟩ := paired_get hrs1 hx
      have hu0 := hu
      obtain ⟨b, ys, rfl, hb⟩ := hu.at
      refine ⟨_, rfl, ra, _, _, _, rfl, rfl, SqL.of hra, at_0, b, _, _, _, rfl, rfl, SqT.of hb, at_1, _, rfl, rfl, _, rfl, ite2 (fun c => ?_) (fun c => ?_)⟩
      · have e : y.1.num = n := by
          have := of_decide_eq_true c
          injection this
        refine ⟨_, rfl, q1 _ y _ ?_ s1 ⟨ra, .ref b, rfl, hra, hu0⟩⟩
        unfold rowD
        rw [List.find?_eq_some_iff_getElem]
        obtain ⟨hi, e2⟩ := List.getElem?_eq_some_iff.mp hy
        refine ⟨decide_eq_true e, j, hi, e2, fun i hij => ?_⟩
        rw [decide_eq_false (no i _ hij (List.getElem?_eq_getElem (Nat.lt_trans hij hi)))]
        rfl
      · have e : y.1.num ≠ n := fun z => c (decide_eq_true (by rw [z]))
        refine ⟨rfl, ⟨_, rfl⟩, fun i x hi hxx => ?_⟩
        rcases Nat.lt_succ_iff_lt_or_eq.mp hi with hi | hi
        · exact no i x hi hxx
        · rw [hi, hy] at hxx
          cases hxx
          exact e
    · rintro σ H2 ⟨rfl, ⟨y2, rfl⟩, no⟩
      refine q0 ?_ _ s1
      unfold rowD
      rw [List.find?_eq_none]
      intro x hx c
      obtain ⟨i, hi, rfl⟩ := List.getElem_of_mem hx
      exact no i _ (by omega) (List.getElem?_eq_getElem hi) (of_decide_eq_true c)
theorem sc__law_kids : FnScope ["document", "parent", "row"] ["document", "parent"] (defScope s__law_kids) := ⟨rfl, rfl, rfl, by decide +kernel, rfl, by decide +kernel, by decide +kernel⟩
theorem ok_lkids (T : Txt K w mg C) : Cal P w K mg base 44 "_law_kids" spLKids := by
  have G_law_row_of := ok_row (P := P) (base := base) T
  refine cal_of T.d__law_kids sc__law_kids (fun vs H Q E h => ?_) (fun f cdv A outer s H vs Q E hr h => ?_)
  · obtain ⟨a, xs, ks, n, rfl, _⟩ := h
    rfl
  · obtain ⟨a, xs, ks, n, rfl, dq, q0, q1⟩ := h
    refine ⟨_, (pss_cons (ps_if (pt_cmpR op_eq (pv 1) pe_int (nomark _)) (pss_one (ps_ret (pv 0))) pss_nil) (pss_cons (ps_set (i := 2) sc__law_kids.nd rfl (Or.inl rfl) (pe_c G_law_row_of hr (by decide) (by rfl) (pa_cons (pv 0) (pa_cons (pv 1) pa_nil)))) (pss_cons (ps_if (PW.pt (pw_or (pt_cmp (pc_isN (pv 2))) (pw_or1 (pt_cmpR op_ne (pe_ix ix_tup (pe_ix ix_list (pv 2) pe_int (fun _ _ => rfl)) pe_int (fun _ _ => rfl)) pe_str (nomark _))))) (pss_one (ps_ret pe_non)) pss_nil) (pss_one (ps_ret (pe_ix ix_tup (pe_ix ix_list (pv 2) pe_int (fun _ _ => rfl)) pe_int (fun _ _ => rfl))))))), ?_⟩
    refine ⟨_, rfl, rfl, _, rfl, ite2 (fun c => ?_) (fun c => ?_)⟩
    · have c' : n = 0 := by
        have := of_decide_eq_true c
        injection this
      exact ⟨_, rfl, q1 ks a xs H (by unfold kidsD; rw [if_pos c']) (Same.refl _) dq.at_ dq.nd⟩
    · have c' : ¬ n = 0 := fun z => c (decide_eq_true (by rw [z]))
      have rf := row_find ks n
      refine ⟨_, rfl, _, rfl, a, xs, ks, n, rfl, dq, fun e0 H1 s1 => ?_, fun v x H1 e0 s1 hx => ?_⟩
      · rw [e0] at rf
        exact ⟨_, rfl, true, rfl, iteT (iteT (q0 (by unfold kidsD; rw [if_neg c', rf]; rfl) H1 s1))⟩
      · rw [e0] at rf
        obtain ⟨ra, u, rfl, hra, hu⟩ := hx
        obtain ⟨d, par, lv⟩ := x
        cases hu with
        | @tx b m y h1 => exact ⟨_, rfl, false, rfl, iteF ⟨_, rfl, ra, _, _, _, rfl, rfl, SqL.of hra, at_0, b, _, _, _, rfl, rfl, SqT.of h1, at_0, rfl, _, rfl, iteT (q0 (by unfold kidsD; rw [if_neg c', rf]; rfl) H1 s1)⟩⟩
        | @el b pk m tg va as vs kk h1 hA' hk hs => exact ⟨_, rfl, false, rfl, iteF ⟨_, rfl, ra, _, _, _, rfl, rfl, SqL.of hra, at_0, b, _, _, _, rfl, rfl, SqT.of h1, at_0, rfl, _, rfl, iteF ⟨_, rfl, ra, _, _, _, rfl, rfl, SqL.of hra, at_0, b, _, _, _, rfl, rfl, SqT.of h1, rfl, q1 kk pk vs H1 (by unfold kidsD; rw [if_neg c', rf]; rfl) s1 hk hs⟩⟩⟩
end
end VL

set_option Elab.async false
set_option linter.all false
set_option pp.maxSteps 700
set_option maxRecDepth 100000
set_option maxHeartbeats 4000000
namespace VL
open PySem PySem.Spec PyProof.Rows L2
theorem at_2 {x y z : V} {ys : List V} : atI (x :: y :: z :: ys) 2 = some z := by
  unfold atI ixN
  rw [if_pos (by decide), if_pos (by simp only [List.length_cons]; omega)]
  rfl
theorem inV_s (x : Str) : ∀ l : List Str, inV (.str x) (l.map V.str) = decide (x ∈ l)
  | [] => rfl
  | y :: l => by
    have ih := inV_s x l
    unfold inV at ih ⊢
    rw [List.map_cons, List.any_cons, ih]
    by_cases e : y = x
    · subst e
      simp [eqV]
    · have e2 : ¬ x = y := fun z => e z.symm
      simp [eqV, e, e2]
theorem flat_strs : ∀ l : List Str, (l.map V.str).all flatV = true
  | [] => rfl
  | a :: l => by
    show (true && (l.map V.str).all flatV) = true
    rw [flat_strs l]
    rfl
theorem inV_i (n : Int) : ∀ l : List Int, inV (.int n) (l.map V.int) = decide (n ∈ l)
  | [] => rfl
  | y :: l => by
    have ih := inV_i n l
    unfold inV at ih ⊢
    rw [List.map_cons, List.any_cons, ih]
    by_cases e : y = n
    · subst e
      simp [eqV]
    · have e2 : ¬ n = y := fun z => e z.symm
      simp [eqV, e, e2]
theorem flat_ints : ∀ l : List Int, (l.map V.int).all flatV = true
  | [] => rfl
  | _ :: l => by
    rw [List.map_cons, List.all_cons, flat_ints l]
    rfl
theorem place_mem {kk : List Dn} {n : Int} : (placeD kk n).isSome = decide (n ∈ kk.map Dn.num) := by
  unfold placeD
  rw [Bool.eq_iff_iff, decide_eq_true_iff, List.findIdx?_isSome, List.any_eq_true, List.mem_map]
  constructor
  · rintro ⟨d, hd, h⟩
    exact ⟨d, hd, of_decide_eq_true h⟩
  · rintro ⟨d, hd, h⟩
    exact ⟨d, hd, decide_eq_true h⟩
mutual
theorem num_inN (l : Int) : ∀ d : Dn, ∀ p ∈ it l d, (numN p.2).length ≤ (numN d).length
  | .tx n x, p, h => by
    simp only [it, List.mem_singleton] at h
    rw [h]
    exact Nat.le_refl _
  | .el n t as ks, p, h => by
    simp only [it, List.mem_cons] at h
    rcases h with rfl | h
    · exact Nat.le_refl _
    · have := num_in (l + 1) ks p h
      simp only [numN, List.length_cons]
      omega
theorem num_in (l : Int) : ∀ ks : List Dn, ∀ p ∈ itS l ks, (numN p.2).length ≤ (numS ks).length
  | [], p, h => by simp [itS] at h
  | d :: r, p, h => by
    simp only [itS, List.mem_append] at h
    simp only [numS, List.length_append]
    rcases h with h | h
    · have := num_inN l d p h
      omega
    · have := num_in l r p h
      omega
end
theorem in_text : inV (.str ("text" : Str)) [V.str "text", .str "set", .str "unset"] = true := by decide +kernel
theorem in_set : inV (.str ("set" : Str)) [V.str "text", .str "set", .str "unset"] = true := by decide +kernel
theorem in_unset : inV (.str ("unset" : Str)) [V.str "text", .str "set", .str "unset"] = true := by decide +kernel
theorem in_remove : inV (.str ("remove" : Str)) [V.str "text", .str "set", .str "unset"] = false := by decide +kernel
theorem in_move : inV (.str ("move" : Str)) [V.str "text", .str "set", .str "unset"] = false := by decide +kernel
theorem in_insert : inV (.str ("insert" : Str)) [V.str "text", .str "set", .str "unset"] = false := by decide +kernel
def spLFault : Sp := fun vs H Q _ => ∃ (a : Addr) (xs : List V) (ks : List Dn) (u : V) (o : OpD), vs = [.ref a, u] ∧ DocL H a xs ks ∧ OpA H u o ∧ (∀ p d ah, o = .ins p d ah → (numN d).length ≤ 100 ∧ hN d ≤ 40) ∧ (∀ p ∈ itS 1 ks, (namD p.2).length ≤ 100) ∧ (∀ n ∈ numS ks, n ≠ 0) ∧ ∀ H', Same H H' → Q (fV (faultD ks o)) H'
section
variable {P : Program} {w : World} {K : PySem.W.Frag} {mg : Str → Option Value} {base : Heap} {C : Ad}
end
end VL

set_option Elab.async false
set_option linter.all false
set_option pp.maxSteps 700
set_option maxRecDepth 100000
set_option maxHeartbeats 4000000
namespace VL
open PySem PySem.Spec PyProof.Rows L2
theorem kids_len {ks kk : List Dn} {p : Int} (e : kidsD ks p = some kk) : kk.length ≤ (numS ks).length := by
  unfold kidsD at e
  split at e
  · cases e
    exact len_num ks
  · split at e
    · rename_i lv m tg as kk' ef
      cases e
      have pm := List.mem_of_find?_eq_some ef
      have h1 := num_in 1 ks _ pm
      have h2 := len_num kk
      have h3 : (numN (Dn.el m tg as kk)).length = (numS kk).length + 1 := by simp [numN]
      have h1 : (numN (Dn.el m tg as kk)).length ≤ (numS ks).length := h1
      omega
    · cases e
/-- what a number may be -/
def inD (ks : List Dn) (n : Int) : Prop := n ∈ numS ks ∨ n = 0 ∨ n = 99
theorem num_head (d : Dn) : d.num ∈ numN d := by cases d <;> simp [numN, Dn.num]
theorem num_in2 {d : Dn} {n : Int} : ∀ {kk : List Dn}, d ∈ kk → n ∈ numN d → n ∈ numS kk
  | e :: r, h, hn => by
    simp only [numS, List.mem_append]
    rcases List.mem_cons.mp h with rfl | h
    · exact .inl hn
    · exact .inr (num_in2 h hn)
mutual
theorem sub_N (l : Int) : ∀ d : Dn, ∀ p ∈ it l d, ∀ n ∈ numN p.2, n ∈ numN d
  | .tx k x, p, h, n, hn => by
    simp only [it, List.mem_singleton] at h
    rw [h] at hn
    exact hn
  | .el k t as ks, p, h, n, hn => by
    simp only [it, List.mem_cons] at h
    rcases h with rfl | h
    · exact hn
    · have := sub_S (l + 1) ks p h n hn
      simp only [numN, List.mem_cons]
      exact .inr this
theorem sub_S (l : Int) : ∀ ks : List Dn, ∀ p ∈ itS l ks, ∀ n ∈ numN p.2, n ∈ numS ks
  | [], p, h, n, hn => by simp [itS] at h
  | d :: r, p, h, n, hn => by
    simp only [itS, List.mem_append] at h
    simp only [numS, List.mem_append]
    rcases h with h | h
    · exact .inl (sub_N l d p h n hn)
    · exact .inr (sub_S l r p h n hn)
end
theorem kidsD_sub {ks kk : List Dn} {p n : Int} (e : kidsD ks p = some kk) (h : n ∈ numS kk) : n ∈ numS ks := by
  unfold kidsD at e
  split at e
  · cases e
    exact h
  · split at e
    · rename_i lv m tg as kk' ef
      cases e
      have pm := List.mem_of_find?_eq_some ef
      exact sub_S 1 ks _ pm n (by simp only [numN, List.mem_cons]; exact .inr h)
    · cases e
theorem kidsD_num {ks kk : List Dn} {p : Int} {d : Dn} (e : kidsD ks p = some kk) (h : d ∈ kk) : d.num ∈ numS ks := kidsD_sub e (num_in2 h (num_head d))
def spSome : Sp := fun vs H Q _ => ∃ (sa a : Addr) (s : Int) (xs : List V) (ks : List Dn) (G : Hp) (M : List (Addr × HO)), vs = [.ref sa, .ref a] ∧ Sb G H ((sa, .lst [.int s]) :: M) ∧ DocL G a xs ks ∧ (numS ks).length ≤ 900 ∧ ∀ n s' G' H', Sb G' H' ((sa, .lst [.int s']) :: M) → Same G G' → inD ks n → Q (.int n) H'
def spCh : Sp := fun vs H Q _ => ∃ (m : Nat) (f0 : Int) (G : Hp) (M : List (Addr × HO)), vs = [.int (m : Int), .int f0] ∧ 1 ≤ m ∧ m ≤ 30 ∧ Sb G H M ∧ ∀ (v : V) (d : Dn) (G' H' : Hp), Sb G' H' M → Same G G' → NdA G' v d → hN d ≤ m → numN d = (List.range m).map (fun i : Nat => f0 + (i : Int) + 1) → AllD NamOk d → Q v H'
def spKid : Sp := fun vs H Q _ => ∃ (sa a : Addr) (s n : Int) (xs : List V) (ks : List Dn) (G : Hp) (M : List (Addr × HO)), vs = [.ref sa, .ref a, .int n] ∧ Sb G H ((sa, .lst [.int s]) :: M) ∧ DocL G a xs ks ∧ (numS ks).length ≤ 900 ∧ ∀ m s' G' H', Sb G' H' ((sa, .lst [.int s']) :: M) → Same G G' → inD ks m → Q (.int m) H'
section
variable {P : Program} {w : World} {K : PySem.W.Frag} {mg : Str → Option Value} {base : Heap} {C : Ad}
theorem sc__law_some : FnScope ["state", "document", "ids"] ["state", "document"] (defScope s__law_some) := ⟨rfl, rfl, rfl, by decide +kernel, rfl, by decide +kernel, by decide +kernel⟩
theorem ok_some (T : Txt K w mg C) : Cal P w K mg base 44 "_law_some" spSome := by
  have G_law_digit := ok_dig (P := P) (base := base) T
  have G_law_ids := ok_lids (P := P) (base := base) T
  refine cal_of T.d__law_some sc__law_some (fun vs H Q E h => ?_) (fun f cdv A outer s H vs Q E hr h => ?_)
  · obtain ⟨sa, a, s, xs, ks, G, M, rfl, _⟩ := h
    rfl
  · obtain ⟨sa, a, s0, xs, ks, G, M, rfl, S, dq, nl, q⟩ := h
    refine ⟨_, (pss_cons (ps_set (i := 2) sc__law_some.nd rfl (Or.inl rfl) (pe_op op_cat (pe_c G_law_ids hr (by decide) (by rfl) (pa_cons (pv 1) pa_nil)) (pe_lst (pa_cons pe_int (pa_cons pe_int (pa_cons pe_int pa_nil)))))) (pss_one (ps_ret (pe_ix ix_list (pv 2) (pe_c G_law_digit hr (by decide) (by rfl) (pa_cons (pv 0) (pa_cons (pe_callB call_len_seq (by rfl) T.z_len PySem.boot_len (pa_cons (pv 2) pa_nil)) pa_nil))) (fun _ _ => rfl))))), ?_⟩
    refine ⟨_, rfl, a, xs, ks, rfl, dq.same S.s, fun p H1 s1 hp0 hp => ?_⟩
    have S1 := S.call s1
    have g1 : Same G (joinH G (newer H H1)) := joinH_l
    have hp1 : joinH G (newer H H1) p = some (.lst ((numS ks).map V.int)) := joinH_r S.s _ _ (newer_mk hp0 hp)
    generalize joinH G (newer H H1) = G1 at S1 g1 hp1
    refine ⟨by show 3 ≤ sizeLine; decide, fun l hl => ?_⟩
    have S2 := S1.alloc (o := .lst [.int 0, .int 0, .int 99]) hl
    have g2 := S1.grow (o := .lst [.int 0, .int 0, .int 99]) hl
    have hl2 : upd G1 l (.lst [.int 0, .int 0, .int 99]) l = some (.lst [.int 0, .int 0, .int 99]) := upd_same
    generalize upd G1 l (.lst [.int 0, .int 0, .int 99]) = G2 at S2 g2 hl2
    refine ⟨p, l, _, _, rfl, rfl, S2.s _ _ (g2 _ _ hp1), S2.s _ _ hl2, ?_, fun c hc => ?_⟩
    · rw [List.length_map]
      exact Nat.le_trans (show (numS ks).length + 3 ≤ 1000 by omega) (by decide)
    have S3 := S2.alloc (o := .lst ((numS ks).map V.int ++ [.int 0, .int 0, .int 99])) hc
    have g3 := S2.grow (o := .lst ((numS ks).map V.int ++ [.int 0, .int 0, .int 99])) hc
    have hc3 : upd G2 c (.lst ((numS ks).map V.int ++ [.int 0, .int 0, .int 99])) c = some (.lst ((numS ks ++ [0, 0, 99]).map V.int)) := by rw [upd_same]; simp
    have ln : ((numS ks).map V.int ++ [V.int 0, .int 0, .int 99]) = (numS ks ++ [0, 0, 99]).map V.int := by simp
    refine ⟨_, rfl, _, rfl, _, rfl, c, _, rfl, .inl (SqL.of (S3.s _ _ hc3)), sa, s0, _, rfl, S3.hd, ?_, ?_, fun z s2 z0 z1 => ?_⟩
    · rw [List.length_map, List.length_append]
      show (0 : Int) < (((numS ks).length + 3 : Nat) : Int)
      omega
    · rw [List.length_map, List.length_append]
      show (((numS ks).length + 3 : Nat) : Int) < 1000
      omega
    have S4 := S3.put (u := .lst [.int s2])
    obtain ⟨c', hx, hm⟩ := atI_mem z0 z1
    obtain ⟨x, hxm, rfl⟩ := List.mem_map.mp hm
    have xin : inD ks x := by
      rcases List.mem_append.mp hxm with h | h
      · exact .inl h
      · simp only [List.mem_cons, List.not_mem_nil, or_false] at h
        rcases h with rfl | rfl | rfl
        · exact .inr (.inl rfl)
        · exact .inr (.inl rfl)
        · exact .inr (.inr rfl)
    exact ⟨c, _, _, _, rfl, rfl, SqL.of (S4.s _ _ hc3), hx, q x s2 _ _ S4 (Same.trans g1 (Same.trans g2 g3)) xin⟩
theorem sc__law_kid : FnScope ["state", "document", "parent", "kids"] ["state", "document", "parent"] (defScope s__law_kid) := ⟨rfl, rfl, rfl, by decide +kernel, rfl, by decide +kernel, by decide +kernel⟩
theorem ok_kid (T : Txt K w mg C) : Cal P w K mg base 45 "_law_kid" spKid := by
  have G_law_digit := ok_dig (P := P) (base := base) T
  have G_law_kids := ok_lkids (P := P) (base := base) T
  have G_law_some := ok_some (P := P) (base := base) T
  refine cal_of T.d__law_kid sc__law_kid (fun vs H Q E h => ?_) (fun f cdv A outer s H vs Q E hr h => ?_)
  · obtain ⟨sa, a, s, n, xs, ks, G, M, rfl, _⟩ := h
    rfl
  · obtain ⟨sa, a, s0, n, xs, ks, G, M, rfl, S, dq, nl, q⟩ := h
    refine ⟨_, (pss_cons (ps_set (i := 3) sc__law_kid.nd rfl (Or.inl rfl) (pe_c G_law_kids hr (by decide) (by rfl) (pa_cons (pv 1) (pa_cons (pv 2) pa_nil)))) (pss_cons (ps_if (PW.pt (pw_or (pt_cmp (pc_isN (pv 3))) (pw_or (pt_cmpR op_eq (pe_callB call_len_seq (by rfl) T.z_len PySem.boot_len (pa_cons (pv 3) pa_nil)) pe_int (nomark _)) (pw_or1 (pt_cmpR op_eq (pe_c G_law_digit hr (by decide) (by rfl) (pa_cons (pv 0) (pa_cons pe_int pa_nil))) pe_int (nomark _)))))) (pss_one (ps_ret (pe_c G_law_some hr (by decide) (by rfl) (pa_cons (pv 0) (pa_cons (pv 1) pa_nil))))) pss_nil) (pss_one (ps_ret (pe_ix ix_seq (pe_ix ix_tup (pv 3) (pe_c G_law_digit hr (by decide) (by rfl) (pa_cons (pv 0) (pa_cons (pe_callB call_len_seq (by rfl) T.z_len PySem.boot_len (pa_cons (pv 3) pa_nil)) pa_nil))) (fun _ _ => rfl)) pe_int (fun _ _ => rfl)))))), ?_⟩
    refine ⟨_, rfl, _, rfl, a, xs, ks, n, rfl, dq.same S.s, fun e H1 s1 => ?_, fun kk pk ys H1 e s1 hpk hys => ?_⟩
    · have S1 := S.call s1
      have g1 : Same G (joinH G (newer H H1)) := joinH_l
      exact ⟨_, rfl, true, rfl, iteT (iteT ⟨_, rfl, _, rfl, sa, a, s0, xs, ks, _, M, rfl, S1, dq.same g1, nl, fun m s' G' H' S' g' hi => q m s' G' H' S' (Same.trans g1 g') hi⟩)⟩
    · have S1 := S.call s1
      have g1 : Same G (joinH G (newer H H1)) := joinH_l
      generalize joinH G (newer H H1) = G1 at S1 g1
      have yl := hys.len
      refine ⟨_, rfl, false, rfl, iteF ?_⟩
      refine ⟨_, rfl, pk, _, rfl, .inr (SqT.of hpk), rfl, _, rfl, ite2 (fun c => ?_) (fun c => ?_)⟩
      · exact iteT ⟨_, rfl, _, rfl, sa, a, s0, xs, ks, G1, M, rfl, S1, dq.same g1, nl, fun m s' G' H' S' g' hi => q m s' G' H' S' (Same.trans g1 g') hi⟩
      · have kl := kids_len e
        have kn : 0 < kk.length := Nat.pos_of_ne_zero fun z => c (decide_eq_true (by rw [yl, z]; rfl))
        refine ⟨_, rfl, sa, s0, 7, rfl, S1.hd, by decide, by decide, fun z s2 z0 z1 => ?_⟩
        have S2 := S1.put (u := .lst [.int s2])
        have n1 : pk ≠ sa := fun z => by
          have := S1.hd
          rw [z] at hpk
          rw [hpk] at this
          cases this
        have hpk2 : upd H1 sa (.lst [.int s2]) pk = some (.tup ys) := by rw [upd_ne n1]; exact hpk
        refine ⟨rfl, _, rfl, ite2 (fun _ => ?_) (fun _ => ?_)⟩
        · exact ⟨_, rfl, _, rfl, sa, a, s2, xs, ks, G1, M, rfl, S2, dq.same g1, nl, fun m s' G' H' S' g' hi => q m s' G' H' S' (Same.trans g1 g') hi⟩
        · refine ⟨_, rfl, _, rfl, _, rfl, pk, _, rfl, .inr (SqT.of hpk2), sa, s2, _, rfl, S2.hd, by omega, by omega, fun z3 s3 z30 z31 => ?_⟩
          have S3 := S2.put (u := .lst [.int s3])
          have hpk3 : upd (upd H1 sa (.lst [.int s2])) sa (.lst [.int s3]) pk = some (.tup ys) := by rw [upd_ne n1]; exact hpk2
          obtain ⟨j, rfl⟩ := Int.eq_ofNat_of_zero_le z30
          have hj : j < ys.length := by omega
          obtain ⟨k, hk, hxk⟩ := hys.get' (List.getElem?_eq_getElem hj)
          obtain ⟨bk, yk, ebk, hbk⟩ := hxk.at
          have n2 : bk ≠ sa := fun z => by
            have := S1.hd
            rw [z] at hbk
            rw [hbk] at this
            cases this
          have hbk3 : upd (upd H1 sa (.lst [.int s2])) sa (.lst [.int s3]) bk = some (.tup (V.str k.kind :: .int k.num :: yk)) := by rw [upd_ne n2, upd_ne n2]; exact hbk
          refine ⟨pk, _, _, _, rfl, rfl, SqT.of hpk3, (show atI ys ((j : Nat) : Int) = some (.ref bk) from ?_), .inr (.inl ⟨bk, _, _, _, rfl, rfl, SqT.of hbk3, at_1, q _ s3 _ _ S3 g1 (.inl (kidsD_num e (List.mem_of_getElem? hk)))⟩)⟩
          unfold atI ixN
          rw [if_pos (by omega), if_pos (by omega)]
          show ys[((j : Nat) : Int).toNat]? = _
          rw [Int.toNat_natCast, List.getElem?_eq_getElem hj, ebk]
end
end VL

set_option Elab.async false
set_option linter.all false
set_option pp.maxSteps 700
set_option maxRecDepth 100000
set_option maxHeartbeats 4000000
namespace VL
open PySem PySem.Spec PyProof.Rows L2
def TupD (H : Hp) (p : Addr) (kk : List Dn) : Prop := ∃ xs, H p = some (.tup xs) ∧ NdAs H xs kk
theorem TupD.same {H H' : Hp} {p : Addr} {kk : List Dn} (h : TupD H p kk) (s : Same H H') : TupD H' p kk := by
  obtain ⟨xs, h1, h2⟩ := h
  exact ⟨xs, s _ _ h1, h2.same s⟩
/-- t + u of nodes -/
theorem cat_tup {K : PySem.W.Frag} {H : Hp} {a b : Addr} {ks ls : List Dn} {Q : VK} (ha : TupD H a ks) (hb : TupD H b ls) (hl : ks.length + ls.length ≤ 3000)
    (q : ∀ p H', Same H H' → TupD H' p (ks ++ ls) → Q (.ref p) H') : rCatA K (.ref a) (.ref b) H Q := by
  obtain ⟨xs, h1, h2⟩ := ha
  obtain ⟨ys, h3, h4⟩ := hb
  have l1 := h2.len
  have l2 := h4.len
  have big : 100000 < sizeLine := by decide
  refine ⟨a, b, xs, ys, rfl, rfl, SqT.of h1, SqT.of h3, by omega, fun e => ?_, fun _ e => ?_, fun _ _ p hp => ?_⟩
  · exact q b H (Same.refl _) ⟨ys, h3, by subst e; cases h2; exact h4⟩
  · exact q a H (Same.refl _) ⟨xs, h1, by subst e; cases h4; rw [List.append_nil]; exact h2⟩
  · exact q p _ (Sm.new hp) ⟨_, upd_same, (h2.same (Sm.new hp)).app (h4.same (Sm.new hp))⟩
theorem sl_take {K : PySem.W.Frag} {H : Hp} {a : Addr} {kk : List Dn} {i : Nat} {Q : VK} (ha : TupD H a kk) (q : ∀ p H', Same H H' → TupD H' p (kk.take i) → Q (.ref p) H') : rSlA K (.ref a) none (some (i : Int)) H Q := by
  obtain ⟨xs, h1, h2⟩ := ha
  have l2 := h2.len
  refine ⟨a, xs, rfl, SqT.of h1, fun hw => ?_, fun hw p hp => ?_⟩
  · have h := hw.2
    rw [HT.sIx_nat] at h
    exact q a H (Same.refl _) ⟨xs, h1, by rw [List.take_of_length_le (by omega)]; exact h2⟩
  · rw [cut_take]
    exact q p _ (Sm.new hp) ⟨_, upd_same, (h2.same (Sm.new hp)).take i⟩
theorem NdAs.drop' {H : Hp} {vs : List V} {ds : List Dn} (h : NdAs H vs ds) : ∀ n : Nat, NdAs H (vs.drop n) (ds.drop n) := fun n => by
  induction n generalizing vs ds with
  | zero => rw [List.drop_zero, List.drop_zero]; exact h
  | succ n ih =>
    cases h with
    | nil => exact .nil
    | cons a b => exact ih b
theorem sl_drop {K : PySem.W.Frag} {H : Hp} {a : Addr} {kk : List Dn} {i : Nat} {Q : VK} (ha : TupD H a kk) (q : ∀ p H', Same H H' → TupD H' p (kk.drop i) → Q (.ref p) H') : rSlA K (.ref a) (some (i : Int)) none H Q := by
  obtain ⟨xs, h1, h2⟩ := ha
  have l2 := h2.len
  refine ⟨a, xs, rfl, SqT.of h1, fun hw => ?_, fun hw p hp => ?_⟩
  · have h := hw.1
    rw [HT.sIx_nat] at h
    by_cases c : i = 0
    · subst c
      exact q a H (Same.refl _) ⟨xs, h1, by rw [List.drop_zero]; exact h2⟩
    · have x0 : xs = [] := List.eq_nil_of_length_eq_zero (by omega)
      subst x0
      cases h2
      exact q a H (Same.refl _) ⟨[], h1, by rw [List.drop_nil]; exact .nil⟩
  · rw [cut_drop']
    exact q p _ (Sm.new hp) ⟨_, upd_same, (h2.same (Sm.new hp)).drop' i⟩
/-- nodes with one more ahead of a number -/
def putD (kk : List Dn) (d : Dn) (i : Nat) : List Dn := kk.take i ++ [d] ++ kk.drop i
def plcD (kk : List Dn) : Option Int → Option Nat
  | none => some kk.length
  | some m => placeD kk m
def spPut : Sp := fun vs H Q _ => ∃ (a : Addr) (u : V) (kk : List Dn) (d : Dn) (ah : Option Int) (i : Nat), vs = [.ref a, u, intV ah] ∧ TupD H a kk ∧ NdA H u d ∧ plcD kk ah = some i ∧ kk.length ≤ 1000 ∧ ∀ p H', Same H H' → TupD H' p (putD kk d i) → Q (.ref p) H'
section
variable {P : Program} {w : World} {K : PySem.W.Frag} {mg : Str → Option Value} {base : Heap} {C : Ad}
theorem sc_put_ahead : FnScope ["nodes", "node", "ahead", "index"] ["nodes", "node", "ahead"] (defScope s_put_ahead) := ⟨rfl, rfl, rfl, by decide +kernel, rfl, by decide +kernel, by decide +kernel⟩
theorem ok_put (T : Txt K w mg C) : Cal P w K mg base 2 "put_ahead" spPut := by
  have Gplace_among := ok_place (P := P) (base := base) T
  refine cal_of T.d_put_ahead sc_put_ahead (fun vs H Q E h => ?_) (fun f cdv A outer s H vs Q E hr h => ?_)
  · obtain ⟨a, u, kk, d, ah, i, rfl, _⟩ := h
    rfl
  · obtain ⟨a, u, kk, d, ah, i, rfl, ht, hd, hi, hl, q⟩ := h
    refine ⟨_, (pss_cons (ps_set (i := 3) sc_put_ahead.nd rfl (Or.inl rfl) (pe_ifExp (pt_cmp (pc_isN (pv 2))) (pe_callB call_len_seq (by rfl) T.z_len PySem.boot_len (pa_cons (pv 0) pa_nil)) (pe_c Gplace_among hr (by decide) (by rfl) (pa_cons (pv 0) (pa_cons (pv 2) pa_nil))))) (pss_one (ps_ret (pe_op op_catA (pe_op op_catA (pe_slice sl_tupA (pv 0) po_none (po_some (pv 3))) (pe_tup (pa_cons (pv 1) pa_nil))) (pe_slice sl_tupA (pv 0) (po_some (pv 3)) po_none))))), ?_⟩
    have fin : ∀ (H1 : Hp) (σ : L2.St), Same H H1 → σ[0]? = some (some (V.ref a)) → σ[1]? = some (some u) → σ[3]? = some (some (V.int (i : Int))) → tRet (tOp (rCatA K) (tOp (rCatA K) (tSl (rSlA K) (tVar 0) tNoPart (tPart (tVar 3))) (tTup (tCons (tVar 1) tNil))) (tSl (rSlA K) (tVar 0) (tPart (tVar 3)) tNoPart)) { nx := fun _ H' => Q V.non H', rt := Q } σ H1 := fun H1 σ s1 e0 e1 e3 => by
      refine ⟨_, e0, _, e3, _, rfl, sl_take (ht.same s1) fun p1 H2 s2 h2 => ?_⟩
      refine ⟨_, e1, by show 1 ≤ sizeLine; decide, fun p2 hp2 => ?_⟩
      have s3 := Sm.new (o := .tup [u]) hp2
      refine cat_tup (h2.same s3) (⟨[u], upd_same, .cons ((hd.same (Same.trans s1 s2)).same s3) .nil⟩ : TupD _ p2 [d]) (by rw [List.length_take]; show min i kk.length + 1 ≤ 3000; omega) fun p3 H4 s4 h4 => ?_
      have s14 := Same.trans s1 (Same.trans s2 (Same.trans s3 s4))
      refine ⟨_, e0, _, e3, _, rfl, ?_⟩
      unfold tNoPart
      dsimp only
      refine sl_drop (ht.same s14) fun p5 H5 s5 h5 => ?_
      exact cat_tup (h4.same s5) h5 (by rw [List.length_append, List.length_take, List.length_drop]; show min i kk.length + 1 + (kk.length - i) ≤ 3000; omega) fun p6 H6 s6 h6 => q p6 H6 (Same.trans s14 (Same.trans s5 s6)) h6
    obtain ⟨xs, h1, h2⟩ := ht
    have xl := h2.len
    cases ah with
    | none =>
      have ei : i = kk.length := (Option.some.inj hi).symm
      subst ei
      refine ⟨_, rfl, true, rfl, iteT ⟨_, rfl, a, _, rfl, .inr (SqT.of h1), ?_⟩⟩
      rw [xl]
      exact fin H _ (Same.refl _) rfl rfl rfl
    | some m =>
      have hi : placeD kk m = some i := hi
      refine ⟨_, rfl, false, rfl, iteF ⟨_, rfl, _, rfl, a, xs, kk, m, rfl, h1, h2, (fun e => by rw [hi] at e; cases e), fun i' H1 e s1 => ?_⟩⟩
      rw [hi] at e
      cases e
      exact fin H1 _ s1 rfl rfl rfl
end
end VL

set_option Elab.async false
set_option linter.all false
set_option pp.maxSteps 700
set_option maxRecDepth 100000
set_option maxHeartbeats 4000000
namespace VL
open PySem PySem.Spec PyProof.Rows L2
/-- what the law draws -/
inductive OpOk (ks : List Dn) : OpD → Prop
  | rem {p n : Int} : inD ks p → inD ks n → OpOk ks (.rem p n)
  | ins {p : Int} {d : Dn} {ah : Option Int} {f : Int} : inD ks p → AllD NamOk d → hN d ≤ 3 → (numN d).Sublist [f, f + 30, f + 60, f + 90] → 1 ≤ f → (∃ m, (inD ks m ∨ m = 0) ∧ f ≤ max m 99 + 60) → (∀ m, ah = some m → inD ks m) → OpOk ks (.ins p d ah)
  | mov {p n : Int} {ah : Option Int} : inD ks p → inD ks n → (∀ m, ah = some m → inD ks m) → OpOk ks (.mov p n ah)
  | txt {n : Int} {x : Str} : inD ks n → (reprText x).length ≤ 20 → OpOk ks (.txt n x)
  | set {n : Int} {k x : Str} : inD ks n → k ∈ [("id" : Str), "zz", "alt"] → (reprText x).length ≤ 20 → OpOk ks (.set n k x)
  | uns {n : Int} {k : Str} : inD ks n → k ∈ [("id" : Str), "alt", "class"] → OpOk ks (.uns n k)
def spDeed : Sp := fun vs H Q _ => ∃ (sa a : Addr) (s : Int) (xs : List V) (ks : List Dn) (G : Hp) (M : List (Addr × HO)), vs = [.ref sa, .ref a] ∧ Sb G H ((sa, .lst [.int s]) :: M) ∧ DocL G a xs ks ∧ (numS ks).length ≤ 900 ∧ ∀ u o s' G' H', Sb G' H' ((sa, .lst [.int s']) :: M) → Same G G' → OpA G' u o → OpOk ks o → Q u H'
section
variable {P : Program} {w : World} {K : PySem.W.Frag} {mg : Str → Option Value} {base : Heap} {C : Ad}
theorem sc__law_deed : FnScope ["state", "document", "word", "parent", "kid", "ahead", "first", "node", "k"] ["state", "document"] (defScope s__law_deed) := ⟨rfl, rfl, rfl, by decide +kernel, rfl, by decide +kernel, by decide +kernel⟩
theorem ok_deed (T : Txt K w mg C) : Cal P w K mg base 46 "_law_deed" spDeed := by
  have G_law_digit := ok_dig (P := P) (base := base) T
  have G_law_word := ok_word (P := P) (base := base) T
  have G_law_some := ok_some (P := P) (base := base) T
  have G_law_kid := ok_kid (P := P) (base := base) T
  have G_law_node := ln_N (P := P) (base := base) T 2
  refine cal_of T.d__law_deed sc__law_deed (fun vs H Q E h => ?_) (fun f cdv A outer s H vs Q E hr h => ?_)
  · obtain ⟨sa, a, s, xs, ks, G, M, rfl, _⟩ := h
    rfl
  · obtain ⟨sa, a, s0, xs, ks, G, M, rfl, S, dq, nl, q⟩ := h
    refine ⟨_, (pss_cons (ps_set (i := 2) sc__law_deed.nd rfl (Or.inl rfl) (pe_ix ix_tup (pe_tup (pa_cons pe_str (pa_cons pe_str (pa_cons pe_str (pa_cons pe_str (pa_cons pe_str (pa_cons pe_str (pa_cons pe_str pa_nil)))))))) (pe_c G_law_digit hr (by decide) (by rfl) (pa_cons (pv 0) (pa_cons pe_int pa_nil))) (fun _ _ => rfl))) (pss_cons (ps_set (i := 3) sc__law_deed.nd rfl (Or.inl rfl) (pe_c G_law_some hr (by decide) (by rfl) (pa_cons (pv 0) (pa_cons (pv 1) pa_nil)))) (pss_cons (ps_if (pt_cmpR op_eq (pv 2) pe_str (nomark _)) (pss_one (ps_ret (pe_tup (pa_cons (pv 2) (pa_cons (pv 3) (pa_cons (pe_c G_law_word hr (by decide) (by rfl) (pa_cons (pv 0) pa_nil)) pa_nil)))))) pss_nil) (pss_cons (ps_if (pt_cmpR op_eq (pv 2) pe_str (nomark _)) (pss_one (ps_ret (pe_tup (pa_cons (pv 2) (pa_cons (pv 3) (pa_cons (pe_ix ix_tup (pe_tup (pa_cons pe_str (pa_cons pe_str (pa_cons pe_str pa_nil)))) (pe_c G_law_digit hr (by decide) (by rfl) (pa_cons (pv 0) (pa_cons pe_int pa_nil))) (fun _ _ => rfl)) (pa_cons (pe_c G_law_word hr (by decide) (by rfl) (pa_cons (pv 0) pa_nil)) pa_nil))))))) pss_nil) (pss_cons (ps_if (pt_cmpR op_eq (pv 2) pe_str (nomark _)) (pss_one (ps_ret (pe_tup (pa_cons (pv 2) (pa_cons (pv 3) (pa_cons (pe_ix ix_tup (pe_tup (pa_cons pe_str (pa_cons pe_str (pa_cons pe_str pa_nil)))) (pe_c G_law_digit hr (by decide) (by rfl) (pa_cons (pv 0) (pa_cons pe_int pa_nil))) (fun _ _ => rfl)) pa_nil)))))) pss_nil) (pss_cons (ps_set (i := 4) sc__law_deed.nd rfl (Or.inl rfl) (pe_c G_law_kid hr (by decide) (by rfl) (pa_cons (pv 0) (pa_cons (pv 1) (pa_cons (pv 3) pa_nil))))) (pss_cons (ps_if (pt_cmpR op_eq (pv 2) pe_str (nomark _)) (pss_one (ps_ret (pe_tup (pa_cons (pv 2) (pa_cons (pv 3) (pa_cons (pv 4) pa_nil)))))) pss_nil) (pss_cons (ps_set (i := 5) sc__law_deed.nd rfl (Or.inl rfl) pe_non) (C8.pss_cut (ps_if (pt_cmpR op_gt (pe_c G_law_digit hr (by decide) (by rfl) (pa_cons (pv 0) (pa_cons pe_int pa_nil))) pe_int (nomark _)) (pss_one (ps_set (i := 5) sc__law_deed.nd rfl (Or.inl rfl) (pe_c G_law_kid hr (by decide) (by rfl) (pa_cons (pv 0) (pa_cons (pv 1) (pa_cons (pv 3) pa_nil)))))) pss_nil) (pss_cons (ps_if (pt_cmpR op_eq (pv 2) pe_str (nomark _)) (pss_one (ps_ret (pe_tup (pa_cons (pv 2) (pa_cons (pv 3) (pa_cons (pv 4) (pa_cons (pv 5) pa_nil))))))) pss_nil) (pss_cons (ps_set (i := 6) sc__law_deed.nd rfl (Or.inr rfl) (pe_op op_add pe_int (pe_c G_law_digit hr (by decide) (by rfl) (pa_cons (pv 0) (pa_cons pe_int pa_nil))))) (C8.pss_cut (ps_if (pt_cmpR op_eq (pe_c G_law_digit hr (by decide) (by rfl) (pa_cons (pv 0) (pa_cons pe_int pa_nil))) pe_int (nomark _)) (pss_one (ps_set (i := 6) sc__law_deed.nd rfl (Or.inr rfl) (pe_op op_add (pe_c G_law_some hr (by decide) (by rfl) (pa_cons (pv 0) (pa_cons (pv 1) pa_nil))) (pe_op op_mul (pe_callTy call_int1 (by rfl) T.z_int (by decide +kernel) (pa_cons (pe_cmpR op_gt (pe_c G_law_digit hr (by decide) (by rfl) (pa_cons (pv 0) (pa_cons pe_int pa_nil))) pe_int (nomark _)) pa_nil)) pe_int)))) pss_nil) (pss_cons (ps_set (i := 7) sc__law_deed.nd rfl (Or.inl rfl) (pe_c G_law_node hr (by decide) (by rfl) (pa_cons (pv 0) (pa_cons pe_int (pa_cons (pe_lc (own := [("k", 8)]) (g := gName 8) (tt := tYes) rfl sc__law_deed.nd (pi_range3 (by rfl) T.z_range (pa_cons pe_int (pa_cons (pe_un un_neg pe_int) (pa_cons (pe_un un_neg pe_int) pa_nil)))) (blkOk_by (N := ["state", "document", "word", "parent", "kid", "ahead", "first", "node", "k"]) (sc := (defScope s__law_deed)) (by decide +kernel)) (fun _ _ _ _ _ => pg_name (i := 8) sc__law_deed.nd rfl (Or.inl rfl)) (fun _ _ _ _ _ => pts_nil) (fun _ _ _ _ _ => (pe_op op_add (pe_callB (call_max2 rfl) (by rfl) T.z_max (by decide +kernel) (pa_cons pe_int (pa_cons (pv 6) pa_nil))) (pe_op op_mul pe_int (pv 8))))) pa_nil))))) (pss_one (ps_ret (pe_tup (pa_cons (pv 2) (pa_cons (pv 3) (pa_cons (pv 7) (pa_cons (pv 5) pa_nil)))))))))))))))))))), ?_⟩
    refine ⟨by show 7 ≤ sizeLine; decide, fun t ht => ?_⟩
    have S1 := S.alloc (o := .tup [V.str "remove", .str "insert", .str "move", .str "move", .str "text", .str "set", .str "unset"]) ht
    have g1 := S.grow (o := .tup [V.str "remove", .str "insert", .str "move", .str "move", .str "text", .str "set", .str "unset"]) ht
    have ht1 : upd G t (.tup [V.str "remove", .str "insert", .str "move", .str "move", .str "text", .str "set", .str "unset"]) t = some (.tup [V.str "remove", .str "insert", .str "move", .str "move", .str "text", .str "set", .str "unset"]) := upd_same
    generalize upd G t (.tup [V.str "remove", .str "insert", .str "move", .str "move", .str "text", .str "set", .str "unset"]) = G1 at S1 g1 ht1
    refine ⟨_, rfl, sa, s0, 7, rfl, S1.hd, by decide, by decide, fun z s2 z0 z1 => ?_⟩
    have S2 := S1.put (u := .lst [.int s2])
    obtain ⟨c, hc, hm⟩ := atI_mem (xs := [V.str "remove", .str "insert", .str "move", .str "move", .str "text", .str "set", .str "unset"]) z0 z1
    refine ⟨t, _, _, _, rfl, rfl, SqT.of (S2.s _ _ ht1), hc, ?_⟩
    clear hc ht1 z0 z1
    refine ⟨_, rfl, _, rfl, sa, a, s2, xs, ks, G1, M, rfl, S2, dq.same g1, nl, fun par s3 G3 H3 S3 g3 hpar => ?_⟩
    obtain ⟨w0, rfl⟩ : ∃ w0 : Str, c = .str w0 := by
      simp only [List.mem_cons, List.not_mem_nil, or_false] at hm
      rcases hm with rfl | rfl | rfl | rfl | rfl | rfl | rfl <;> exact ⟨_, rfl⟩
    have isw : ∀ {x y : Str}, decide (V.str x = V.str y) = true → x = y := fun h => V.str.inj (of_decide_eq_true h)
    have g03 := Same.trans g1 g3
    refine ⟨_, rfl, rfl, _, rfl, ite2 (fun c => ?_) (fun c1 => ?_)⟩
    · have e := isw c
      subst e
      refine ⟨_, rfl, _, rfl, _, rfl, sa, s3, G3, M, rfl, S3, fun x s4 G4 H4 S4 g4 xl => ⟨by show 3 ≤ sizeLine; decide, fun t2 ht2 => ?_⟩⟩
      exact q (.ref t2) (.txt par x) s4 _ _ (S4.alloc ht2) (Same.trans g03 (Same.trans g4 (S4.grow ht2))) (.txt upd_same) (.txt hpar xl)
    refine ⟨_, rfl, rfl, _, rfl, ite2 (fun c => ?_) (fun c2 => ?_)⟩
    · have e := isw c
      subst e
      refine ⟨_, rfl, _, rfl, by show 3 ≤ sizeLine; decide, fun t2 ht2 => ?_⟩
      have S4 := S3.alloc (o := .tup [V.str "id", .str "zz", .str "alt"]) ht2
      have g4 := S3.grow (o := .tup [V.str "id", .str "zz", .str "alt"]) ht2
      have ht4 : upd G3 t2 (.tup [V.str "id", .str "zz", .str "alt"]) t2 = some (.tup [V.str "id", .str "zz", .str "alt"]) := upd_same
      generalize upd G3 t2 (.tup [V.str "id", .str "zz", .str "alt"]) = G4 at S4 g4 ht4
      refine ⟨_, rfl, sa, s3, 3, rfl, S4.hd, by decide, by decide, fun z s5 z0 z1 => ?_⟩
      have S5 := S4.put (u := .lst [.int s5])
      obtain ⟨c, hc, hcm⟩ := atI_mem (xs := [V.str "id", .str "zz", .str "alt"]) z0 z1
      obtain ⟨nm, rfl, hnm⟩ : ∃ nm : Str, c = .str nm ∧ nm ∈ [("id" : Str), "zz", "alt"] := by
        simp only [List.mem_cons, List.not_mem_nil, or_false] at hcm
        rcases hcm with rfl | rfl | rfl <;> exact ⟨_, rfl, by simp⟩
      refine ⟨t2, _, _, _, rfl, rfl, SqT.of (S5.s _ _ ht4), hc, _, rfl, sa, s5, G4, M, rfl, S5, fun x s6 G6 H6 S6 g6 xl => ⟨by show 4 ≤ sizeLine; decide, fun t7 ht7 => ?_⟩⟩
      exact q (.ref t7) (.set par nm x) s6 _ _ (S6.alloc ht7) (Same.trans g03 (Same.trans g4 (Same.trans g6 (S6.grow ht7)))) (.set upd_same) (.set hpar hnm xl)
    refine ⟨_, rfl, rfl, _, rfl, ite2 (fun c => ?_) (fun c3 => ?_)⟩
    · have e := isw c
      subst e
      refine ⟨_, rfl, _, rfl, by show 3 ≤ sizeLine; decide, fun t2 ht2 => ?_⟩
      have S4 := S3.alloc (o := .tup [V.str "id", .str "alt", .str "class"]) ht2
      have g4 := S3.grow (o := .tup [V.str "id", .str "alt", .str "class"]) ht2
      have ht4 : upd G3 t2 (.tup [V.str "id", .str "alt", .str "class"]) t2 = some (.tup [V.str "id", .str "alt", .str "class"]) := upd_same
      generalize upd G3 t2 (.tup [V.str "id", .str "alt", .str "class"]) = G4 at S4 g4 ht4
      refine ⟨_, rfl, sa, s3, 3, rfl, S4.hd, by decide, by decide, fun z s5 z0 z1 => ?_⟩
      have S5 := S4.put (u := .lst [.int s5])
      obtain ⟨c, hc, hcm⟩ := atI_mem (xs := [V.str "id", .str "alt", .str "class"]) z0 z1
      obtain ⟨nm, rfl, hnm⟩ : ∃ nm : Str, c = .str nm ∧ nm ∈ [("id" : Str), "alt", "class"] := by
        simp only [List.mem_cons, List.not_mem_nil, or_false] at hcm
        rcases hcm with rfl | rfl | rfl <;> exact ⟨_, rfl, by simp⟩
      refine ⟨t2, _, _, _, rfl, rfl, SqT.of (S5.s _ _ ht4), hc, by show 3 ≤ sizeLine; decide, fun t7 ht7 => ?_⟩
      exact q (.ref t7) (.uns par nm) s5 _ _ (S5.alloc ht7) (Same.trans g03 (Same.trans g4 (S5.grow ht7))) (.uns upd_same) (.uns hpar hnm)
    refine ⟨_, rfl, _, rfl, _, rfl, sa, a, s3, par, xs, ks, G3, M, rfl, S3, dq.same g03, nl, fun kid s4 G4 H4 S4 g4 hkid => ?_⟩
    have g04 := Same.trans g03 g4
    refine ⟨_, rfl, rfl, _, rfl, ite2 (fun c => ?_) (fun c4 => ?_)⟩
    · have e := isw c
      subst e
      refine ⟨_, rfl, _, rfl, _, rfl, by show 3 ≤ sizeLine; decide, fun t2 ht2 => ?_⟩
      exact q (.ref t2) (.rem par kid) s4 _ _ (S4.alloc ht2) (Same.trans g04 (S4.grow ht2)) (.rem upd_same) (.rem hpar hkid)

    refine ⟨fun σ' H' => ∃ (ah : Option Int) (s' : Int) (G' : Hp), Sb G' H' ((sa, .lst [.int s']) :: M) ∧ Same G G' ∧ (∀ m, ah = some m → inD ks m) ∧ σ' = [some (.ref sa), some (.ref a), some (.str w0), some (.int par), some (.int kid), some (intV ah), none, none, none], ?_, ?_⟩
    · refine ⟨_, rfl, sa, s4, 3, rfl, S4.hd, by decide, by decide, fun z s5 z0 z1 => ?_⟩
      have S5 := S4.put (u := .lst [.int s5])
      refine ⟨_, _, rfl, rfl, _, rfl, ite2 (fun _ => ?_) (fun _ => ⟨none, s5, G4, S5, g04, (fun _ h => nomatch h), rfl⟩)⟩
      exact ⟨_, rfl, _, rfl, _, rfl, sa, a, s5, par, xs, ks, G4, M, rfl, S5, dq.same g04, nl, fun m s6 G6 H6 S6 g6 hm => ⟨some m, s6, G6, S6, Same.trans g04 g6, (fun _ e => by cases e; exact hm), rfl⟩⟩
    rintro σ' H' ⟨ah, s5, G5, S5, g05, hah, rfl⟩
    refine ⟨_, rfl, rfl, _, rfl, ite2 (fun c => ?_) (fun c5 => ?_)⟩
    · have e := isw c
      subst e
      refine ⟨_, rfl, _, rfl, _, rfl, _, rfl, by show 4 ≤ sizeLine; decide, fun t2 ht2 => ?_⟩
      exact q (.ref t2) (.mov par kid ah) s5 _ _ (S5.alloc ht2) (Same.trans g05 (S5.grow ht2)) (.mov upd_same) (.mov hpar hkid hah)
    have ew : w0 = "insert" := by
      simp only [List.mem_cons, List.not_mem_nil, or_false, V.str.injEq] at hm
      rcases hm with rfl | rfl | rfl | rfl | rfl | rfl | rfl
      · exact absurd (by decide) c4
      · rfl
      · exact absurd (by decide) c5
      · exact absurd (by decide) c5
      · exact absurd (by decide) c1
      · exact absurd (by decide) c2
      · exact absurd (by decide) c3
    subst ew
    refine ⟨_, rfl, sa, s5, 9, rfl, S5.hd, by decide, by decide, fun z s6 z0 z1 => ⟨_, _, rfl, rfl, ?_⟩⟩
    have S6 := S5.put (u := .lst [.int s6])
    refine ⟨fun σ' H' => ∃ (f : Int) (s' : Int) (G' : Hp), Sb G' H' ((sa, .lst [.int s']) :: M) ∧ Same G G' ∧ (∃ m, (inD ks m ∨ m = 0) ∧ f ≤ max m 99 + 60) ∧ σ' = [some (.ref sa), some (.ref a), some (.str "insert"), some (.int par), some (.int kid), some (intV ah), some (.int f), none, none], ?_, ?_⟩
    · refine ⟨_, rfl, sa, s6, 2, rfl, S6.hd, by decide, by decide, fun z7 s7 z70 z71 => ⟨rfl, _, rfl, ite2 (fun _ => ?_) (fun _ => ⟨_, s7, G5, S6.put, g05, ⟨0, .inr rfl, by omega⟩, rfl⟩)⟩⟩
      have S7 := S6.put (u := .lst [.int s7])
      refine ⟨_, rfl, _, rfl, sa, a, s7, xs, ks, G5, M, rfl, S7, dq.same g05, nl, fun m s8 G8 H8 S8 g8 hm => ?_⟩
      refine ⟨_, rfl, sa, s8, 5, rfl, S8.hd, by decide, by decide, fun z9 s9 z90 z91 => ⟨_, _, rfl, rfl, .inr ⟨_, rfl, ?_⟩⟩⟩
      have cm : CMul (if decide (0 < z9) = true then 1 else 0) 60 := .inr ⟨by decide, by decide⟩
      refine ⟨_, _, rfl, rfl, cm, _, _, rfl, rfl, m + (if decide (0 < z9) = true then 1 else 0) * 60, s9, G8, S8.put, Same.trans g05 g8, ⟨m, .inl hm, ?_⟩, rfl⟩
      split <;> omega
    rintro σ' H' ⟨f, s7, G7, S7, g07, hf, rfl⟩
    obtain ⟨fm, hfe⟩ : ∃ fm : Int, (if f > 1 then f else 1) = fm := ⟨_, rfl⟩
    have f1 : 1 ≤ fm := by rw [← hfe]; split <;> omega
    have f2 : fm = f ∨ fm = 1 := by rw [← hfe]; split <;> omega
    refine ⟨_, rfl, 1, rfl, 1, rfl, 3, -1, -1, 4, rfl, RgC.neg (by decide) (by decide) (by decide) (by decide), fun D hD => ?_⟩
    have S8 := S7.add (o := .lst []) hD
    refine lc_it (walk_rangeC (lo := 3) (c := -1) (n := 4)) (fun j H' => Sb G7 H' ((D, .lst (([fm + 90, fm + 60, fm + 30, fm].take j).map V.int)) :: (sa, .lst [.int s7]) :: M)) S8 (fun _ _ _ _ => trivial) ?_ ?_
    · rintro j x H9 H10 hj S9 ⟨rfl, rfl⟩
      refine ⟨rfl, _, rfl, 1, f, rfl, ?_⟩
      have cm : CMul 30 (3 + (j : Nat) * -1) := .inl ⟨by decide, by decide⟩
      refine ⟨_, rfl, _, _, rfl, rfl, cm, _, _, rfl, rfl, _, S9.hd, ?_, ?_⟩
      · rw [List.length_map, List.length_take]
        exact Nat.lt_of_le_of_lt (show min j 4 ≤ 4 by omega) (by decide)
      · refine S9.put.eqo (congrArg HO.lst ?_)
        rw [hfe]
        rcases (show j = 0 ∨ j = 1 ∨ j = 2 ∨ j = 3 by omega) with rfl | rfl | rfl | rfl <;> simp
    · rintro H9 S9
      refine ⟨2, sa, D, s7, [fm + 90, fm + 60, fm + 30, fm], G7, M, rfl, Nat.le_refl _, (fun z => nomatch z), by show 4 ≤ 100; decide, S9, fun v d pool' s8 G8 H8 S10 g8 hv hd hdN ep => ?_⟩
      refine ⟨_, rfl, _, rfl, _, rfl, _, rfl, by show 4 ≤ sizeLine; decide, fun t2 ht2 => ?_⟩
      obtain ⟨S11, g11⟩ := S10.drop
      have sub : (numN d).Sublist [fm, fm + 30, fm + 60, fm + 90] := by
        have : (numN d).reverse.Sublist [fm + 90, fm + 60, fm + 30, fm] := by rw [ep]; exact List.sublist_append_right _ _
        have := this.reverse
        rw [List.reverse_reverse] at this
        exact this
      have gz := Same.trans g11 (S11.grow (o := .tup [.str "insert", .int par, v, intV ah]) ht2)
      refine q (.ref t2) (.ins par d ah) s8 _ _ (S11.alloc ht2) (Same.trans g07 (Same.trans g8 gz)) (.ins upd_same (hv.same gz)) (.ins hpar hd (by have := hN_dN d; omega) sub f1 ?_ hah)
      rcases f2 with rfl | rfl
      · exact hf
      · exact ⟨0, .inr rfl, by omega⟩
end
end VL

set_option Elab.async false
set_option linter.all false
set_option pp.maxSteps 700
set_option maxRecDepth 100000
set_option maxHeartbeats 4000000
namespace VL
open PySem PySem.Spec PyProof.Rows L2
/-! nodes with one in the place of the one that has its number -/
mutual
def wnN (d : Dn) : Dn → Option Dn
  | .tx n x => if n = d.num then some d else none
  | .el n t as ks => if n = d.num then some d else (wnS d ks).map fun kk => .el n t as kk
def wnS (d : Dn) : List Dn → Option (List Dn)
  | [] => none
  | o :: r => match wnN d o with
    | some o' => some (o' :: r)
    | none => (wnS d r).map fun r' => o :: r'
end
def chN (d : Dn) : Dn → Option Dn
  | .tx _ _ => none
  | .el n t as ks => (wnS d ks).map fun kk => .el n t as kk
theorem wnN_eq (d : Dn) : ∀ o : Dn, wnN d o = if o.num = d.num then some d else chN d o
  | .tx n x => by simp only [wnN, chN]; rfl
  | .el n t as ks => by simp only [wnN, chN]; rfl
theorem wnS_none {d : Dn} : ∀ {ks : List Dn}, (∀ (i : Nat) (e : Dn), ks[i]? = some e → wnN d e = none) → wnS d ks = none
  | [], _ => by simp only [wnS]
  | o :: r, h => by
    have h0 := h 0 o rfl
    have hr := wnS_none (ks := r) fun i e he => h (i + 1) e (by simpa using he)
    simp only [wnS, h0, hr, Option.map_none]
theorem wnS_at {d o o' : Dn} : ∀ {ks : List Dn} {j : Nat}, ks[j]? = some o → (∀ (i : Nat) (e : Dn), i < j → ks[i]? = some e → wnN d e = none) → wnN d o = some o' → wnS d ks = some (ks.take j ++ [o'] ++ ks.drop (j + 1))
  | [], j, h, _, _ => by simp at h
  | e :: r, 0, h, _, h2 => by
    have e1 : e = o := by simpa using h
    subst e1
    simp only [wnS, h2]
    simp
  | e :: r, j + 1, h, no, h2 => by
    have h0 := no 0 e (Nat.zero_lt_succ _) rfl
    have hr := wnS_at (ks := r) (j := j) (by simpa using h) (fun i e' hi he => no (i + 1) e' (by omega) (by simpa using he)) h2
    simp only [wnS, h0, hr, Option.map_some]
    simp
def spWith (N : Nat) : Sp := fun vs H Q _ => ∃ (a : Addr) (u : V) (ks : List Dn) (d : Dn), vs = [.ref a, u] ∧ TupD H a ks ∧ NdA H u d ∧ hS ks ≤ N ∧ (numS ks).length ≤ 1000 ∧ (wnS d ks = none → ∀ H', Same H H' → Q .non H') ∧ ∀ kk p H', wnS d ks = some kk → Same H H' → TupD H' p kk → Q (.ref p) H'
def spChW (N : Nat) : Sp := fun vs H Q _ => ∃ (v u : V) (o d : Dn), vs = [v, u] ∧ NdA H v o ∧ NdA H u d ∧ hN o ≤ N ∧ (numN o).length ≤ 1000 ∧ (chN d o = none → ∀ H', Same H H' → Q .non H') ∧ ∀ o' v' H', chN d o = some o' → Same H H' → NdA H' v' o' → Q v' H'
section
variable {P : Program} {w : World} {K : PySem.W.Frag} {mg : Str → Option Value} {base : Heap} {C : Ad}
theorem sc_with_node : FnScope ["nodes", "node", "index", "old", "new"] ["nodes", "node"] (defScope s_with_node) := ⟨rfl, rfl, rfl, by decide +kernel, rfl, by decide +kernel, by decide +kernel⟩
theorem sc_changed_within : FnScope ["old", "node", "kids"] ["old", "node"] (defScope s_changed_within) := ⟨rfl, rfl, rfl, by decide +kernel, rfl, by decide +kernel, by decide +kernel⟩
theorem wn_S (T : Txt K w mg C) {N : Nat} (Gchanged_within : Cal P w K mg base (2 * N + 2) "changed_within" (spChW N)) : Cal P w K mg base (2 * N + 3) "with_node" (spWith N) := by
  refine cal_of T.d_with_node sc_with_node (fun vs H Q E h => ?_) (fun f cdv A outer s H vs Q E hr h => ?_)
  · obtain ⟨a, u, ks, d, rfl, _⟩ := h
    rfl
  · obtain ⟨a, u, ks, d, rfl, ⟨xs, ha, hxs⟩, hd, hN, hl, q0, q1⟩ := h
    have xl := hxs.len
    have kl := len_num ks
    refine ⟨_, (pss_cons (ps_for PassesOwn.never rfl (pi_enumT (by rfl) T.z_enumerate (pa_cons (pv 0) pa_nil)) (pg_tup rfl (pgs_cons (pg_name (i := 2) sc_with_node.nd rfl (Or.inl rfl)) (pgs_cons (pg_name (i := 3) sc_with_node.nd rfl (Or.inl rfl)) pgs_nil))) (pss_cons (ps_set (i := 4) sc_with_node.nd rfl (Or.inl rfl) (pe_ifExp (pt_cmpR op_eq (pe_ix ix_tup (pv 3) pe_int (fun _ _ => rfl)) (pe_ix ix_tup (pv 1) pe_int (fun _ _ => rfl)) (nomark _)) (pv 1) (pe_c Gchanged_within hr (by omega) (by rfl) (pa_cons (pv 3) (pa_cons (pv 1) pa_nil))))) (pss_one (ps_if (pt_cmp (pc_notN (pv 4))) (pss_one (ps_ret (pe_op op_catA (pe_op op_catA (pe_slice sl_tupA (pv 0) po_none (po_some (pv 2))) (pe_tup (pa_cons (pv 4) pa_nil))) (pe_slice sl_tupA (pv 0) (po_some (pe_op op_add (pv 2) pe_int)) po_none)))) pss_nil)))) (pss_one (ps_ret pe_non))), ?_⟩
    refine ⟨_, rfl, a, _, rfl, SqT.of ha, ?_⟩
    refine for_it (walk_enumT (K := K) (a := a) (xs := xs)) (fun j σ H' => Same H H' ∧ (∃ y2 y3 y4, σ = [some (.ref a), some u, y2, y3, y4]) ∧ ∀ (i : Nat) (e : Dn), i < j → ks[i]? = some e → wnN d e = none) ⟨Same.refl _, ⟨_, _, _, rfl⟩, fun i _ h => absurd h (Nat.not_lt_zero _)⟩ (fun j σ H' _ z => SqT.of (z.1 _ _ ha)) ?_ ?_
    · rintro j v σ H2 H3 hj ⟨s2, ⟨y2, y3, y4, rfl⟩, no⟩ ⟨T0, x, y, rfl, hT, rfl, hy1, hy2⟩
      cases hy1
      obtain ⟨o, ho, hyo⟩ := hxs.get' hy2
      have om := List.mem_of_getElem? ho
      obtain ⟨b, ys, rfl, hb⟩ := hyo.at
      obtain ⟨b2, ys2, rfl, hb2⟩ := hd.at
      have s3 := Same.trans s2 (Sm.new (o := .tup [V.int (j : Int), .ref b]) hT)
      refine ⟨_, _, rfl, SqT.of upd_same, rfl, _, _, rfl, _, _, rfl, rfl, ?_⟩
      generalize upd H2 T0 (.tup [V.int (j : Int), .ref b]) = H3 at s3 ⊢
      have ret : ∀ (o' : Dn) (v' : V) (H4 : Hp) (σ : L2.St), Same H3 H4 → NdA H4 v' o' → wnN d o = some o' → σ[0]? = some (some (V.ref a)) → σ[2]? = some (some (V.int (j : Int))) → σ[4]? = some (some v') → tRet (tOp (rCatA K) (tOp (rCatA K) (tSl (rSlA K) (tVar 0) tNoPart (tPart (tVar 2))) (tTup (tCons (tVar 4) tNil))) (tSl (rSlA K) (tVar 0) (tPart (tOp (rI0 fun i j => V.int (i + j)) (tVar 2) (tC (V.int 1)))) tNoPart)) { nx := fun _ H' => Q V.non H', rt := Q } σ H4 := by
        intro o' v' H4 σ s4 hv ho' e0 e2 e4
        have s34 := Same.trans s3 s4
        have ht : TupD H4 a ks := ⟨xs, s34 _ _ ha, hxs.same s34⟩
        have ew := wnS_at ho no ho'
        refine ⟨_, e0, _, e2, _, rfl, sl_take ht fun p1 H5 s5 h5 => ?_⟩
        refine ⟨_, e4, by show 1 ≤ sizeLine; decide, fun p2 hp2 => ?_⟩
        have s6 := Sm.new (o := .tup [v']) hp2
        refine cat_tup (h5.same s6) (⟨[v'], upd_same, .cons (hv.same (Same.trans s5 s6)) .nil⟩ : TupD _ p2 [o']) (by rw [List.length_take]; show min j ks.length + 1 ≤ 3000; omega) fun p3 H7 s7 h7 => ?_
        have s47 := Same.trans s5 (Same.trans s6 s7)
        refine ⟨_, e0, _, e2, _, _, rfl, rfl, _, rfl, ?_⟩
        unfold tNoPart
        dsimp only
        rw [show ((j : Nat) : Int) + 1 = ((j + 1 : Nat) : Int) from rfl]
        refine sl_drop (ht.same s47) fun p8 H8 s8 h8 => ?_
        refine cat_tup (h7.same s8) h8 (by rw [List.length_append, List.length_take, List.length_drop]; show min j ks.length + 1 + (ks.length - (j + 1)) ≤ 3000; omega) fun p9 H9 s9 h9 => ?_
        exact q1 _ p9 H9 ew (Same.trans s34 (Same.trans s47 (Same.trans s8 s9))) h9
      have e1 := wnN_eq d o
      refine ⟨_, rfl, b, _, _, _, rfl, rfl, SqT.of (s3 _ _ hb), at_1, _, rfl, b2, _, _, _, rfl, rfl, SqT.of (s3 _ _ hb2), at_1, rfl, _, rfl, ite2 (fun c => ?_) (fun c => ?_)⟩
      · have c' : o.num = d.num := V.int.inj (of_decide_eq_true c)
        rw [if_pos c'] at e1
        exact ⟨_, rfl, _, rfl, true, rfl, iteT (ret d (.ref b2) H3 _ (Same.refl _) (hd.same s3) e1 rfl rfl rfl)⟩
      · have c' : ¬ o.num = d.num := fun z => c (decide_eq_true (by rw [z]))
        rw [if_neg c'] at e1
        have h1 := hS_mem om
        have h2 := num_mem om
        refine ⟨_, rfl, _, rfl, .ref b, .ref b2, o, d, rfl, hyo.same s3, hd.same s3, by omega, by omega, fun e H4 s4 => ?_, fun o' v' H4 e s4 hv => ?_⟩
        · rw [e] at e1
          refine ⟨_, rfl, false, rfl, iteF ⟨Same.trans s3 s4, ⟨_, _, _, rfl⟩, fun i e' hi he => ?_⟩⟩
          rcases Nat.lt_succ_iff_lt_or_eq.mp hi with hi | rfl
          · exact no i e' hi he
          · rw [ho] at he
            cases he
            exact e1
        · rw [e] at e1
          obtain ⟨b4, ys4, rfl, hb4⟩ := hv.at
          exact ⟨_, rfl, true, rfl, iteT (ret o' (.ref b4) H4 _ s4 hv e1 rfl rfl rfl)⟩
    · rintro σ H2 ⟨s2, ⟨y2, y3, y4, rfl⟩, no⟩
      exact q0 (wnS_none fun i e h => no i e (by rw [xl]; exact (List.getElem?_eq_some_iff.mp h).1) h) H2 s2
theorem ch_0 (T : Txt K w mg C) : Cal P w K mg base 2 "changed_within" (spChW 0) := by
  refine cal_of T.d_changed_within sc_changed_within (fun vs H Q E h => ?_) (fun f cdv A outer s H vs Q E hr h => ?_)
  · obtain ⟨v, u, o, d, rfl, _⟩ := h
    rfl
  · obtain ⟨v, u, o, d, rfl, _, _, h1, _⟩ := h
    have := hN_eq (d := o)
    omega
theorem ch_S (T : Txt K w mg C) {N : Nat} (Gwith_node : Cal P w K mg base (2 * N + 3) "with_node" (spWith N)) : Cal P w K mg base (2 * (N + 1) + 2) "changed_within" (spChW (N + 1)) := by
  have Gkids_in := ok_kids (P := P) (base := base) T
  refine cal_of T.d_changed_within sc_changed_within (fun vs H Q E h => ?_) (fun f cdv A outer s H vs Q E hr h => ?_)
  · obtain ⟨v, u, o, d, rfl, _⟩ := h
    rfl
  · obtain ⟨v, u, o, d, rfl, ho, hd, hN, hl, q0, q1⟩ := h
    refine ⟨_, (pss_cons (ps_set (i := 2) sc_changed_within.nd rfl (Or.inl rfl) (pe_c Gwith_node hr (by omega) (by rfl) (pa_cons (pe_c Gkids_in hr (by omega) (by rfl) (pa_cons (pv 0) pa_nil)) (pa_cons (pv 1) pa_nil)))) (pss_cons (ps_if (pt_cmp (pc_isN (pv 2))) (pss_one (ps_ret pe_non)) pss_nil) (pss_one (ps_ret (pe_op op_catA (pe_slice sl_tupA (pv 0) po_none (po_some pe_int)) (pe_tup (pa_cons (pv 2) pa_nil))))))), ?_⟩
    have e1 := hN_eq (d := o)
    have e2 := num_kids (d := o)
    refine ⟨_, rfl, v, o, H, rfl, Same.refl _, ho, fun p xs H1 s1 hp hx => ?_⟩
    refine ⟨_, rfl, p, u, o.kids, d, rfl, ⟨xs, hp, hx.same s1⟩, hd.same s1, by omega, by omega, fun e H2 s2 => ?_, fun kk p2 H2 e s2 h2 => ?_⟩
    · refine ⟨_, rfl, true, rfl, iteT (q0 ?_ H2 (Same.trans s1 s2))⟩
      cases o with
      | tx n x => rfl
      | el n t as ks =>
        have e : wnS d ks = none := e
        simp only [chN, e, Option.map_none]
    · refine ⟨_, rfl, false, rfl, iteF ?_⟩
      have s12 := Same.trans s1 s2
      cases ho with
      | tx h => exact absurd e (by simp [Dn.kids, wnS])
      | @el b pk n t va as vs ks h1 hA hk hs =>
        have e : wnS d ks = some kk := e
        have e3 : chN d (.el n t as ks) = some (.el n t as kk) := by simp only [chN, e, Option.map_some]
        obtain ⟨ys, h3, h4⟩ := h2
        have hb2 := s12 _ _ h1
        refine ⟨_, rfl, _, rfl, b, _, rfl, SqT.of hb2, fun hw => absurd hw.2 (show ¬ HT.sIx 5 5 (some 4) = 5 by decide), fun _ p4 hp4 => ?_⟩
        have s4 := Sm.new (o := .tup (cutV [V.str "element", .int n, .str t, va, .ref pk] none (some 4))) hp4
        refine ⟨_, rfl, by show 1 ≤ sizeLine; decide, fun p5 hp5 => ?_⟩
        have s5 := Sm.new (o := .tup [V.ref p2]) hp5
        refine ⟨p4, p5, [.str "element", .int n, .str t, va], [.ref p2], rfl, rfl, SqT.of (s5 _ _ upd_same), SqT.of upd_same, by show 5 ≤ sizeLine; decide, (fun z => nomatch z), (fun _ z => nomatch z), fun _ _ p6 hp6 => ?_⟩
        have s6 := Sm.new (o := .tup [V.str "element", .int n, .str t, va, .ref p2]) hp6
        have s26 := Same.trans s4 (Same.trans s5 s6)
        exact q1 _ (.ref p6) _ e3 (Same.trans s12 s26) (.el upd_same (hA.same (Same.trans s12 s26)) (s26 _ _ h3) (h4.same s26))
theorem wn_N (T : Txt K w mg C) : ∀ n : Nat, Cal P w K mg base (2 * n + 3) "with_node" (spWith n)
  | 0 => wn_S T (N := 0) (ch_0 T)
  | n + 1 => wn_S T (N := n + 1) (ch_S T (wn_N T n))
end
end VL

set_option Elab.async false
set_option linter.all false
set_option pp.maxSteps 700
set_option maxRecDepth 100000
set_option maxHeartbeats 4000000
namespace VL
open PySem PySem.Spec PyProof.Rows L2 S2S
mutual
theorem wnN_in {d : Dn} : ∀ {o : Dn}, d.num ∈ numN o → (wnN d o).isSome = true
  | .tx n x, h => by
    simp only [numN, List.mem_singleton] at h
    simp only [wnN, h.symm, if_true, Option.isSome_some]
  | .el n t as ks, h => by
    simp only [numN, List.mem_cons] at h
    simp only [wnN]
    by_cases c : n = d.num
    · rw [if_pos c]
      rfl
    · rw [if_neg c, Option.isSome_map]
      rcases h with h | h
      · exact absurd h.symm c
      · exact wnS_in h
theorem wnS_in {d : Dn} : ∀ {ks : List Dn}, d.num ∈ numS ks → (wnS d ks).isSome = true
  | [], h => by simp [numS] at h
  | o :: r, h => by
    simp only [numS, List.mem_append] at h
    simp only [wnS]
    cases e : wnN d o with
    | some o' => rfl
    | none =>
      simp only [Option.isSome_map]
      rcases h with h | h
      · have := wnN_in h
        rw [e] at this
        cases this
      · exact wnS_in h
end
theorem findD_in {ks : List Dn} {n lv : Int} {d : Dn} (e : findD ks n = some (lv, d)) : d.num = n ∧ n ∈ numS ks := by
  have h1 := List.find?_some e
  have h1 : d.num = n := of_decide_eq_true h1
  refine ⟨h1, ?_⟩
  rw [← h1]
  exact sub_S 1 ks _ (List.mem_of_find?_eq_some e) _ (num_head d)
/-- other kids in a parent -/
def wkD (ks : List Dn) (p : Int) (kk ks2 : List Dn) : Prop := (p = 0 ∧ ks2 = kk) ∨ (p ≠ 0 ∧ ∃ lv n t as k0, findD ks p = some (lv, .el n t as k0) ∧ wnS (.el n t as kk) ks = some ks2)
def spWK (N : Nat) : Sp := fun vs H Q _ => ∃ (v : V) (p : Int) (kp : Addr) (ks kk : List Dn), vs = [v, .int p, .ref kp] ∧ DocA H v ks ∧ hS ks ≤ N ∧ (numS ks).length ≤ 1000 ∧ TupD H kp kk ∧ (kidsD ks p).isSome = true ∧ ∀ ks2 q H', wkD ks p kk ks2 → Same H H' → TupD H' q ks2 → Q (.ref q) H'
def entsP (as : List Pss) : List (L2.Key × V) := as.map entS
def putP (as : List Pss) (k x : Str) : List Pss := if k ∈ as.map (·.1) then as.map (fun p => if p.1 = k then (p.1, x) else p) else as ++ [(k, x)]
theorem any_ent {as : List Pss} {k : Str} : ((as.map entS).any fun kv => decide (kv.1 = (Sum.inr k : L2.Key))) = decide (k ∈ as.map (·.1)) := by
  rw [List.any_map, Bool.eq_iff_iff, List.any_eq_true, decide_eq_true_iff, List.mem_map]
  constructor
  · rintro ⟨p, hp, h⟩
    have h : (Sum.inr p.1 : L2.Key) = Sum.inr k := of_decide_eq_true h
    exact ⟨p, hp, Sum.inr.inj h⟩
  · rintro ⟨p, hp, rfl⟩
    exact ⟨p, hp, decide_eq_true rfl⟩
theorem putK_ent (as : List Pss) (k x : Str) : putK (as.map entS) (Sum.inr k : L2.Key) (.str x) = (putP as k x).map entS := by
  unfold putK putP
  rw [any_ent]
  by_cases c : k ∈ as.map (·.1)
  · rw [if_pos c, if_pos (decide_eq_true c), List.map_map, List.map_map]
    refine List.map_congr_left fun p _ => ?_
    show (if (Sum.inr p.1 : L2.Key) = Sum.inr k then ((Sum.inr p.1 : L2.Key), V.str x) else (Sum.inr p.1, V.str p.2)) = entS (if p.1 = k then (p.1, x) else p)
    by_cases e : p.1 = k
    · rw [if_pos e, if_pos (by rw [e])]
      rfl
    · rw [if_neg e, if_neg (fun z => e (Sum.inr.inj z))]
      rfl
  · rw [if_neg c, if_neg (fun z => c (of_decide_eq_true z)), List.map_append]
    rfl
theorem dropK_ent (as : List Pss) (k : Str) : dropK (as.map entS) (Sum.inr k : L2.Key) = (as.filter fun p => decide (p.1 ≠ k)).map entS := by
  unfold dropK
  rw [List.filter_map]
  refine congrArg (List.map entS) (List.filter_congr fun p _ => ?_)
  show decide ((Sum.inr p.1 : L2.Key) ≠ Sum.inr k) = decide (p.1 ≠ k)
  exact decide_eq_decide.mpr ⟨fun h z => h (by rw [z]), fun h z => h (Sum.inr.inj z)⟩
def spWA (N : Nat) : Sp := fun vs H Q _ => ∃ (v : V) (n lv : Int) (da : Addr) (ks kk : List Dn) (t : Str) (as as1 : List Pss), vs = [v, .int n, .ref da] ∧ DocA H v ks ∧ hS ks ≤ N ∧ (numS ks).length ≤ 1000 ∧ findD ks n = some (lv, .el n t as kk) ∧ H da = some (.dK (as1.map entS)) ∧ ∀ as2 ks2 q H', as2.Perm as1 → SrtO.Srtd ltSS as2 → wnS (.el n t as2 kk) ks = some ks2 → Same H H' → TupD H' q ks2 → Q (.ref q) H'
section
variable {P : Program} {w : World} {K : PySem.W.Frag} {mg : Str → Option Value} {base : Heap} {C : Ad}
theorem sc_with_kids : FnScope ["document", "parent", "kids", "_", "number", "tag", "attributes"] ["document", "parent", "kids"] (defScope s_with_kids) := ⟨rfl, rfl, rfl, by decide +kernel, rfl, by decide +kernel, by decide +kernel⟩
theorem ok_wk (T : Txt K w mg C) : Cal P w K mg base 64 "with_kids" (spWK 30) := by
  have Gfind_node := ok_find (P := P) (base := base) T
  have Gwith_node := wn_N (P := P) (base := base) T 30
  refine cal_of T.d_with_kids sc_with_kids (fun vs H Q E h => ?_) (fun f cdv A outer s H vs Q E hr h => ?_)
  · obtain ⟨v, p, kp, ks, kk, rfl, _⟩ := h
    rfl
  · obtain ⟨v, p, kp, ks, kk, rfl, hD, hN, hl, hk, hs, q⟩ := h
    refine ⟨_, (pss_cons (ps_if (pt_cmpR op_eq (pv 1) pe_int (nomark _)) (pss_one (ps_ret (pv 2))) pss_nil) (pss_cons (ps_asg (pe_c Gfind_node hr (by decide) (by rfl) (pa_cons (pv 0) (pa_cons (pv 1) pa_nil))) (pg_tup rfl (pgs_cons (pg_name (i := 3) sc_with_kids.nd rfl (Or.inl rfl)) (pgs_cons (pg_name (i := 4) sc_with_kids.nd rfl (Or.inl rfl)) (pgs_cons (pg_name (i := 5) sc_with_kids.nd rfl (Or.inl rfl)) (pgs_cons (pg_name (i := 6) sc_with_kids.nd rfl (Or.inl rfl)) (pgs_cons (pg_name (i := 3) sc_with_kids.nd rfl (Or.inl rfl)) pgs_nil))))))) (pss_one (ps_ret (pe_c Gwith_node hr (by decide) (by rfl) (pa_cons (pv 0) (pa_cons (pe_tup (pa_cons pe_str (pa_cons (pv 4) (pa_cons (pv 5) (pa_cons (pv 6) (pa_cons (pv 2) pa_nil)))))) pa_nil))))))), ?_⟩
    refine ⟨_, rfl, rfl, _, rfl, ite2 (fun c => ?_) (fun c => ?_)⟩
    · have c' : p = 0 := V.int.inj (of_decide_eq_true c)
      exact ⟨_, rfl, q kk kp H (.inl ⟨c', rfl⟩) (Same.refl _) hk⟩
    · have c' : ¬ p = 0 := fun z => c (decide_eq_true (by rw [z]))
      refine ⟨_, rfl, _, rfl, v, ks, p, rfl, hD, fun e => ?_, fun pp u H1 e hu s1 => ?_⟩
      · unfold kidsD at hs
        rw [if_neg c', e] at hs
        cases hs
      · obtain ⟨lv, d⟩ := pp
        cases hu with
        | tx h1 =>
          unfold kidsD at hs
          rw [if_neg c', e] at hs
          cases hs
        | @el b pk m tg va as vs k0 h1 hA hk0 hs0 =>
          obtain ⟨a, xs, rfl, ha, hx, hL⟩ := hD
          obtain ⟨ys, h3, h4⟩ := hk
          refine ⟨_, _, rfl, SqT.of (s1 _ _ h1), rfl, _, _, rfl, _, _, rfl, _, _, rfl, _, _, rfl, _, _, rfl, rfl, ?_⟩
          refine ⟨_, rfl, _, rfl, _, rfl, _, rfl, _, rfl, by show 5 ≤ sizeLine; decide, fun t2 ht2 => ?_⟩
          have s12 := Same.trans s1 (Sm.new (o := .tup [.str "element", .int m, .str tg, va, .ref kp]) ht2)
          refine ⟨a, .ref t2, ks, .el m tg as kk, rfl, ⟨xs, s12 _ _ ha, hx.same s12⟩, .el upd_same (hA.same s12) (s12 _ _ h3) (h4.same s12), hN, hl, fun e2 => ?_, fun kk2 p2 H3 e3 s3 h3 => q kk2 p2 H3 (.inr ⟨c', lv, m, tg, as, k0, e, e3⟩) (Same.trans s12 s3) h3⟩
          obtain ⟨f1, f2⟩ := findD_in e
          have := wnS_in (d := .el m tg as kk) (ks := ks) (by rw [show (Dn.el m tg as kk).num = p from f1]; exact f2)
          rw [e2] at this
          cases this
end
/-- the document behind an operation -/
def chgR (ks : List Dn) : OpD → List Dn → Prop
  | .rem p n, k2 => ∃ kk, kidsD ks p = some kk ∧ wkD ks p (kk.filter fun d => decide (d.num ≠ n)) k2
  | .ins p d ah, k2 => ∃ kk i, kidsD ks p = some kk ∧ plcD kk ah = some i ∧ wkD ks p (putD kk d i) k2
  | .mov p n ah, k2 => ∃ kk j m i, kidsD ks p = some kk ∧ placeD kk n = some j ∧ kk[j]? = some m ∧ plcD (kk.filter fun d => decide (d.num ≠ n)) ah = some i ∧ wkD ks p (putD (kk.filter fun d => decide (d.num ≠ n)) m i) k2
  | .txt n x, k2 => wnS (.tx n x) ks = some k2
  | .set n k x, k2 => ∃ lv t as kk as2, findD ks n = some (lv, .el n t as kk) ∧ as2.Perm (putP as k x) ∧ SrtO.Srtd ltSS as2 ∧ wnS (.el n t as2 kk) ks = some k2
  | .uns n k, k2 => ∃ lv t as kk as2, findD ks n = some (lv, .el n t as kk) ∧ as2.Perm (as.filter fun p => decide (p.1 ≠ k)) ∧ SrtO.Srtd ltSS as2 ∧ wnS (.el n t as2 kk) ks = some k2
def spChg (c : Str) : Sp := fun vs H Q _ => ∃ (v u : V) (ks : List Dn) (o : OpD), vs = [v, u] ∧ DocA H v ks ∧ hS ks ≤ 30 ∧ (numS ks).length ≤ 1000 ∧ OpA H u o ∧ wordD o = c ∧ faultD ks o = none ∧ (∀ p ∈ itS 1 ks, (namD p.2).Nodup ∧ (namD p.2).length ≤ 100) ∧ ∀ ks2 q H', chgR ks o ks2 → Same H H' → TupD H' q ks2 → Q (.ref q) H'
theorem iteT' {b : Bool} {A B : Prop} (h : b = true) (a : A) : if b = true then A else B := by rw [if_pos h]; exact a
theorem iteF' {b : Bool} {A B : Prop} (h : b = false) (a : B) : if b = true then A else B := by rw [if_neg (by rw [h]; decide)]; exact a
theorem place_lt {kk : List Dn} {n : Int} {j : Nat} (h : placeD kk n = some j) : ∃ m, kk[j]? = some m ∧ m.num = n := by
  unfold placeD at h
  rw [List.findIdx?_eq_some_iff_getElem] at h
  obtain ⟨h1, h2, _⟩ := h
  exact ⟨_, List.getElem?_eq_getElem h1, of_decide_eq_true h2⟩
theorem plc_of {kk : List Dn} {ah : Option Int} (h : isPl kk ah = true) : ∃ i, plcD kk ah = some i := by
  cases ah with
  | none => exact ⟨_, rfl⟩
  | some m => exact Option.isSome_iff_exists.mp (show (placeD kk m).isSome = true from h)
theorem plc_filter {kk : List Dn} {n : Int} {ah : Option Int} (h : isPl kk ah = true) (hn : ah ≠ some n) : isPl (kk.filter fun d => decide (d.num ≠ n)) ah = true := by
  cases ah with
  | none => rfl
  | some m =>
    have h : (placeD kk m).isSome = true := h
    show (placeD _ m).isSome = true
    rw [place_mem, decide_eq_true_iff, List.mem_map] at h ⊢
    obtain ⟨d, hd, e⟩ := h
    exact ⟨d, List.mem_filter.mpr ⟨hd, decide_eq_true fun z => hn (by rw [← e, z])⟩, e⟩
section
variable {P : Program} {w : World} {K : PySem.W.Frag} {mg : Str → Option Value} {base : Heap} {C : Ad}
theorem sc_removed : FnScope ["document", "operation", "_", "parent", "number", "kids", "kid"] ["document", "operation"] (defScope s_removed) := ⟨rfl, rfl, rfl, by decide +kernel, rfl, by decide +kernel, by decide +kernel⟩
theorem ok_rem (T : Txt K w mg C) : Cal P w K mg base 65 "removed" (spChg "remove") := by
  have Gkids_of := ok_kidsOf (P := P) (base := base) T
  have Gwith_kids := ok_wk (P := P) (base := base) T
  refine cal_of T.d_removed sc_removed (fun vs H Q E h => ?_) (fun f cdv A outer s H vs Q E hr h => ?_)
  · obtain ⟨v, u, ks, o, rfl, _⟩ := h
    rfl
  · obtain ⟨v, u, ks, o, rfl, hD, hN, hl, ho, hw, nf, nn, q⟩ := h
    cases ho with
    | @rem a p n h1 =>
      refine ⟨_, (pss_cons (ps_asg (pv 1) (pg_tup rfl (pgs_cons (pg_name (i := 2) sc_removed.nd rfl (Or.inl rfl)) (pgs_cons (pg_name (i := 3) sc_removed.nd rfl (Or.inl rfl)) (pgs_cons (pg_name (i := 4) sc_removed.nd rfl (Or.inr rfl)) pgs_nil))))) (pss_cons (ps_set (i := 5) sc_removed.nd rfl (Or.inl rfl) (pe_c Gkids_of hr (by decide) (by rfl) (pa_cons (pv 0) (pa_cons (pv 3) pa_nil)))) (pss_one (ps_ret (pe_c Gwith_kids hr (by decide) (by rfl) (pa_cons (pv 0) (pa_cons (pv 3) (pa_cons (pe_callTy call_tuple_of (by rfl) T.z_tuple (by decide +kernel) (pa_cons (pe_lc (own := [("kid", 6)]) (g := gName 6) (tt := _) rfl sc_removed.nd (pi_tup (pv 5)) (blkOk_by (N := ["document", "operation", "_", "parent", "number", "kids", "kid"]) (sc := (defScope s_removed)) (by decide +kernel)) (fun _ _ _ _ _ => pg_name (i := 6) sc_removed.nd rfl (Or.inl rfl)) (fun _ _ _ _ _ => pts_one (pt_cmpR op_ne (pe_ix (ix_tupS (K := K) rfl) (pv 6) pe_int (fun _ _ => rfl)) (pv 4) (nomark _))) (fun _ _ _ _ _ => (pv 6))) pa_nil)) pa_nil)))))))), ?_⟩
      refine ⟨_, rfl, _, _, rfl, SqT.of h1, rfl, _, _, rfl, _, _, rfl, _, _, rfl, rfl, ?_⟩
      refine ⟨_, rfl, _, rfl, v, ks, p, rfl, hD, fun u H1 s1 hk => ?_⟩
      rcases kid_of hD hk with ⟨e, rfl⟩ | ⟨kk, pk, xs, e, rfl, h2, h3⟩
      · simp only [faultD, e] at nf
        cases nf
      have xl := h3.len
      have kl := kids_len e
      refine ⟨_, rfl, _, rfl, _, rfl, pk, rfl, ⟨_, SqT.of (s1 _ _ h2)⟩, fun D hD' => ?_⟩
      refine lc_it (walk_tup (K := K) (a := pk) (xs := xs)) (fun j H' => Same H1 H' ∧ ∃ zs, H' D = some (.lst zs) ∧ NdAs H1 zs ((kk.take j).filter fun d => decide (d.num ≠ n))) ⟨Sm.new hD', [], upd_same, by rw [List.take_zero]; exact .nil⟩ (fun j H' _ z => SqT.of (z.1 _ _ (s1 _ _ h2))) ?_ ?_
      · rintro j x H4 H5 hj ⟨s4, zs, h4, h5⟩ ⟨rfl, hx⟩
        obtain ⟨d, hd, hxd⟩ := (h3.same s1).get' hx
        obtain ⟨b, ys, rfl, hb⟩ := hxd.at
        have et : (kk.take (j + 1)).filter (fun d => decide (d.num ≠ n)) = (kk.take j).filter (fun d => decide (d.num ≠ n)) ++ [d].filter fun d => decide (d.num ≠ n) := by
          rw [List.take_add_one, hd, List.filter_append]
          rfl
        refine ⟨rfl, _, rfl, b, _, _, _, rfl, rfl, SqT.of (s4 _ _ hb), at_1, _, rfl, rfl, _, rfl, ?_⟩
        by_cases c : d.num = n
        · have ef : (!decide (V.int d.num = V.int n)) = false := by rw [decide_eq_true (show V.int d.num = V.int n by rw [c])]; rfl
          have e2 : [d].filter (fun d => decide (d.num ≠ n)) = [] := by simp [c]
          rw [e2, List.append_nil] at et
          rw [et]
          exact iteF' ef ⟨s4, zs, h4, h5⟩
        · have ef : (!decide (V.int d.num = V.int n)) = true := by rw [decide_eq_false (fun z => c (V.int.inj z))]; rfl
          have e2 : [d].filter (fun d => decide (d.num ≠ n)) = [d] := by simp [c]
          rw [e2] at et
          rw [et]
          refine iteT' ef ⟨_, rfl, zs, h4, ?_, fun c' o eo => ?_, zs ++ [.ref b], upd_same, h5.app (.cons hxd .nil)⟩
          · rw [h5.len]
            exact Nat.lt_of_le_of_lt (Nat.le_trans (List.length_filter_le _ _) (by rw [List.length_take]; show min j kk.length ≤ 1000; omega)) (by decide)
          · rw [upd_ne (ne_of_none eo hD')]
            exact s4 _ _ eo
      · rintro H4 ⟨s4, zs, h4, h5⟩
        rw [List.take_of_length_le (by omega)] at h5
        refine ⟨D, zs, rfl, .inl ⟨SqL.of h4, fun pt hpt => ?_⟩⟩
        have s5 := Same.trans s4 (Sm.new (o := .tup zs) hpt)
        have s15 := Same.trans s1 s5
        refine ⟨v, p, pt, ks, _, rfl, hD.same s15, hN, hl, ⟨zs, upd_same, h5.same s5⟩, by rw [e]; rfl, fun ks2 q2 H6 e6 s6 h6 => q ks2 q2 H6 ⟨kk, e, e6⟩ (Same.trans s15 s6) h6⟩
    | ins h1 h2 => exact absurd (show ("insert" : Str) = "remove" from hw) (by decide)
    | mov h1 => exact absurd (show ("move" : Str) = "remove" from hw) (by decide)
    | txt h1 => exact absurd (show ("text" : Str) = "remove" from hw) (by decide)
    | set h1 => exact absurd (show ("set" : Str) = "remove" from hw) (by decide)
    | uns h1 => exact absurd (show ("unset" : Str) = "remove" from hw) (by decide)
end
end VL

set_option Elab.async false
set_option linter.all false
set_option pp.maxSteps 700
set_option maxRecDepth 100000
set_option maxHeartbeats 4000000
namespace VL
open PySem PySem.Spec PyProof.Rows L2 S2S
section
variable {P : Program} {w : World} {K : PySem.W.Frag} {mg : Str → Option Value} {base : Heap} {C : Ad}
theorem sc_inserted : FnScope ["document", "operation", "_", "parent", "node", "ahead"] ["document", "operation"] (defScope s_inserted) := ⟨rfl, rfl, rfl, by decide +kernel, rfl, by decide +kernel, by decide +kernel⟩
theorem ok_ins (T : Txt K w mg C) : Cal P w K mg base 65 "inserted" (spChg "insert") := by
  have Gkids_of := ok_kidsOf (P := P) (base := base) T
  have Gwith_kids := ok_wk (P := P) (base := base) T
  have Gput_ahead := ok_put (P := P) (base := base) T
  refine cal_of T.d_inserted sc_inserted (fun vs H Q E h => ?_) (fun f cdv A outer s H vs Q E hr h => ?_)
  · obtain ⟨v, u, ks, o, rfl, _⟩ := h
    rfl
  · obtain ⟨v, u, ks, o, rfl, hD, hN, hl, ho, hw, nf, nn, q⟩ := h
    cases ho with
    | @ins a p u d ah h1 hd =>
      refine ⟨_, (pss_cons (ps_asg (pv 1) (pg_tup rfl (pgs_cons (pg_name (i := 2) sc_inserted.nd rfl (Or.inl rfl)) (pgs_cons (pg_name (i := 3) sc_inserted.nd rfl (Or.inl rfl)) (pgs_cons (pg_name (i := 4) sc_inserted.nd rfl (Or.inl rfl)) (pgs_cons (pg_name (i := 5) sc_inserted.nd rfl (Or.inl rfl)) pgs_nil)))))) (pss_one (ps_ret (pe_c Gwith_kids hr (by decide) (by rfl) (pa_cons (pv 0) (pa_cons (pv 3) (pa_cons (pe_c Gput_ahead hr (by decide) (by rfl) (pa_cons (pe_c Gkids_of hr (by decide) (by rfl) (pa_cons (pv 0) (pa_cons (pv 3) pa_nil))) (pa_cons (pv 4) (pa_cons (pv 5) pa_nil)))) pa_nil))))))), ?_⟩
      refine ⟨_, rfl, _, _, rfl, SqT.of h1, rfl, _, _, rfl, _, _, rfl, _, _, rfl, _, _, rfl, rfl, ?_⟩
      refine ⟨_, rfl, _, rfl, _, rfl, _, rfl, v, ks, p, rfl, hD, fun u1 H1 s1 hk => ?_⟩
      rcases kid_of hD hk with ⟨e, rfl⟩ | ⟨kk, pk, xs, e, rfl, h2, h3⟩
      · simp only [faultD, e] at nf
        cases nf
      have kl := kids_len e
      have hp : isPl kk ah = true := by
        simp only [faultD, e] at nf
        cases hh : isPl kk ah with
        | true => rfl
        | false =>
          rw [hh] at nf
          split at nf <;> simp at nf
      obtain ⟨i, hi⟩ := plc_of hp
      refine ⟨_, rfl, _, rfl, pk, u, kk, d, ah, i, rfl, ⟨xs, s1 _ _ h2, h3.same s1⟩, hd.same s1, hi, by omega, fun p2 H2 s2 hp2 => ?_⟩
      have s12 := Same.trans s1 s2
      exact ⟨v, p, p2, ks, _, rfl, hD.same s12, hN, hl, hp2, by rw [e]; rfl, fun ks2 q2 H6 e6 s6 h6 => q ks2 q2 H6 ⟨kk, i, e, hi, e6⟩ (Same.trans s12 s6) h6⟩
    | rem h1 => exact absurd (show ("remove" : Str) = "insert" from hw) (by decide)
    | mov h1 => exact absurd (show ("move" : Str) = "insert" from hw) (by decide)
    | txt h1 => exact absurd (show ("text" : Str) = "insert" from hw) (by decide)
    | set h1 => exact absurd (show ("set" : Str) = "insert" from hw) (by decide)
    | uns h1 => exact absurd (show ("unset" : Str) = "insert" from hw) (by decide)
theorem sc_with_text : FnScope ["document", "operation", "_", "number", "text"] ["document", "operation"] (defScope s_with_text) := ⟨rfl, rfl, rfl, by decide +kernel, rfl, by decide +kernel, by decide +kernel⟩
theorem ok_txt (T : Txt K w mg C) : Cal P w K mg base 65 "with_text" (spChg "text") := by
  have Gwith_node := wn_N (P := P) (base := base) T 30
  refine cal_of T.d_with_text sc_with_text (fun vs H Q E h => ?_) (fun f cdv A outer s H vs Q E hr h => ?_)
  · obtain ⟨v, u, ks, o, rfl, _⟩ := h
    rfl
  · obtain ⟨v, u, ks, o, rfl, hD, hN, hl, ho, hw, nf, nn, q⟩ := h
    cases ho with
    | @txt a n x h1 =>
      refine ⟨_, (pss_cons (ps_asg (pv 1) (pg_tup rfl (pgs_cons (pg_name (i := 2) sc_with_text.nd rfl (Or.inl rfl)) (pgs_cons (pg_name (i := 3) sc_with_text.nd rfl (Or.inl rfl)) (pgs_cons (pg_name (i := 4) sc_with_text.nd rfl (Or.inl rfl)) pgs_nil))))) (pss_one (ps_ret (pe_c Gwith_node hr (by decide) (by rfl) (pa_cons (pv 0) (pa_cons (pe_tup (pa_cons pe_str (pa_cons (pv 3) (pa_cons (pv 4) pa_nil)))) pa_nil)))))), ?_⟩
      refine ⟨_, rfl, _, _, rfl, SqT.of h1, rfl, _, _, rfl, _, _, rfl, _, _, rfl, rfl, ?_⟩
      refine ⟨_, rfl, _, rfl, _, rfl, by show 3 ≤ sizeLine; decide, fun t2 ht2 => ?_⟩
      have s1 := Sm.new (o := .tup [.str "text", .int n, .str x]) ht2
      obtain ⟨a, xs, rfl, ha, hx, hL⟩ := hD
      have hin : (wnS (.tx n x) ks).isSome = true := by
        simp only [faultD] at nf
        split at nf
        · rename_i lv m y ef
          obtain ⟨f1, f2⟩ := findD_in ef
          exact wnS_in f2
        · cases nf
      exact ⟨a, .ref t2, ks, .tx n x, rfl, ⟨xs, s1 _ _ ha, hx.same s1⟩, .tx upd_same, hN, hl, (fun e2 => by rw [e2] at hin; cases hin), fun kk2 p2 H3 e3 s3 h3 => q kk2 p2 H3 e3 (Same.trans s1 s3) h3⟩
    | rem h1 => exact absurd (show ("remove" : Str) = "text" from hw) (by decide)
    | ins h1 h2 => exact absurd (show ("insert" : Str) = "text" from hw) (by decide)
    | mov h1 => exact absurd (show ("move" : Str) = "text" from hw) (by decide)
    | set h1 => exact absurd (show ("set" : Str) = "text" from hw) (by decide)
    | uns h1 => exact absurd (show ("unset" : Str) = "text" from hw) (by decide)
theorem sc_moved : FnScope ["document", "operation", "_", "parent", "number", "ahead", "kids", "others", "kid"] ["document", "operation"] (defScope s_moved) := ⟨rfl, rfl, rfl, by decide +kernel, rfl, by decide +kernel, by decide +kernel⟩
theorem ok_mov (T : Txt K w mg C) : Cal P w K mg base 65 "moved" (spChg "move") := by
  have Gkids_of := ok_kidsOf (P := P) (base := base) T
  have Gwith_kids := ok_wk (P := P) (base := base) T
  have Gput_ahead := ok_put (P := P) (base := base) T
  have Gplace_among := ok_place (P := P) (base := base) T
  refine cal_of T.d_moved sc_moved (fun vs H Q E h => ?_) (fun f cdv A outer s H vs Q E hr h => ?_)
  · obtain ⟨v, u, ks, o, rfl, _⟩ := h
    rfl
  · obtain ⟨v, u, ks, o, rfl, hD, hN, hl, ho, hw, nf, nn, q⟩ := h
    cases ho with
    | @mov a p n ah h1 =>
      refine ⟨_, (pss_cons (ps_asg (pv 1) (pg_tup rfl (pgs_cons (pg_name (i := 2) sc_moved.nd rfl (Or.inl rfl)) (pgs_cons (pg_name (i := 3) sc_moved.nd rfl (Or.inl rfl)) (pgs_cons (pg_name (i := 4) sc_moved.nd rfl (Or.inr rfl)) (pgs_cons (pg_name (i := 5) sc_moved.nd rfl (Or.inl rfl)) pgs_nil)))))) (pss_cons (ps_set (i := 6) sc_moved.nd rfl (Or.inl rfl) (pe_c Gkids_of hr (by decide) (by rfl) (pa_cons (pv 0) (pa_cons (pv 3) pa_nil)))) (pss_cons (ps_set (i := 7) sc_moved.nd rfl (Or.inl rfl) (pe_callTy call_tuple_of (by rfl) T.z_tuple (by decide +kernel) (pa_cons (pe_lc (own := [("kid", 8)]) (g := gName 8) (tt := _) rfl sc_moved.nd (pi_tup (pv 6)) (blkOk_by (N := ["document", "operation", "_", "parent", "number", "ahead", "kids", "others", "kid"]) (sc := (defScope s_moved)) (by decide +kernel)) (fun _ _ _ _ _ => pg_name (i := 8) sc_moved.nd rfl (Or.inl rfl)) (fun _ _ _ _ _ => pts_one (pt_cmpR op_ne (pe_ix (ix_tupS (K := K) rfl) (pv 8) pe_int (fun _ _ => rfl)) (pv 4) (nomark _))) (fun _ _ _ _ _ => (pv 8))) pa_nil))) (pss_one (ps_ret (pe_c Gwith_kids hr (by decide) (by rfl) (pa_cons (pv 0) (pa_cons (pv 3) (pa_cons (pe_c Gput_ahead hr (by decide) (by rfl) (pa_cons (pv 7) (pa_cons (pe_ix ix_tup (pv 6) (pe_c Gplace_among hr (by decide) (by rfl) (pa_cons (pv 6) (pa_cons (pv 4) pa_nil))) (fun _ _ => rfl)) (pa_cons (pv 5) pa_nil)))) pa_nil))))))))), ?_⟩
      refine ⟨_, rfl, _, _, rfl, SqT.of h1, rfl, _, _, rfl, _, _, rfl, _, _, rfl, _, _, rfl, rfl, ?_⟩
      refine ⟨_, rfl, _, rfl, v, ks, p, rfl, hD, fun u H1 s1 hk => ?_⟩
      rcases kid_of hD hk with ⟨e, rfl⟩ | ⟨kk, pk, xs, e, rfl, h2, h3⟩
      · simp only [faultD, e] at nf
        cases nf
      obtain ⟨n1, n2, n3⟩ : (placeD kk n).isSome = true ∧ ah ≠ some n ∧ isPl kk ah = true := by
        simp only [faultD, e] at nf
        split at nf
        · assumption
        · cases nf
      obtain ⟨jj, hjj⟩ := Option.isSome_iff_exists.mp n1
      obtain ⟨m, hm, hmn⟩ := place_lt hjj
      obtain ⟨i, hi⟩ := plc_of (plc_filter n3 n2)
      have xl := h3.len
      have kl := kids_len e
      refine ⟨_, rfl, pk, rfl, ⟨_, SqT.of (s1 _ _ h2)⟩, fun D hD' => ?_⟩
      refine lc_it (walk_tup (K := K) (a := pk) (xs := xs)) (fun j H' => Same H1 H' ∧ ∃ zs, H' D = some (.lst zs) ∧ NdAs H1 zs ((kk.take j).filter fun d => decide (d.num ≠ n))) ⟨Sm.new hD', [], upd_same, by rw [List.take_zero]; exact .nil⟩ (fun j H' _ z => SqT.of (z.1 _ _ (s1 _ _ h2))) ?_ ?_
      · rintro j x H4 H5 hj ⟨s4, zs, h4, h5⟩ ⟨rfl, hx⟩
        obtain ⟨d, hd, hxd⟩ := (h3.same s1).get' hx
        obtain ⟨b, ys, rfl, hb⟩ := hxd.at
        have et : (kk.take (j + 1)).filter (fun d => decide (d.num ≠ n)) = (kk.take j).filter (fun d => decide (d.num ≠ n)) ++ [d].filter fun d => decide (d.num ≠ n) := by
          rw [List.take_add_one, hd, List.filter_append]
          rfl
        refine ⟨rfl, _, rfl, b, _, _, _, rfl, rfl, SqT.of (s4 _ _ hb), at_1, _, rfl, rfl, _, rfl, ?_⟩
        by_cases c : d.num = n
        · have ef : (!decide (V.int d.num = V.int n)) = false := by rw [decide_eq_true (show V.int d.num = V.int n by rw [c])]; rfl
          have e2 : [d].filter (fun d => decide (d.num ≠ n)) = [] := by simp [c]
          rw [e2, List.append_nil] at et
          rw [et]
          exact iteF' ef ⟨s4, zs, h4, h5⟩
        · have ef : (!decide (V.int d.num = V.int n)) = true := by rw [decide_eq_false (fun z => c (V.int.inj z))]; rfl
          have e2 : [d].filter (fun d => decide (d.num ≠ n)) = [d] := by simp [c]
          rw [e2] at et
          rw [et]
          refine iteT' ef ⟨_, rfl, zs, h4, ?_, fun c' o eo => ?_, zs ++ [.ref b], upd_same, h5.app (.cons hxd .nil)⟩
          · rw [h5.len]
            exact Nat.lt_of_le_of_lt (Nat.le_trans (List.length_filter_le _ _) (by rw [List.length_take]; show min j kk.length ≤ 1000; omega)) (by decide)
          · rw [upd_ne (ne_of_none eo hD')]
            exact s4 _ _ eo
      · rintro H4 ⟨s4, zs, h4, h5⟩
        rw [List.take_of_length_le (by omega)] at h5
        refine ⟨D, zs, rfl, .inl ⟨SqL.of h4, fun pt hpt => ?_⟩⟩
        have s5 := Same.trans s4 (Sm.new (o := .tup zs) hpt)
        have s15 := Same.trans s1 s5
        generalize hH5 : upd H4 pt (.tup zs) = H5 at s5 s15 ⊢
        have hpt5 : H5 pt = some (.tup zs) := by rw [← hH5]; exact upd_same
        refine ⟨_, rfl, _, rfl, _, rfl, _, rfl, _, rfl, _, rfl, pk, xs, kk, n, rfl, s15 _ _ h2, h3.same s15, (fun e0 => by rw [hjj] at e0; cases e0), fun j' H6 e6 s6 => ?_⟩
        rw [hjj] at e6
        cases e6
        have s16 := Same.trans s15 s6
        obtain ⟨x, hx, hxm⟩ : ∃ x, xs[jj]? = some x ∧ NdA H x m := by
          have hlt : jj < xs.length := by
            have := (List.getElem?_eq_some_iff.mp hm).1
            omega
          obtain ⟨d, hd, hxd⟩ := h3.get' (List.getElem?_eq_getElem hlt)
          rw [hm] at hd
          cases hd
          exact ⟨_, List.getElem?_eq_getElem hlt, hxd⟩
        have hat : atI xs ((jj : Nat) : Int) = some x := by
          unfold atI ixN
          rw [if_pos (by omega), if_pos (by have := (List.getElem?_eq_some_iff.mp hx).1; omega)]
          show xs[((jj : Nat) : Int).toNat]? = _
          rw [Int.toNat_natCast, hx]
        have h5' := h5.same (Same.trans s5 s6)
        refine ⟨pk, _, _, _, rfl, rfl, SqT.of (s16 _ _ h2), hat, _, rfl, pt, x, _, m, ah, i, rfl, ⟨zs, s6 _ _ hpt5, h5'⟩, hxm.same s16, hi, Nat.le_trans (List.length_filter_le _ _) (by omega), fun p2 H7 s7 hp2 => ?_⟩
        have s17 := Same.trans s16 s7
        exact ⟨v, p, p2, ks, _, rfl, hD.same s17, hN, hl, hp2, by rw [e]; rfl, fun ks2 q2 H6 e6 s6 h6 => q ks2 q2 H6 ⟨kk, jj, m, i, e, hjj, hm, hi, e6⟩ (Same.trans s17 s6) h6⟩
    | rem h1 => exact absurd (show ("remove" : Str) = "move" from hw) (by decide)
    | ins h1 h2 => exact absurd (show ("insert" : Str) = "move" from hw) (by decide)
    | txt h1 => exact absurd (show ("text" : Str) = "move" from hw) (by decide)
    | set h1 => exact absurd (show ("set" : Str) = "move" from hw) (by decide)
    | uns h1 => exact absurd (show ("unset" : Str) = "move" from hw) (by decide)
end
end VL

set_option Elab.async false
set_option linter.all false
set_option pp.maxSteps 700
set_option maxRecDepth 100000
set_option maxHeartbeats 4000000
namespace VL
open PySem PySem.Spec PyProof.Rows L2 S2S
theorem ent_nd {as : List Pss} (h : (as.map (·.1)).Nodup) : ((([] : List (L2.Key × V)) ++ as.map entS).map (fun q => q.1)).Nodup := by
  rw [List.nil_append, List.map_map]
  have e : as.map ((fun x : L2.Key × V => x.1) ∘ entS) = (as.map (fun p : Pss => p.1)).map (Sum.inr : Str → L2.Key) := by
    rw [List.map_map]
    rfl
  rw [e]
  exact List.Pairwise.map _ (fun a b z e => z (Sum.inr.inj e)) h
theorem pair_ent {K : PySem.W.Frag} {H : Hp} {ps : List Addr} {as : List Pss} (h : Paired (fun p (x : Str × Str) => H p = some (.tup [.str x.1, .str x.2])) ps as) : Paired (fun p (kv : L2.Key × V) => SqT K H p [kV kv.1, kv.2]) ps (as.map entS) := by
  induction h with
  | nil => exact .nil
  | cons a b ih => exact .cons (SqT.of a) ih
theorem same2 {H : Hp} {D : Addr} {o o' : HO} (h : H D = none) : Same H (upd (upd H D o) D o') := fun c u e => by
  rw [upd_ne (ne_of_none e h), upd_ne (ne_of_none e h)]
  exact e
section
variable {P : Program} {w : World} {K : PySem.W.Frag} {mg : Str → Option Value} {base : Heap} {C : Ad}
theorem sc_with_attributes : FnScope ["document", "number", "attributes", "_", "tag", "kids"] ["document", "number", "attributes"] (defScope s_with_attributes) := ⟨rfl, rfl, rfl, by decide +kernel, rfl, by decide +kernel, by decide +kernel⟩
theorem ok_wa (T : Txt K w mg C) : Cal P w K mg base 64 "with_attributes" (spWA 30) := by
  have Gfind_node := ok_find (P := P) (base := base) T
  have Gwith_node := wn_N (P := P) (base := base) T 30
  refine cal_of T.d_with_attributes sc_with_attributes (fun vs H Q E h => ?_) (fun f cdv A outer s H vs Q E hr h => ?_)
  · obtain ⟨v, n, lv, da, ks, kk, t, as, as1, rfl, _⟩ := h
    rfl
  · obtain ⟨v, n, lv, da, ks, kk, t, as, as1, rfl, hD, hN, hl, ef, hda, q⟩ := h
    refine ⟨_, (pss_cons (ps_asg (pe_c Gfind_node hr (by decide) (by rfl) (pa_cons (pv 0) (pa_cons (pv 1) pa_nil))) (pg_tup rfl (pgs_cons (pg_name (i := 3) sc_with_attributes.nd rfl (Or.inl rfl)) (pgs_cons (pg_name (i := 3) sc_with_attributes.nd rfl (Or.inl rfl)) (pgs_cons (pg_name (i := 4) sc_with_attributes.nd rfl (Or.inl rfl)) (pgs_cons (pg_name (i := 3) sc_with_attributes.nd rfl (Or.inl rfl)) (pgs_cons (pg_name (i := 5) sc_with_attributes.nd rfl (Or.inl rfl)) pgs_nil))))))) (pss_one (ps_ret (pe_c Gwith_node hr (by decide) (by rfl) (pa_cons (pv 0) (pa_cons (pe_tup (pa_cons pe_str (pa_cons (pv 1) (pa_cons (pv 4) (pa_cons (pe_callTy call_tupleF (by rfl) T.z_tuple (by decide +kernel) (pa_cons (pe_callB (cr_sortedIS rfl) (by rfl) T.z_sorted (by decide +kernel) (pa_cons (pe_bm0 PySem.F.plainAttrs_dict PySem.F.slot_dict_items PySem.F.type_dict_items mt_itemsK (pv 2)) pa_nil)) pa_nil)) (pa_cons (pv 5) pa_nil)))))) pa_nil)))))), ?_⟩
    refine ⟨_, rfl, _, rfl, v, ks, n, rfl, hD, (fun e0 => by rw [ef] at e0; cases e0), fun pp u H1 e hu s1 => ?_⟩
    rw [ef] at e
    cases e
    cases hu with
    | @el b pk m tg va as' vs k0 h1 hA hk0 hs0 =>
      obtain ⟨a, xs, rfl, ha, hx, hL⟩ := hD
      refine ⟨_, _, rfl, SqT.of (s1 _ _ h1), rfl, _, _, rfl, _, _, rfl, _, _, rfl, _, _, rfl, _, _, rfl, rfl, ?_⟩
      refine ⟨_, rfl, _, rfl, _, rfl, _, rfl, ?_⟩
      have hda1 := s1 _ _ hda
      refine ⟨.inr (.inr (.inl ⟨rfl, .inl ⟨_, hda1⟩⟩)), da, _, rfl, rfl, hda1, fun pv hpv => ?_⟩
      have s2 := Sm.new (o := DX.itemsO pv da) hpv
      refine ⟨pv, da, as1, rfl, upd_same, s2 _ _ hda1, fun H3 l ps s3 hl0 hps perm srt hls hz => ?_⟩
      refine ⟨l, _, rfl, SqL.of hls, fun l2 o hl2 ho => ?_⟩
      have s4 := Sm.new (o := .frz o (.tup (ps.map fun z => V.ref z.1))) hl2
      have s14 := Same.trans s1 (Same.trans s2 (Same.trans s3 s4))
      generalize hH4 : upd H3 l2 (.frz o (.tup (ps.map fun z => V.ref z.1))) = H4 at s4 s14 ⊢
      have e4 : H4 l2 = some (.frz o (.tup (ps.map fun z => V.ref z.1))) := by rw [← hH4]; exact upd_same
      have hA4 : AtA H4 (.ref l2) (ps.map (·.2)) := by
        refine ⟨l2, o, ps.map (·.1), rfl, by rw [e4, List.map_map]; rfl, ho, ?_⟩
        clear perm srt hls e4 hH4
        induction ps with
        | nil => exact .nil
        | cons z ps ih => exact .cons (s4 _ _ (hz z List.mem_cons_self)) (ih (fun y hy => hps y (List.mem_cons_of_mem _ hy)) (fun y hy => hz y (List.mem_cons_of_mem _ hy)))
      refine ⟨_, rfl, by show 5 ≤ sizeLine; decide, fun t2 ht2 => ?_⟩
      have s5 := Sm.new (o := .tup [.str "element", .int n, .str t, .ref l2, .ref pk]) ht2
      have s15 := Same.trans s14 s5
      refine ⟨a, .ref t2, ks, .el n t (ps.map (·.2)) kk, rfl, ⟨xs, s15 _ _ ha, hx.same s15⟩, .el upd_same (hA4.same s5) (s15 _ _ hk0) (hs0.same s15), hN, hl, fun e2 => ?_, fun kk2 p2 H6 e6 s6 h6 => q _ kk2 p2 H6 perm srt e6 (Same.trans s15 s6) h6⟩
      obtain ⟨f1, f2⟩ := findD_in ef
      have := wnS_in (d := .el n t (ps.map (·.2)) kk) (ks := ks) f2
      rw [e2] at this
      cases this
theorem sc_with_set : FnScope ["document", "operation", "_", "number", "name", "text", "attributes"] ["document", "operation"] (defScope s_with_set) := ⟨rfl, rfl, rfl, by decide +kernel, rfl, by decide +kernel, by decide +kernel⟩
theorem sc_with_unset : FnScope ["document", "operation", "_", "number", "name", "attributes"] ["document", "operation"] (defScope s_with_unset) := ⟨rfl, rfl, rfl, by decide +kernel, rfl, by decide +kernel, by decide +kernel⟩
theorem ok_set (T : Txt K w mg C) : Cal P w K mg base 65 "with_set" (spChg "set") := by
  have Gfind_node := ok_find (P := P) (base := base) T
  have Gwith_attributes := ok_wa (P := P) (base := base) T
  refine cal_of T.d_with_set sc_with_set (fun vs H Q E h => ?_) (fun f cdv A outer s H vs Q E hr h => ?_)
  · obtain ⟨v, u, ks, o, rfl, _⟩ := h
    rfl
  · obtain ⟨v, u, ks, o, rfl, hD, hN, hl, ho, hw, nf, nn, q⟩ := h
    have hu := hu_of hr
    cases ho with
    | @set a n k x h1 =>
      obtain ⟨lv, m, t, as, kk, ef⟩ : ∃ lv m t as kk, findD ks n = some (lv, Dn.el m t as kk) := by
        simp only [faultD] at nf
        split at nf
        · rename_i lv m t as kk ef
          exact ⟨lv, m, t, as, kk, ef⟩
        · cases nf
      obtain ⟨rfl, fin⟩ := findD_in ef
      have ef : findD ks m = some (lv, .el m t as kk) := ef
      have and_ : (as.map (·.1)).Nodup := (nn _ (List.mem_of_find?_eq_some ef)).1
      have al : (as.map (·.1)).length ≤ 100 := (nn _ (List.mem_of_find?_eq_some ef)).2
      refine ⟨_, (pss_cons (ps_asg (pv 1) (pg_tup rfl (pgs_cons (pg_name (i := 2) sc_with_set.nd rfl (Or.inl rfl)) (pgs_cons (pg_name (i := 3) sc_with_set.nd rfl (Or.inl rfl)) (pgs_cons (pg_name (i := 4) sc_with_set.nd rfl (Or.inl rfl)) (pgs_cons (pg_name (i := 5) sc_with_set.nd rfl (Or.inl rfl)) pgs_nil)))))) (pss_cons (ps_set (i := 6) sc_with_set.nd rfl (Or.inl rfl) (pe_callTy (call_dictT rfl) (by rfl) T.z_dict (by decide +kernel) (pa_cons (pe_ix ix_tup (pe_c Gfind_node hr (by decide) (by rfl) (pa_cons (pv 0) (pa_cons (pv 3) pa_nil))) pe_int (fun _ _ => rfl)) pa_nil))) (pss_cons (ps_dput hu (pv 6) (pv 4) (pv 5) rfl) (pss_one (ps_ret (pe_c Gwith_attributes hr (by decide) (by rfl) (pa_cons (pv 0) (pa_cons (pv 3) (pa_cons (pv 6) pa_nil))))))))), ?_⟩
      refine ⟨_, rfl, _, _, rfl, SqT.of h1, rfl, _, _, rfl, _, _, rfl, _, _, rfl, _, _, rfl, rfl, ?_⟩
      refine ⟨_, rfl, _, rfl, v, ks, m, rfl, hD, (fun e0 => by rw [ef] at e0; cases e0), fun pp u H1 e hu1 s1 => ?_⟩
      rw [ef] at e
      cases e
      cases hu1 with
      | @el b pk _ tg va as' vs k0 h2 hA hk0 hs0 =>
        have h2' := s1 _ _ h2
        have hA' := hA.same s1
        obtain ⟨at_, o, ps, rfl, ha1, ha2, ha3⟩ := hA'
        refine ⟨b, _, _, _, rfl, rfl, SqT.of h2', rfl, at_, o, ps, as.map entS, rfl, ha1, ha2, ?_, fun D hD' => ?_⟩
        · exact pair_ent ha3
        rw [mergeK_nd _ [] (ent_nd and_), List.nil_append]
        refine ⟨_, rfl, _, rfl, _, rfl, D, _, rfl, DPut.k (k := Sum.inr k) upd_same ?_, ?_⟩
        · rw [List.length_map]
          rw [List.length_map] at al
          exact Nat.lt_of_le_of_lt al (by decide)
        rw [putK_ent]
        have s2 := same2 (o := .dK (as.map entS)) (o' := .dK ((putP as k x).map entS)) hD'
        have s12 := Same.trans s1 s2
        exact ⟨_, rfl, _, rfl, _, rfl, v, m, lv, D, ks, kk, t, as, putP as k x, rfl, hD.same s12, hN, hl, ef, upd_same, fun as2 ks2 q2 H6 perm srt e6 s6 h6 => q ks2 q2 H6 ⟨lv, t, as, kk, as2, ef, perm, srt, e6⟩ (Same.trans s12 s6) h6⟩
    | rem h1 => exact absurd (show ("remove" : Str) = "set" from hw) (by decide)
    | ins h1 h2 => exact absurd (show ("insert" : Str) = "set" from hw) (by decide)
    | mov h1 => exact absurd (show ("move" : Str) = "set" from hw) (by decide)
    | txt h1 => exact absurd (show ("text" : Str) = "set" from hw) (by decide)
    | uns h1 => exact absurd (show ("unset" : Str) = "set" from hw) (by decide)
theorem ok_uns (T : Txt K w mg C) : Cal P w K mg base 65 "with_unset" (spChg "unset") := by
  have Gfind_node := ok_find (P := P) (base := base) T
  have Gwith_attributes := ok_wa (P := P) (base := base) T
  refine cal_of T.d_with_unset sc_with_unset (fun vs H Q E h => ?_) (fun f cdv A outer s H vs Q E hr h => ?_)
  · obtain ⟨v, u, ks, o, rfl, _⟩ := h
    rfl
  · obtain ⟨v, u, ks, o, rfl, hD, hN, hl, ho, hw, nf, nn, q⟩ := h
    have hu := hu_of hr
    cases ho with
    | @uns a n k h1 =>
      obtain ⟨lv, m, t, as, kk, ef, hin⟩ : ∃ lv m t as kk, findD ks n = some (lv, Dn.el m t as kk) ∧ k ∈ as.map (·.1) := by
        simp only [faultD] at nf
        split at nf
        · rename_i lv m t as kk ef
          split at nf
          · rename_i hin
            exact ⟨lv, m, t, as, kk, ef, hin⟩
          · cases nf
        · cases nf
      obtain ⟨rfl, fin⟩ := findD_in ef
      have ef : findD ks m = some (lv, .el m t as kk) := ef
      have and_ : (as.map (·.1)).Nodup := (nn _ (List.mem_of_find?_eq_some ef)).1
      have al : (as.map (·.1)).length ≤ 100 := (nn _ (List.mem_of_find?_eq_some ef)).2
      refine ⟨_, (pss_cons (ps_asg (pv 1) (pg_tup rfl (pgs_cons (pg_name (i := 2) sc_with_unset.nd rfl (Or.inl rfl)) (pgs_cons (pg_name (i := 3) sc_with_unset.nd rfl (Or.inl rfl)) (pgs_cons (pg_name (i := 4) sc_with_unset.nd rfl (Or.inl rfl)) pgs_nil))))) (pss_cons (ps_set (i := 5) sc_with_unset.nd rfl (Or.inl rfl) (pe_callTy (call_dictT rfl) (by rfl) T.z_dict (by decide +kernel) (pa_cons (pe_ix ix_tup (pe_c Gfind_node hr (by decide) (by rfl) (pa_cons (pv 0) (pa_cons (pv 3) pa_nil))) pe_int (fun _ _ => rfl)) pa_nil))) (pss_cons (ps_ddel (pv 5) (pv 4)) (pss_one (ps_ret (pe_c Gwith_attributes hr (by decide) (by rfl) (pa_cons (pv 0) (pa_cons (pv 3) (pa_cons (pv 5) pa_nil))))))))), ?_⟩
      refine ⟨_, rfl, _, _, rfl, SqT.of h1, rfl, _, _, rfl, _, _, rfl, _, _, rfl, rfl, ?_⟩
      refine ⟨_, rfl, _, rfl, v, ks, m, rfl, hD, (fun e0 => by rw [ef] at e0; cases e0), fun pp u H1 e hu1 s1 => ?_⟩
      rw [ef] at e
      cases e
      cases hu1 with
      | @el b pk _ tg va as' vs k0 h2 hA hk0 hs0 =>
        have h2' := s1 _ _ h2
        have hA' := hA.same s1
        obtain ⟨at_, o, ps, rfl, ha1, ha2, ha3⟩ := hA'
        refine ⟨b, _, _, _, rfl, rfl, SqT.of h2', rfl, at_, o, ps, as.map entS, rfl, ha1, ha2, ?_, fun D hD' => ?_⟩
        · exact pair_ent ha3
        rw [mergeK_nd _ [] (ent_nd and_), List.nil_append]
        refine ⟨_, rfl, _, rfl, D, _, Sum.inr k, rfl, upd_same, rfl, ?_, ?_⟩
        · refine valV_in2 ?_
          rw [List.map_map]
          obtain ⟨y, hy, rfl⟩ := List.mem_map.mp hin
          exact List.mem_map.mpr ⟨y, hy, rfl⟩
        rw [dropK_ent]
        have s2 := same2 (o := .dK (as.map entS)) (o' := .dK ((as.filter fun p => decide (p.1 ≠ k)).map entS)) hD'
        have s12 := Same.trans s1 s2
        exact ⟨_, rfl, _, rfl, _, rfl, v, m, lv, D, ks, kk, t, as, _, rfl, hD.same s12, hN, hl, ef, upd_same, fun as2 ks2 q2 H6 perm srt e6 s6 h6 => q ks2 q2 H6 ⟨lv, t, as, kk, as2, ef, perm, srt, e6⟩ (Same.trans s12 s6) h6⟩
    | rem h1 => exact absurd (show ("remove" : Str) = "unset" from hw) (by decide)
    | ins h1 h2 => exact absurd (show ("insert" : Str) = "unset" from hw) (by decide)
    | mov h1 => exact absurd (show ("move" : Str) = "unset" from hw) (by decide)
    | txt h1 => exact absurd (show ("text" : Str) = "unset" from hw) (by decide)
    | set h1 => exact absurd (show ("set" : Str) = "unset" from hw) (by decide)
end
end VL

set_option Elab.async false
set_option linter.all false
set_option pp.maxSteps 700
set_option maxRecDepth 100000
set_option maxHeartbeats 4000000
/-! what operations do, and what they keep -/
namespace VL
open PySem PySem.Spec PyProof.Rows L2 S2S
def leSS (a b : Pss) : Bool := !ltSS b a
theorem swoI : SrtO.Swo ltSS := swo_SS (fun x : Pss => x)
def srtP (as : List Pss) : List Pss := as.mergeSort leSS
theorem srtP_perm (as : List Pss) : (srtP as).Perm as := List.mergeSort_perm _ _
theorem srtP_srtd (as : List Pss) : SrtO.Srtd ltSS (srtP as) := by
  have h : (srtP as).Pairwise (fun a b => leSS a b = true) := List.pairwise_mergeSort (le := leSS) (fun a b c h1 h2 => by
    unfold leSS at h1 h2 ⊢
    rw [Bool.not_eq_true'] at h1 h2 ⊢
    exact swoI.tr a b c h1 h2) (fun a b => by
    unfold leSS
    cases h : ltSS b a with
    | false => rfl
    | true => rw [swoI.asym _ _ h]; rfl) as
  refine h.imp fun {a b} z => ?_
  unfold leSS at z
  rwa [Bool.not_eq_true'] at z
theorem srtP_of {as as2 : List Pss} (p : as2.Perm as) (s : SrtO.Srtd ltSS as2) : as2 = srtP as := one (fun x y h1 h2 => ltSS_anti h1 h2) s (srtP_srtd as) (p.trans (srtP_perm as).symm)
def Asc (as : List Pss) : Prop := as.Pairwise fun a b => ltL a.1 b.1 = true
theorem asc_srtd {as : List Pss} (h : Asc as) : SrtO.Srtd ltSS as := by
  refine List.Pairwise.imp (fun {a b} z => ?_) h
  unfold ltSS
  rw [if_neg (fun e => by rw [e] at z; rw [ltL_irr] at z; cases z)]
  exact ltL_asym z
theorem asc_nd {as : List Pss} (h : Asc as) : (as.map (·.1)).Nodup := by
  refine List.pairwise_map.mpr (List.Pairwise.imp (fun {a b} z e => ?_) h)
  rw [e, ltL_irr] at z
  cases z
theorem srtP_asc {as : List Pss} (h : Asc as) : srtP as = as := (srtP_of (List.Perm.refl _) (asc_srtd h)).symm
/-- sorted, names all different: ascending -/
theorem asc_of {as : List Pss} (s : SrtO.Srtd ltSS as) (n : (as.map (·.1)).Nodup) : Asc as := by
  have n := List.pairwise_map.mp n
  refine List.Pairwise.imp₂ (fun {a b} h1 h2 => ?_) s n
  have h1 : ltSS b a = false := h1
  unfold ltSS at h1
  rw [if_neg (fun z => h2 z.symm)] at h1
  cases h : ltL a.1 b.1 with
  | true => rfl
  | false => exact absurd (ltL_anti h h1) h2
theorem put_perm (k x : Str) : ∀ {as : List Pss}, (as.map (·.1)).Nodup → (putP as k x).Perm ((as.filter fun p => decide (p.1 ≠ k)) ++ [(k, x)]) := by
  intro as nd
  unfold putP
  by_cases c : k ∈ as.map (·.1)
  · rw [if_pos c]
    induction as with
    | nil => simp at c
    | cons p r ih =>
      rw [List.map_cons, List.nodup_cons] at nd
      by_cases e : p.1 = k
      · have nr : k ∉ r.map (·.1) := by rw [← e]; exact nd.1
        have e1 : (r.map fun p => if p.1 = k then (p.1, x) else p) = r := by
          refine (List.map_congr_left fun q hq => ?_).trans (List.map_id r)
          rw [if_neg (fun z => nr (List.mem_map.mpr ⟨q, hq, z⟩))]
          rfl
        have e2 : (r.filter fun p => decide (p.1 ≠ k)) = r := List.filter_eq_self.mpr fun q hq => decide_eq_true fun z => nr (List.mem_map.mpr ⟨q, hq, z⟩)
        rw [List.map_cons, if_pos e, e1, List.filter_cons_of_neg (by simp [e]), e2, e]
        exact (List.perm_append_singleton _ _).symm
      · have cr : k ∈ r.map (·.1) := by
          rw [List.map_cons, List.mem_cons] at c
          rcases c with c | c
          · exact absurd c.symm e
          · exact c
        rw [List.map_cons, if_neg e, List.filter_cons_of_pos (by simp [e])]
        exact (ih nd.2 cr).cons p
  · rw [if_neg c]
    have e2 : (as.filter fun p => decide (p.1 ≠ k)) = as := List.filter_eq_self.mpr fun q hq => decide_eq_true fun z => c (List.mem_map.mpr ⟨q, hq, z⟩)
    rw [e2]
def targD : OpD → Int
  | .rem p _ => p
  | .ins p _ _ => p
  | .mov p _ _ => p
  | .txt n _ => n
  | .set n _ _ => n
  | .uns n _ => n
def attL (o : OpD) (n : Int) (as : List Pss) : List Pss := match o with
  | .set m k x => if n = m then (as.filter fun p => decide (p.1 ≠ k)) ++ [(k, x)] else as
  | .uns m k => if n = m then as.filter fun p => decide (p.1 ≠ k) else as
  | _ => as
def putL (kk : List Dn) (d : Dn) : Option Int → List Dn
  | none => kk ++ [d]
  | some m => putD kk d ((placeD kk m).getD 0)
def finD (o : OpD) (own : Int) (nodes : List Dn) : List Dn := match o with
  | .ins p d ah => if own = p then putL nodes d ah else nodes
  | .rem p n => if own = p then nodes.filter (fun d => decide (d.num ≠ n)) else nodes
  | .mov p n ah => if own = p then (match nodes.filter (fun d => decide (d.num = n)) with
    | m :: _ => putL (nodes.filter (fun d => decide (d.num ≠ n))) m ah
    | [] => nodes) else nodes
  | _ => nodes
def txtL (o : OpD) (n : Int) (x : Str) : Str := match o with
  | .txt m y => if n = m then y else x
  | _ => x
mutual
def lsN (o : OpD) : Dn → Dn
  | .tx n x => .tx n (txtL o n x)
  | .el n t as ks => .el n t (srtP (attL o n as)) (finD o n (lsS o ks))
def lsS (o : OpD) : List Dn → List Dn
  | [] => []
  | d :: r => lsN o d :: lsS o r
end
def opD (ks : List Dn) (o : OpD) : List Dn := finD o 0 (lsS o ks)
def AscN : Dn → Prop
  | .tx _ _ => True
  | .el _ _ as _ => Asc as
theorem finD_no {o : OpD} {n : Int} {ks : List Dn} (h : n ≠ targD o) : finD o n ks = ks := by
  cases o with
  | rem p m => exact if_neg h
  | ins p d ah => exact if_neg h
  | mov p m ah => exact if_neg h
  | txt m x => rfl
  | set m k x => rfl
  | uns m k => rfl
theorem attL_no {o : OpD} {n : Int} {as : List Pss} (h : n ≠ targD o) : attL o n as = as := by
  cases o with
  | rem p m => rfl
  | ins p d ah => rfl
  | mov p m ah => rfl
  | txt m x => rfl
  | set m k x => exact if_neg h
  | uns m k => exact if_neg h
theorem txtL_no {o : OpD} {n : Int} {x : Str} (h : n ≠ targD o) : txtL o n x = x := by
  cases o with
  | rem p m => rfl
  | ins p d ah => rfl
  | mov p m ah => rfl
  | txt m x => exact if_neg h
  | set m k x => rfl
  | uns m k => rfl
mutual
theorem lsN_no {o : OpD} : ∀ {d : Dn}, targD o ∉ numN d → AllD AscN d → lsN o d = d
  | .tx n x, h, _ => by
    simp only [numN, List.mem_singleton] at h
    simp only [lsN, txtL_no (fun z => h z.symm)]
  | .el n t as ks, h, a => by
    simp only [numN, List.mem_cons, not_or] at h
    simp only [AllD] at a
    have hn : n ≠ targD o := fun z => h.1 z.symm
    have a1 : Asc as := a.1
    simp only [lsN, attL_no hn, srtP_asc a1, lsS_no h.2 a.2, finD_no hn]
theorem lsS_no {o : OpD} : ∀ {ks : List Dn}, targD o ∉ numS ks → AllS AscN ks → lsS o ks = ks
  | [], _, _ => by simp only [lsS]
  | d :: r, h, a => by
    simp only [numS, List.mem_append, not_or] at h
    simp only [AllS] at a
    simp only [lsS, lsN_no h.1 a.1, lsS_no h.2 a.2]
end
mutual
theorem wnN_num {d : Dn} : ∀ {o r : Dn}, wnN d o = some r → d.num ∈ numN o
  | .tx n x, r, h => by
    simp only [wnN] at h
    split at h
    · rename_i e
      simp only [numN, e, List.mem_singleton]
    · cases h
  | .el n t as ks, r, h => by
    simp only [wnN] at h
    simp only [numN, List.mem_cons]
    split at h
    · rename_i e
      exact .inl e.symm
    · obtain ⟨kk, hk, _⟩ := Option.map_eq_some_iff.mp h
      exact .inr (wnS_num hk)
theorem wnS_num {d : Dn} : ∀ {ks r : List Dn}, wnS d ks = some r → d.num ∈ numS ks
  | [], r, h => by simp [wnS] at h
  | o :: r0, r, h => by
    simp only [wnS] at h
    simp only [numS, List.mem_append]
    cases e : wnN d o with
    | some o' => exact .inl (wnN_num e)
    | none =>
      rw [e] at h
      obtain ⟨kk, hk, _⟩ := Option.map_eq_some_iff.mp h
      exact .inr (wnS_num hk)
end
mutual
theorem wn_lsN {o : OpD} {d : Dn} (ht : targD o = d.num) (l : Int) : ∀ {x r : Dn}, wnN d x = some r → (numN x).Nodup → AllD AscN x → (∀ p ∈ it l x, p.2.num = d.num → lsN o p.2 = d) → r = lsN o x
  | .tx n y, r, h, _, _, hm => by
    simp only [wnN] at h
    split at h
    · rename_i e
      rw [hm (l, .tx n y) (by simp [it]) e]
      exact (Option.some.inj h).symm
    · cases h
  | .el n t as ks, r, h, nd, a, hm => by
    simp only [wnN] at h
    split at h
    · rename_i e
      rw [hm (l, .el n t as ks) (by simp [it]) e]
      exact (Option.some.inj h).symm
    · rename_i c
      obtain ⟨kk, hk, rfl⟩ := Option.map_eq_some_iff.mp h
      simp only [numN, List.nodup_cons] at nd
      simp only [AllD] at a
      have a1 : Asc as := a.1
      have hn : n ≠ targD o := fun z => c (z.trans ht)
      rw [wn_lsS ht (l + 1) hk nd.2 a.2 (fun p hp => hm p (by simp only [it, List.mem_cons]; exact .inr hp))]
      simp only [lsN, attL_no hn, srtP_asc a1, finD_no hn]
theorem wn_lsS {o : OpD} {d : Dn} (ht : targD o = d.num) (l : Int) : ∀ {ks r : List Dn}, wnS d ks = some r → (numS ks).Nodup → AllS AscN ks → (∀ p ∈ itS l ks, p.2.num = d.num → lsN o p.2 = d) → r = lsS o ks
  | [], r, h, _, _, _ => by simp [wnS] at h
  | x :: r0, r, h, nd, a, hm => by
    simp only [wnS] at h
    simp only [numS, List.nodup_append] at nd
    simp only [AllS] at a
    cases e : wnN d x with
    | some x' =>
      rw [e] at h
      have h : x' :: r0 = r := Option.some.inj h
      have h1 := wnN_num e
      have h2 : targD o ∉ numS r0 := fun z => nd.2.2 _ h1 _ (by rw [← ht]; exact z) rfl
      rw [← h]
      simp only [lsS, lsS_no h2 a.2]
      rw [wn_lsN ht l e nd.1 a.1 (fun p hp => hm p (by simp only [itS, List.mem_append]; exact .inl hp))]
    | none =>
      rw [e] at h
      obtain ⟨kk, hk, rfl⟩ := Option.map_eq_some_iff.mp h
      have h1 : targD o ∉ numN x := fun z => by
        have := wnN_in (d := d) (o := x) (by rw [← ht]; exact z)
        rw [e] at this
        cases this
      simp only [lsS, lsN_no h1 a.1]
      rw [wn_lsS ht l hk nd.2.1 a.2 (fun p hp => hm p (by simp only [itS, List.mem_append]; exact .inr hp))]
end
theorem it_uniq {ks : List Dn} {l : Int} (nd : (numS ks).Nodup) {p q : Int × Dn} (hp : p ∈ itS l ks) (hq : q ∈ itS l ks) (e : p.2.num = q.2.num) : p = q := by
  rw [← itS_num l ks] at nd
  obtain ⟨i, hi, rfl⟩ := List.getElem_of_mem hp
  obtain ⟨j, hj, rfl⟩ := List.getElem_of_mem hq
  have : i = j := by
    refine (List.getElem?_inj (by rw [List.length_map]; exact hi) nd).mp ?_
    rw [List.getElem?_map, List.getElem?_map, List.getElem?_eq_getElem hi, List.getElem?_eq_getElem hj]
    exact congrArg some e
  subst this
  rfl
end VL

set_option Elab.async false
set_option linter.all false
set_option pp.maxSteps 700
set_option maxRecDepth 100000
set_option maxHeartbeats 4000000
namespace VL
open PySem PySem.Spec PyProof.Rows L2 S2S
structure Doc0 (ks : List Dn) : Prop where
  nd : (numS ks).Nodup
  n0 : (0 : Int) ∉ numS ks
  asc : AllS AscN ks
mutual
theorem all_it {P : Dn → Prop} (l : Int) : ∀ d : Dn, AllD P d → ∀ p ∈ it l d, AllD P p.2
  | .tx n x, h, p, hp => by
    simp only [it, List.mem_singleton] at hp
    rw [hp]
    exact h
  | .el n t as ks, h, p, hp => by
    simp only [it, List.mem_cons] at hp
    rcases hp with rfl | hp
    · exact h
    · simp only [AllD] at h
      exact all_itS (l + 1) ks h.2 p hp
theorem all_itS {P : Dn → Prop} (l : Int) : ∀ ks : List Dn, AllS P ks → ∀ p ∈ itS l ks, AllD P p.2
  | [], _, p, hp => by simp [itS] at hp
  | d :: r, h, p, hp => by
    simp only [itS, List.mem_append] at hp
    simp only [AllS] at h
    rcases hp with hp | hp
    · exact all_it l d h.1 p hp
    · exact all_itS l r h.2 p hp
end
mutual
theorem subl_N (l : Int) : ∀ d : Dn, ∀ p ∈ it l d, (numN p.2).Sublist (numN d)
  | .tx n x, p, hp => by
    simp only [it, List.mem_singleton] at hp
    rw [hp]
    exact List.Sublist.refl _
  | .el n t as ks, p, hp => by
    simp only [it, List.mem_cons] at hp
    rcases hp with rfl | hp
    · exact List.Sublist.refl _
    · simp only [numN]
      exact (subl_S (l + 1) ks p hp).cons _
theorem subl_S (l : Int) : ∀ ks : List Dn, ∀ p ∈ itS l ks, (numN p.2).Sublist (numS ks)
  | [], p, hp => by simp [itS] at hp
  | d :: r, p, hp => by
    simp only [itS, List.mem_append] at hp
    simp only [numS]
    rcases hp with hp | hp
    · exact (subl_N l d p hp).trans (List.sublist_append_left _ _)
    · exact (subl_S l r p hp).trans (List.sublist_append_right _ _)
end
theorem wk_eq {ks ks2 kk2 k0 : List Dn} {p lv n : Int} {t : Str} {as : List Pss} {o : OpD} (D : Doc0 ks) (hp : p ≠ 0) (ht : targD o = p) (ef : findD ks p = some (lv, .el n t as k0)) {as2 : List Pss} (hw : wnS (.el n t as2 kk2) ks = some ks2) (hf : finD o p k0 = kk2) (hat : srtP (attL o p as) = as2) : ks2 = opD ks o := by
  obtain ⟨f1, f2⟩ := findD_in ef
  have f1 : n = p := f1
  subst f1
  have pm := List.mem_of_find?_eq_some ef
  have a := all_itS 1 ks D.asc _ pm
  simp only [AllD] at a
  have a1 : Asc as := a.1
  have nd := (subl_S 1 ks _ pm).nodup D.nd
  simp only [numN, List.nodup_cons] at nd
  have e := wn_lsS (o := o) (d := .el n t as2 kk2) ht 1 hw D.nd D.asc (fun q hq e => by
    have := it_uniq D.nd hq pm e
    rw [this]
    show lsN o (.el n t as k0) = .el n t as2 kk2
    simp only [lsN, lsS_no (show targD o ∉ numS k0 by rw [ht]; exact nd.1) a.2, hf, hat])
  rw [e]
  exact (finD_no (fun z => hp (by rw [← ht, ← z]))).symm
theorem wkD_eq {ks ks2 kk kk2 : List Dn} {p : Int} {o : OpD} (D : Doc0 ks) (hw : wkD ks p kk2 ks2) (ht : targD o = p) (hk : kidsD ks p = some kk) (hf : finD o p kk = kk2) (hat : ∀ as, attL o p as = as) : ks2 = opD ks o := by
  rcases hw with ⟨rfl, rfl⟩ | ⟨hp, lv, n, t, as, k0, ef, hw⟩
  · unfold kidsD at hk
    rw [if_pos rfl] at hk
    have hk : ks = kk := Option.some.inj hk
    subst hk
    unfold opD
    rw [lsS_no (by rw [ht]; exact D.n0) D.asc, hf]
  · unfold kidsD at hk
    rw [if_neg hp, ef] at hk
    have hk : k0 = kk := Option.some.inj hk
    subst hk
    have pm := List.mem_of_find?_eq_some ef
    have a := all_itS 1 ks D.asc _ pm
    simp only [AllD] at a
    have a1 : Asc as := a.1
    exact wk_eq D hp ht ef hw hf (by rw [hat, srtP_asc a1])
theorem putL_eq {kk : List Dn} {d : Dn} {ah : Option Int} {i : Nat} (h : plcD kk ah = some i) : putL kk d ah = putD kk d i := by
  cases ah with
  | none =>
    have h : kk.length = i := Option.some.inj h
    subst h
    simp [putL, putD]
  | some m =>
    have h : placeD kk m = some i := h
    show putD kk d ((placeD kk m).getD 0) = _
    rw [h]
    rfl
theorem place_head {kk : List Dn} {n : Int} {j : Nat} {m : Dn} (h : placeD kk n = some j) (hm : kk[j]? = some m) : ∃ r, kk.filter (fun d => decide (d.num = n)) = m :: r := by
  have hf : kk.find? (fun d => decide (d.num = n)) = some m := by
    unfold placeD at h
    rw [List.findIdx?_eq_some_iff_getElem] at h
    obtain ⟨h1, h2, h3⟩ := h
    rw [List.find?_eq_some_iff_getElem]
    have e : kk[j] = m := by
      rw [List.getElem?_eq_getElem h1] at hm
      exact Option.some.inj hm
    refine ⟨by rw [← e]; exact h2, j, h1, e, fun i hi => ?_⟩
    have := h3 i hi
    simpa using this
  rw [← List.head?_filter] at hf
  cases hl : kk.filter (fun d => decide (d.num = n)) with
  | nil =>
    rw [hl] at hf
    cases hf
  | cons a r =>
    rw [hl] at hf
    have : a = m := Option.some.inj hf
    exact ⟨r, by rw [this]⟩
theorem srtP_congr {a b : List Pss} (h : a.Perm b) : srtP a = srtP b := srtP_of ((srtP_perm a).trans h) (srtP_srtd a)
/-- what is made is what the law says -/
theorem chg_eq {ks ks2 : List Dn} {o : OpD} (D : Doc0 ks) (nf : faultD ks o = none) (h : chgR ks o ks2) : ks2 = opD ks o := by
  cases o with
  | rem p n =>
    obtain ⟨kk, hk, hw⟩ := h
    exact wkD_eq D hw rfl hk (if_pos rfl) (fun _ => rfl)
  | ins p d ah =>
    obtain ⟨kk, i, hk, hi, hw⟩ := h
    exact wkD_eq D hw rfl hk ((if_pos rfl).trans (putL_eq hi)) (fun _ => rfl)
  | mov p n ah =>
    obtain ⟨kk, j, m, i, hk, hj, hm, hi, hw⟩ := h
    obtain ⟨r, hr⟩ := place_head hj hm
    refine wkD_eq D hw rfl hk ((if_pos rfl).trans ?_) (fun _ => rfl)
    rw [hr]
    exact putL_eq hi
  | txt n x =>
    have h : wnS (.tx n x) ks = some ks2 := h
    simp only [faultD] at nf
    split at nf
    · rename_i lv m y ef
      obtain ⟨f1, f2⟩ := findD_in ef
      have f1 : m = n := f1
      subst f1
      have hn : m ≠ 0 := fun z => D.n0 (by rw [← z]; exact f2)
      have e := wn_lsS (o := .txt m x) (d := .tx m x) rfl 1 h D.nd D.asc (fun q hq e => by
        rw [it_uniq D.nd hq (List.mem_of_find?_eq_some ef) e]
        simp only [lsN, txtL, if_true])
      rw [e]
      exact (finD_no (o := .txt m x) (fun z => hn z.symm)).symm
    · cases nf
  | set n k x =>
    obtain ⟨lv, t, as, kk, as2, ef, perm, srt, hw⟩ := h
    have f2 := (findD_in ef).2
    have a := all_itS 1 ks D.asc _ (List.mem_of_find?_eq_some ef)
    simp only [AllD] at a
    have a1 : Asc as := a.1
    refine wk_eq (o := .set n k x) D (fun z => D.n0 (by rw [← z]; exact f2)) rfl ef hw rfl ?_
    rw [srtP_of perm srt]
    exact ((srtP_congr (put_perm k x (asc_nd a1))).trans (by simp only [attL, targD, if_true])).symm
  | uns n k =>
    obtain ⟨lv, t, as, kk, as2, ef, perm, srt, hw⟩ := h
    have f2 := (findD_in ef).2
    refine wk_eq (o := .uns n k) D (fun z => D.n0 (by rw [← z]; exact f2)) rfl ef hw rfl ?_
    rw [srtP_of perm srt]
    simp only [attL, targD, if_true]
end VL

set_option Elab.async false
set_option linter.all false
set_option pp.maxSteps 700
set_option maxRecDepth 100000
set_option maxHeartbeats 4000000
namespace VL
open PySem PySem.Spec PyProof.Rows L2 S2S
theorem perm_mid {α : Type} (A R M : List α) : ((A ++ R) ++ M).Perm ((A ++ M) ++ R) := by
  rw [List.append_assoc, List.append_assoc]
  exact List.Perm.append_left A List.perm_append_comm
mutual
theorem wnN_perm {d m : Dn} (l : Int) : ∀ {x r : Dn}, wnN d x = some r → (∀ p ∈ it l x, p.2.num = d.num → p.2 = m) → (numN r ++ numN m).Perm (numN x ++ numN d)
  | .tx n y, r, h, hm => by
    simp only [wnN] at h
    split at h
    · rename_i e
      have e2 : Dn.tx n y = m := hm (l, .tx n y) (by simp [it]) e
      rw [← Option.some.inj h, ← e2]
      exact List.perm_append_comm
    · cases h
  | .el n t as ks, r, h, hm => by
    simp only [wnN] at h
    split at h
    · rename_i e
      have e2 : Dn.el n t as ks = m := hm (l, .el n t as ks) (by simp [it]) e
      rw [← Option.some.inj h, ← e2]
      exact List.perm_append_comm
    · obtain ⟨kk, hk, rfl⟩ := Option.map_eq_some_iff.mp h
      have ih := wnS_perm (l + 1) hk (fun p hp => hm p (by simp only [it, List.mem_cons]; exact .inr hp))
      simp only [numN, List.cons_append]
      exact ih.cons n
theorem wnS_perm {d m : Dn} (l : Int) : ∀ {ks r : List Dn}, wnS d ks = some r → (∀ p ∈ itS l ks, p.2.num = d.num → p.2 = m) → (numS r ++ numN m).Perm (numS ks ++ numN d)
  | [], r, h, _ => by simp [wnS] at h
  | x :: r0, r, h, hm => by
    simp only [wnS] at h
    cases e : wnN d x with
    | some x' =>
      rw [e] at h
      rw [← Option.some.inj h]
      have ih := wnN_perm l e (fun p hp => hm p (by simp only [itS, List.mem_append]; exact .inl hp))
      simp only [numS]
      exact (perm_mid _ _ _).trans ((ih.append_right _).trans (perm_mid _ _ _))
    | none =>
      rw [e] at h
      obtain ⟨kk, hk, rfl⟩ := Option.map_eq_some_iff.mp h
      have ih := wnS_perm l hk (fun p hp => hm p (by simp only [itS, List.mem_append]; exact .inr hp))
      simp only [numS]
      rw [List.append_assoc, List.append_assoc]
      exact ih.append_left _
end
mutual
theorem wnN_all {P : Dn → Prop} {d : Dn} (hP : ∀ n t as ks kk, P (.el n t as ks) → P (.el n t as kk)) (hd : AllD P d) : ∀ {x r : Dn}, wnN d x = some r → AllD P x → AllD P r
  | .tx n y, r, h, a => by
    simp only [wnN] at h
    split at h
    · rw [← Option.some.inj h]
      exact hd
    · cases h
  | .el n t as ks, r, h, a => by
    simp only [wnN] at h
    simp only [AllD] at a
    split at h
    · rw [← Option.some.inj h]
      exact hd
    · obtain ⟨kk, hk, rfl⟩ := Option.map_eq_some_iff.mp h
      simp only [AllD]
      exact ⟨hP _ _ _ _ _ a.1, wnS_all hP hd hk a.2⟩
theorem wnS_all {P : Dn → Prop} {d : Dn} (hP : ∀ n t as ks kk, P (.el n t as ks) → P (.el n t as kk)) (hd : AllD P d) : ∀ {ks r : List Dn}, wnS d ks = some r → AllS P ks → AllS P r
  | [], r, h, _ => by simp [wnS] at h
  | x :: r0, r, h, a => by
    simp only [wnS] at h
    simp only [AllS] at a
    cases e : wnN d x with
    | some x' =>
      rw [e] at h
      rw [← Option.some.inj h]
      simp only [AllS]
      exact ⟨wnN_all hP hd e a.1, a.2⟩
    | none =>
      rw [e] at h
      obtain ⟨kk, hk, rfl⟩ := Option.map_eq_some_iff.mp h
      simp only [AllS]
      exact ⟨a.1, wnS_all hP hd hk a.2⟩
end
mutual
theorem wnN_hgt {d : Dn} {c : Nat} (l : Int) : ∀ {x r : Dn}, wnN d x = some r → (∀ p ∈ it l x, p.2.num = d.num → hN d ≤ hN p.2 + c) → hN r ≤ hN x + c
  | .tx n y, r, h, hm => by
    simp only [wnN] at h
    split at h
    · rename_i e
      have e2 := hm (l, .tx n y) (by simp [it]) e
      rw [← Option.some.inj h]
      exact e2
    · cases h
  | .el n t as ks, r, h, hm => by
    simp only [wnN] at h
    split at h
    · rename_i e
      have e2 := hm (l, .el n t as ks) (by simp [it]) e
      rw [← Option.some.inj h]
      exact e2
    · obtain ⟨kk, hk, rfl⟩ := Option.map_eq_some_iff.mp h
      have ih := wnS_hgt (l + 1) hk (fun p hp => hm p (by simp only [it, List.mem_cons]; exact .inr hp))
      simp only [hN]
      omega
theorem wnS_hgt {d : Dn} {c : Nat} (l : Int) : ∀ {ks r : List Dn}, wnS d ks = some r → (∀ p ∈ itS l ks, p.2.num = d.num → hN d ≤ hN p.2 + c) → hS r ≤ hS ks + c
  | [], r, h, _ => by simp [wnS] at h
  | x :: r0, r, h, hm => by
    simp only [wnS] at h
    cases e : wnN d x with
    | some x' =>
      rw [e] at h
      rw [← Option.some.inj h]
      have ih := wnN_hgt l e (fun p hp => hm p (by simp only [itS, List.mem_append]; exact .inl hp))
      simp only [hS]
      omega
    | none =>
      rw [e] at h
      obtain ⟨kk, hk, rfl⟩ := Option.map_eq_some_iff.mp h
      have ih := wnS_hgt l hk (fun p hp => hm p (by simp only [itS, List.mem_append]; exact .inr hp))
      simp only [hS]
      omega
end
theorem AllS_iff {P : Dn → Prop} : ∀ {ks : List Dn}, AllS P ks ↔ ∀ d ∈ ks, AllD P d
  | [] => by simp [AllS]
  | d :: r => by
    simp only [AllS, List.mem_cons, forall_eq_or_imp]
    exact and_congr_right fun _ => AllS_iff
theorem hS_le {c : Nat} : ∀ {ks : List Dn}, (∀ d ∈ ks, hN d ≤ c) → hS ks ≤ c
  | [], _ => by simp [hS]
  | d :: r, h => by
    have h1 := h d List.mem_cons_self
    have h2 := hS_le (ks := r) fun e he => h e (List.mem_cons_of_mem _ he)
    simp only [hS]
    omega
theorem numS_app2 : ∀ a b : List Dn, numS (a ++ b) = numS a ++ numS b
  | [], b => by simp [numS]
  | d :: r, b => by simp only [List.cons_append, numS, numS_app2 r b, List.append_assoc]
theorem cnt_split (g : Dn → Bool) (x : Int) : ∀ kk : List Dn, (numS (kk.filter g)).count x + (numS (kk.filter fun d => !g d)).count x = (numS kk).count x
  | [] => by simp [numS]
  | d :: r => by
    have ih := cnt_split g x r
    cases h : g d with
    | true =>
      rw [List.filter_cons_of_pos h, List.filter_cons_of_neg (by rw [h]; decide)]
      simp only [numS, List.count_append]
      omega
    | false =>
      rw [List.filter_cons_of_neg (by rw [h]; decide), List.filter_cons_of_pos (by rw [h]; decide)]
      simp only [numS, List.count_append]
      omega
theorem cnt_put (kk : List Dn) (d : Dn) (i : Nat) (x : Int) : (numS (putD kk d i)).count x = (numS kk).count x + (numN d).count x := by
  have e : (numS kk).count x = (numS (kk.take i)).count x + (numS (kk.drop i)).count x := by
    rw [← List.count_append, ← numS_app2, List.take_append_drop]
  unfold putD
  rw [numS_app2, numS_app2, List.count_append, List.count_append, e]
  simp only [numS, List.append_nil]
  omega
theorem len_put (kk : List Dn) (d : Dn) (i : Nat) : (numS (putD kk d i)).length = (numS kk).length + (numN d).length := by
  have e : (numS kk).length = (numS (kk.take i)).length + (numS (kk.drop i)).length := by
    rw [← List.length_append, ← numS_app2, List.take_append_drop]
  unfold putD
  rw [numS_app2, numS_app2, List.length_append, List.length_append, e]
  simp only [numS, List.append_nil]
  omega
theorem mem_put {kk : List Dn} {d e : Dn} {i : Nat} (h : e ∈ putD kk d i) : e ∈ kk ∨ e = d := by
  unfold putD at h
  rcases List.mem_append.mp h with h | h
  · rcases List.mem_append.mp h with h | h
    · exact .inl (List.mem_of_mem_take h)
    · exact .inr (List.mem_singleton.mp h)
  · exact .inl (List.mem_of_mem_drop h)
/-- other kids in a parent: what it does to all -/
theorem wk_inv {ks ks2 kk kk2 : List Dn} {p : Int} (nd : (numS ks).Nodup) (hw : wkD ks p kk2 ks2) (hk : kidsD ks p = some kk) :
    (∀ x, (numS ks2).count x + (numS kk).count x = (numS ks).count x + (numS kk2).count x) ∧ (numS ks2).length + (numS kk).length = (numS ks).length + (numS kk2).length ∧
    (∀ P : Dn → Prop, (∀ n t as ks kk, P (.el n t as ks) → P (.el n t as kk)) → AllS P ks → AllS P kk2 → AllS P ks2) ∧ ∀ c, hS kk2 ≤ hS kk + c → hS ks2 ≤ hS ks + c := by
  rcases hw with ⟨rfl, rfl⟩ | ⟨hp, lv, n, t, as, k0, ef, hw⟩
  · unfold kidsD at hk
    rw [if_pos rfl] at hk
    cases hk
    exact ⟨fun x => by omega, by omega, fun P _ _ h => h, fun c h => h⟩
  · unfold kidsD at hk
    rw [if_neg hp, ef] at hk
    cases hk
    have pm := List.mem_of_find?_eq_some ef
    have un : ∀ q ∈ itS 1 ks, q.2.num = (Dn.el n t as kk2).num → q.2 = .el n t as kk := fun q hq e => by
      rw [it_uniq nd hq pm e]
    have pr := wnS_perm 1 hw un
    simp only [numN] at pr
    refine ⟨fun x => ?_, ?_, fun P hP a1 a2 => ?_, fun c h => ?_⟩
    · have := pr.count_eq x
      simp only [List.count_append, List.count_cons] at this
      omega
    · have := pr.length_eq
      simp only [List.length_append, List.length_cons] at this
      omega
    · have a := all_itS 1 ks a1 _ pm
      simp only [AllD] at a
      exact wnS_all hP (by simp only [AllD]; exact ⟨hP _ _ _ _ _ a.1, a2⟩) hw a1
    · refine wnS_hgt 1 hw fun q hq e => ?_
      rw [un q hq e]
      simp only [hN]
      omega
end VL

set_option Elab.async false
set_option linter.all false
set_option pp.maxSteps 700
set_option maxRecDepth 100000
set_option maxHeartbeats 4000000
namespace VL
open PySem PySem.Spec PyProof.Rows L2 S2S
def ShJ (j : Nat) : Dn → Prop
  | .tx _ x => (reprText x).length ≤ 20
  | .el _ t as _ => (reprText t).length ≤ 20 ∧ as.length ≤ 4 + j ∧ Asc as ∧ ∀ p ∈ as, (reprText p.1).length ≤ 20 ∧ (reprText p.2).length ≤ 20
structure Good (j : Nat) (ks : List Dn) : Prop where
  nd : (numS ks).Nodup
  nb : ∀ n ∈ numS ks, 1 ≤ n ∧ n ≤ 200 + 200 * (j : Int)
  sh : AllS (ShJ j) ks
  h : hS ks ≤ 5 + 3 * j
  len : (numS ks).length ≤ 16 + 4 * j
mutual
theorem AllD_imp {P Q : Dn → Prop} (h : ∀ d, P d → Q d) : ∀ {d : Dn}, AllD P d → AllD Q d
  | .tx n x, a => h _ a
  | .el n t as ks, a => by
    simp only [AllD] at a ⊢
    exact ⟨h _ a.1, AllS_imp h a.2⟩
theorem AllS_imp {P Q : Dn → Prop} (h : ∀ d, P d → Q d) : ∀ {ks : List Dn}, AllS P ks → AllS Q ks
  | [], _ => trivial
  | d :: r, a => by
    simp only [AllS] at a ⊢
    exact ⟨AllD_imp h a.1, AllS_imp h a.2⟩
end
theorem ShJ.asc {j : Nat} : ∀ d : Dn, ShJ j d → AscN d
  | .tx _ _, _ => trivial
  | .el _ _ _ _, h => h.2.2.1
theorem ShJ.mono {j : Nat} : ∀ d : Dn, ShJ j d → ShJ (j + 1) d
  | .tx _ _, h => h
  | .el _ _ _ _, h => ⟨h.1, by have := h.2.1; omega, h.2.2⟩
theorem ShJ.kids {j : Nat} : ∀ (n : Int) (t : Str) (as : List (Str × Str)) (ks kk : List Dn), ShJ j (.el n t as ks) → ShJ j (.el n t as kk) := fun _ _ _ _ _ h => h
theorem Good.doc {j : Nat} {ks : List Dn} (g : Good j ks) : Doc0 ks := ⟨g.nd, fun z => by have := (g.nb _ z).1; omega, AllS_imp ShJ.asc g.sh⟩
theorem asc_names : lNames.Pairwise (fun a b => ltL a b = true) := by decide
theorem short_names : ∀ x ∈ lNames, (reprText x).length ≤ 20 := by decide +kernel
theorem NamOk.sh {j : Nat} : ∀ d : Dn, NamOk d → ShJ j d
  | .tx _ _, h => h.2
  | .el _ t as _, h => by
    have h1 : (as.map (·.1)).Sublist lNames := h.1
    have h2 := h1.length_le
    rw [List.length_map] at h2
    have h2 : as.length ≤ 4 := h2
    exact ⟨h.2.1, by omega, List.pairwise_map.mp (asc_names.sublist h1), fun p hp => ⟨short_names _ (h1.subset (List.mem_map.mpr ⟨p, hp, rfl⟩)), h.2.2 p hp⟩⟩
theorem good_0 {ks : List Dn} (nd : (numS ks).Nodup) (nb : ∀ x ∈ numS ks, 1 ≤ x ∧ x ≤ 16) (a : AllS NamOk ks) (h : hS ks ≤ 5) (l : (numS ks).length ≤ 16) : Good 0 ks :=
  ⟨nd, fun n hn => by have := nb n hn; omega, AllS_imp NamOk.sh a, by omega, by omega⟩
theorem Good.names {j : Nat} {ks : List Dn} (g : Good j ks) (hj : j ≤ 20) : ∀ p ∈ itS 1 ks, (namD p.2).Nodup ∧ (namD p.2).length ≤ 100 := fun p hp => by
  have a := all_itS 1 ks g.sh p hp
  obtain ⟨l, d⟩ := p
  cases d with
  | tx n x => exact ⟨List.nodup_nil, Nat.zero_le _⟩
  | el n t as kk =>
    simp only [AllD] at a
    have a1 : ShJ j (.el n t as kk) := a.1
    refine ⟨asc_nd a1.2.2.1, ?_⟩
    show (as.map (·.1)).length ≤ 100
    rw [List.length_map]
    have := a1.2.1
    omega
theorem cnt_mem {l m : List Int} {x : Int} (h : l.count x ≤ m.count x) (hx : x ∈ l) : x ∈ m := List.count_pos_iff.mp (Nat.lt_of_lt_of_le (List.count_pos_iff.mpr hx) h)
/-- from other kids in a parent to the whole -/
theorem good_wk {j : Nat} {ks ks2 kk kk2 : List Dn} {p : Int} {new : List Int} (g : Good j ks) (hw : wkD ks p kk2 ks2) (hk : kidsD ks p = some kk)
    (hc : ∀ x, (numS kk2).count x ≤ (numS kk).count x + new.count x) (hl : (numS kk2).length ≤ (numS kk).length + new.length) (hn : new.Nodup) (hnew : ∀ x ∈ new, x ∉ numS ks ∧ 1 ≤ x ∧ x ≤ 400 + 200 * (j : Int)) (hl4 : new.length ≤ 4)
    (ha : AllS (ShJ (j + 1)) kk → AllS (ShJ (j + 1)) kk2) (hh : hS kk2 ≤ hS kk + 3) : Good (j + 1) ks2 := by
  obtain ⟨i1, i2, i3, i4⟩ := wk_inv g.nd hw hk
  have sh1 := AllS_imp ShJ.mono g.sh
  have cc : ∀ x, (numS ks2).count x ≤ (numS ks).count x + new.count x := fun x => by
    have := i1 x
    have := hc x
    omega
  have shk : AllS (ShJ (j + 1)) kk := by
    unfold kidsD at hk
    split at hk
    · cases hk
      exact sh1
    · split at hk
      · rename_i lv m tg as kk' ef
        cases hk
        have a := all_itS 1 ks sh1 _ (List.mem_of_find?_eq_some ef)
        simp only [AllD] at a
        exact a.2
      · cases hk
  have h4 := i4 3 hh
  have gh := g.h
  have gl := g.len
  refine ⟨List.nodup_iff_count.mpr fun x => ?_, fun n hn => ?_, i3 _ ShJ.kids sh1 (ha shk), by omega, by omega⟩
  · have h1 := List.nodup_iff_count.mp g.nd x
    have h2 := List.nodup_iff_count.mp hn x
    have h3 := cc x
    by_cases c : x ∈ new
    · have := List.count_eq_zero.mpr (hnew x c).1
      omega
    · have := List.count_eq_zero.mpr c
      omega
  · have h0 := List.count_pos_iff.mpr hn
    have h1 := cc n
    by_cases c : n ∈ numS ks
    · have := g.nb n c
      push_cast
      omega
    · have e0 := List.count_eq_zero.mpr c
      have cn : n ∈ new := List.count_pos_iff.mp (by omega)
      have := (hnew n cn).2
      push_cast
      omega
theorem good_same {j : Nat} {ks ks2 : List Dn} {d m : Dn} {lv : Int} (g : Good j ks) (hw : wnS d ks = some ks2) (ef : findD ks d.num = some (lv, m)) (en : numN d = numN m) (hh : hN d ≤ hN m) (ha : AllD (ShJ j) m → AllD (ShJ (j + 1)) d) : Good (j + 1) ks2 := by
  have pm := List.mem_of_find?_eq_some ef
  have fn := (findD_in ef).1
  have un : ∀ q ∈ itS 1 ks, q.2.num = d.num → q.2 = m := fun q hq e => by
    rw [it_uniq g.nd hq pm (by rw [e, fn])]
  have pr := wnS_perm 1 hw un
  rw [en] at pr
  have pr := (List.perm_append_right_iff _).mp pr
  have sh1 := AllS_imp ShJ.mono g.sh
  have h4 := wnS_hgt (c := 0) 1 hw (fun q hq e => by rw [un q hq e]; omega)
  have gh := g.h
  have gl := g.len
  refine ⟨pr.nodup_iff.mpr g.nd, fun n hn => ?_, wnS_all ShJ.kids (ha (all_itS 1 ks g.sh _ pm)) hw sh1, by omega, by rw [pr.length_eq]; omega⟩
  have := g.nb n (pr.mem_iff.mp hn)
  push_cast
  omega
end VL

set_option Elab.async false
set_option linter.all false
set_option pp.maxSteps 700
set_option maxRecDepth 100000
set_option maxHeartbeats 4000000
namespace VL
open PySem PySem.Spec PyProof.Rows L2 S2S
theorem len_split (g : Dn → Bool) : ∀ kk : List Dn, (numS (kk.filter g)).length + (numS (kk.filter fun d => !g d)).length = (numS kk).length
  | [] => by simp [numS]
  | d :: r => by
    have ih := len_split g r
    cases h : g d with
    | true =>
      rw [List.filter_cons_of_pos h, List.filter_cons_of_neg (by rw [h]; decide)]
      simp only [numS, List.length_append]
      omega
    | false =>
      rw [List.filter_cons_of_neg (by rw [h]; decide), List.filter_cons_of_pos (by rw [h]; decide)]
      simp only [numS, List.length_append]
      omega
theorem shEl {j : Nat} {n : Int} {t : Str} {as as2 : List Pss} {kk : List Dn} (a : AllD (ShJ j) (.el n t as kk)) (asc : Asc as2) (hl : as2.length ≤ as.length + 1) (hm : ∀ p ∈ as2, p ∈ as ∨ ((reprText p.1).length ≤ 20 ∧ (reprText p.2).length ≤ 20)) : AllD (ShJ (j + 1)) (.el n t as2 kk) := by
  simp only [AllD] at a ⊢
  obtain ⟨⟨a1, a2, a3, a4⟩, a5⟩ := a
  refine ⟨⟨a1, by omega, asc, fun p hp => ?_⟩, AllS_imp ShJ.mono a5⟩
  rcases hm p hp with h | h
  · exact a4 p h
  · exact h
theorem good_step {j : Nat} {ks ks2 : List Dn} {o : OpD} (g : Good j ks) (ok : OpOk ks o) (nf : faultD ks o = none) (h : chgR ks o ks2) : Good (j + 1) ks2 := by
  cases ok with
  | @rem p n h1 h2 =>
    obtain ⟨kk, hk, hw⟩ := h
    refine good_wk (new := []) g hw hk (fun x => ?_) ?_ List.nodup_nil (fun _ h => nomatch h) (by simp) (fun a => ?_) ?_
    · have := cnt_split (fun d => decide (d.num ≠ n)) x kk
      simp only [List.count_nil]
      omega
    · have := len_split (fun d => decide (d.num ≠ n)) kk
      simp only [List.length_nil]
      omega
    · exact AllS_iff.mpr fun d hd => AllS_iff.mp a d (List.mem_filter.mp hd).1
    · exact Nat.le_trans (hS_le fun d hd => hS_mem (List.mem_filter.mp hd).1) (by omega)
  | @ins p d ah f h1 h2 h3 h4 h5 h6 h7 =>
    obtain ⟨kk, i, hk, hi, hw⟩ := h
    refine good_wk (new := numN d) g hw hk (fun x => Nat.le_of_eq (cnt_put kk d i x)) (Nat.le_of_eq (len_put kk d i)) ?_ (fun x hx => ?_) (h4.length_le) (fun a => ?_) ?_
    · refine List.Sublist.nodup h4 ?_
      simp only [List.nodup_cons, List.mem_cons, List.not_mem_nil, or_false, not_or, List.nodup_nil, and_true, not_false_eq_true]
      omega
    · have hb : x = f ∨ x = f + 30 ∨ x = f + 60 ∨ x = f + 90 := by
        have := h4.subset hx
        simpa using this
      refine ⟨fun z => ?_, by omega, ?_⟩
      · simp only [faultD, hk] at nf
        rw [if_pos] at nf
        · cases nf
        · rw [List.any_eq_true]
          exact ⟨x, hx, decide_eq_true z⟩
      · obtain ⟨m, hm, hf⟩ := h6
        rcases hm with (hm | hm | hm) | hm
        · have := (g.nb m hm).2
          omega
        · omega
        · omega
        · omega
    · refine AllS_iff.mpr fun e he => ?_
      rcases mem_put he with he | rfl
      · exact AllS_iff.mp a e he
      · exact AllD_imp NamOk.sh h2
    · refine hS_le fun e he => ?_
      rcases mem_put he with he | rfl
      · have := hS_mem he
        omega
      · omega
  | @mov p n ah h1 h2 h3 =>
    obtain ⟨kk, jj, m, i, hk, hj, hm, hi, hw⟩ := h
    obtain ⟨r, hr⟩ := place_head hj hm
    have ef : (kk.filter fun d => !decide (d.num ≠ n)) = m :: r := by
      rw [← hr]
      exact List.filter_congr fun d _ => by simp
    have mm := List.mem_of_getElem? hm
    refine good_wk (new := []) g hw hk (fun x => ?_) ?_ List.nodup_nil (fun _ h => nomatch h) (by simp) (fun a => ?_) ?_
    · have e1 := cnt_split (fun d => decide (d.num ≠ n)) x kk
      rw [ef] at e1
      have e2 := cnt_put (kk.filter fun d => decide (d.num ≠ n)) m i x
      simp only [numS, List.count_append] at e1
      simp only [List.count_nil]
      omega
    · have e1 := len_split (fun d => decide (d.num ≠ n)) kk
      rw [ef] at e1
      have e2 := len_put (kk.filter fun d => decide (d.num ≠ n)) m i
      simp only [numS, List.length_append] at e1
      simp only [List.length_nil]
      omega
    · refine AllS_iff.mpr fun e he => ?_
      rcases mem_put he with he | rfl
      · exact AllS_iff.mp a e (List.mem_filter.mp he).1
      · exact AllS_iff.mp a e mm
    · refine hS_le fun e he => ?_
      rcases mem_put he with he | rfl
      · have := hS_mem (List.mem_filter.mp he).1
        omega
      · have := hS_mem mm
        omega
  | @txt n x h1 h2 =>
    have h : wnS (.tx n x) ks = some ks2 := h
    simp only [faultD] at nf
    split at nf
    · rename_i lv m y ef
      obtain ⟨f1, f2⟩ := findD_in ef
      have f1 : m = n := f1
      subst f1
      exact good_same (d := .tx m x) g h ef rfl (Nat.le_refl _) (fun _ => h2)
    · cases nf
  | @set n k x h1 h2 h3 =>
    obtain ⟨lv, t, as, kk, as2, ef, perm, srt, hw⟩ := h
    have a := all_itS 1 ks g.sh _ (List.mem_of_find?_eq_some ef)
    have a0 := a
    simp only [AllD] at a0
    have nda := asc_nd a0.1.2.2.1
    have pp := perm.trans (put_perm k x nda)
    have hk : (reprText k).length ≤ 20 := by
      simp only [List.mem_cons, List.not_mem_nil, or_false] at h2
      rcases h2 with rfl | rfl | rfl <;> decide +kernel
    refine good_same (d := .el n t as2 kk) g hw ef rfl (Nat.le_refl _) (fun a => shEl a (asc_of srt ?_) ?_ (fun p hp => ?_))
    · refine (pp.map (·.1)).nodup_iff.mpr ?_
      rw [List.map_append, List.nodup_append]
      refine ⟨(List.filter_sublist.map _).nodup nda, by simp, fun y hy z hz e => ?_⟩
      obtain ⟨q, hq, rfl⟩ := List.mem_map.mp hy
      have hz : z = k := by simpa using hz
      have := of_decide_eq_true (List.mem_filter.mp hq).2
      exact this (e.trans hz)
    · have := pp.length_eq
      rw [List.length_append] at this
      have h4 := List.length_filter_le (fun p : Pss => decide (p.1 ≠ k)) as
      exact Nat.le_trans (Nat.le_of_eq this) (Nat.succ_le_succ h4)
    · rcases List.mem_append.mp (pp.mem_iff.mp hp) with h | h
      · exact .inl (List.mem_filter.mp h).1
      · rw [List.mem_singleton.mp h]
        exact .inr ⟨hk, h3⟩
  | @uns n k h1 h2 =>
    obtain ⟨lv, t, as, kk, as2, ef, perm, srt, hw⟩ := h
    have a := all_itS 1 ks g.sh _ (List.mem_of_find?_eq_some ef)
    have a0 := a
    simp only [AllD] at a0
    have nda := asc_nd a0.1.2.2.1
    refine good_same (d := .el n t as2 kk) g hw ef rfl (Nat.le_refl _) (fun a => shEl a (asc_of srt ?_) ?_ (fun p hp => ?_))
    · exact (perm.map (·.1)).nodup_iff.mpr ((List.filter_sublist.map _).nodup nda)
    · exact Nat.le_trans (Nat.le_of_eq perm.length_eq) (Nat.le_trans (List.length_filter_le _ _) (Nat.le_succ _))
    · exact .inl (List.mem_filter.mp (perm.mem_iff.mp hp)).1
end VL

set_option Elab.async false
set_option linter.all false
set_option pp.maxSteps 700
set_option maxRecDepth 100000
set_option maxHeartbeats 4000000
namespace VL
open PySem PySem.Spec PyProof.Rows L2 S2S
def FitD (ks : List Dn) : Prop := hS ks ≤ 30 ∧ (numS ks).length ≤ 1000 ∧ Doc0 ks ∧ ∀ p ∈ itS 1 ks, (namD p.2).Nodup ∧ (namD p.2).length ≤ 100
def insOk (o : OpD) : Prop := ∀ p d ah, o = .ins p d ah → (numN d).length ≤ 100
def RunOk : List Dn → List OpD → Prop
  | _, [] => True
  | ks, o :: os => FitD ks ∧ insOk o ∧ faultD ks o = none ∧ RunOk (opD ks o) os
def spAll : Sp := fun vs H Q _ => ∃ (a la : Addr) (ks : List Dn) (os : List OpD) (us : List V), vs = [.ref a, .ref la] ∧ TupD H a ks ∧ H la = some (.lst us) ∧ Paired (OpA H) us os ∧ os.length ≤ 100 ∧ RunOk ks os ∧ ∀ q H', Same H H' → TupD H' q (os.foldl opD ks) → Q (.ref q) H'
def spOne : Sp := fun vs H Q _ => ∃ (a : Addr) (u : V) (ks : List Dn) (o : OpD), vs = [.ref a, u] ∧ TupD H a ks ∧ OpA H u o ∧ RunOk ks [o] ∧ ∀ q H', Same H H' → TupD H' q (opD ks o) → Q (.ref q) H'
theorem DocA.of {H : Hp} {a : Addr} {ks : List Dn} (h : TupD H a ks) (l : (numS ks).length ≤ 1000) : DocA H (.ref a) ks := by
  obtain ⟨xs, h1, h2⟩ := h
  refine ⟨a, xs, rfl, h1, h2, ?_⟩
  rw [← itS_num 1 ks, List.length_map] at l
  exact l
theorem OpA.sames {H H' : Hp} {us : List V} {os : List OpD} (s : Same H H') (h : Paired (OpA H) us os) : Paired (OpA H') us os := Paired.mono (fun _ _ h => h.same s) h
section
variable {P : Program} {w : World} {K : PySem.W.Frag} {mg : Str → Option Value} {base : Heap} {C : Ad}
theorem sc_apply_all : FnScope ["document", "operations", "index", "operation", "message", "action"] ["document", "operations"] (defScope s_apply_all) := ⟨rfl, rfl, rfl, by decide +kernel, rfl, by decide +kernel, by decide +kernel⟩
theorem ok_all (T : Txt K w mg C) : Cal P w K mg base 67 "apply_all" spAll := by
  have Gfault_of := ok_fault (P := P) (base := base) T
  obtain ⟨aT, gT_CHANGES, ⟨f1, m1, e1⟩, ⟨f2, m2, e2⟩, ⟨f3, m3, e3⟩, ⟨f4, m4, e4⟩, ⟨f5, m5, e5⟩, ⟨f6, m6, e6⟩⟩ := T.tb_CHANGES
  refine cal_of T.d_apply_all sc_apply_all (fun vs H Q E h => ?_) (fun f cdv A outer s H vs Q E hr h => ?_)
  · obtain ⟨a, la, ks, os, us, rfl, _⟩ := h
    rfl
  · obtain ⟨a, la, ks, os, us, rfl, ht, hla, hos, hl, ok, q⟩ := h
    have ul := Paired.length hos
    refine ⟨_, (pss_cons (ps_for PassesOwn.never rfl (pi_enum (by rfl) T.z_enumerate (pa_cons (pv 1) pa_nil)) (pg_tup rfl (pgs_cons (pg_name (i := 2) sc_apply_all.nd rfl (Or.inl rfl)) (pgs_cons (pg_name (i := 3) sc_apply_all.nd rfl (Or.inl rfl)) pgs_nil))) (pss_cons (ps_set (i := 4) sc_apply_all.nd rfl (Or.inl rfl) (pe_c Gfault_of hr (by decide) (by rfl) (pa_cons (pv 0) (pa_cons (pv 3) pa_nil)))) (pss_cons (ps_if (pt_cmp (pc_notN (pv 4))) (pss_one ps_never) pss_nil) (pss_cons (ps_set (i := 5) sc_apply_all.nd rfl (Or.inl rfl) (pe_ix ix_kdict (C8.pe_gc (by rfl) gT_CHANGES) (pe_ix ix_tup (pv 3) pe_int (fun _ _ => rfl)) (fun _ _ => rfl))) (pss_one (ps_set (i := 0) sc_apply_all.nd rfl (Or.inl rfl) (pe_callT (i := 5) hr rfl (Or.inl rfl) (pa_cons (pv 0) (pa_cons (pv 3) pa_nil))))))))) (pss_one (ps_ret (pv 0)))), ?_⟩
    refine ⟨_, rfl, la, _, rfl, SqL.of hla, ?_⟩
    refine for_it (walk_enum (K := K) (a := la) (xs := us)) (fun j σ H' => ∃ a' y2 y3 y4 y5, σ = [some (.ref a'), some (.ref la), y2, y3, y4, y5] ∧ Same H H' ∧ TupD H' a' ((os.take j).foldl opD ks) ∧ RunOk ((os.take j).foldl opD ks) (os.drop j)) ⟨a, _, _, _, _, rfl, Same.refl _, ht, ok⟩ (fun j σ H' _ z => by obtain ⟨_, _, _, _, _, _, s', _⟩ := z; exact SqL.of (s' _ _ hla)) ?_ ?_
    · rintro j v σ H2 H3 hj ⟨a', y2, y3, y4, y5, rfl, s2, ht2, ok2⟩ ⟨T0, x, y, rfl, hT, rfl, hy1, hy2⟩
      cases hy1
      obtain ⟨o, ho, hyo⟩ := paired_get hos hy2
      have s3 := Same.trans s2 (Sm.new (o := .tup [V.int (j : Int), y]) hT)
      have ht3 := ht2.same (Sm.new (o := .tup [V.int (j : Int), y]) hT)
      refine ⟨_, _, rfl, SqT.of upd_same, rfl, _, _, rfl, _, _, rfl, rfl, ?_⟩
      generalize upd H2 T0 (.tup [V.int (j : Int), y]) = H3 at s3 ht3 ⊢
      rw [List.drop_eq_getElem_cons (by omega)] at ok2
      have eo : os[j]'(by omega) = o := by
        rw [List.getElem?_eq_getElem (by omega)] at ho
        exact Option.some.inj ho
      rw [eo] at ok2
      have et : (os.take (j + 1)).foldl opD ks = opD ((os.take j).foldl opD ks) o := by
        rw [List.take_add_one, ho, List.foldl_append]
        rfl
      generalize hKS : (os.take j).foldl opD ks = KS at ok2 ht3 et
      obtain ⟨fit, io, nf, rest⟩ := ok2
      refine ⟨_, rfl, _, rfl, .ref a', y, KS, o, rfl, DocA.of ht3 fit.2.1, hyo.same s3, io, (fun p hp => (fit.2.2.2 p hp).2), fun H4 s4 => ?_⟩
      rw [nf]
      refine ⟨_, rfl, false, rfl, iteF ?_⟩
      have s34 := Same.trans s3 s4
      have hyo4 := hyo.same s34
      have hD := DocA.of (ht3.same s4) fit.2.1
      obtain ⟨b, ys, rfl, hat⟩ := hyo4.at
      refine ⟨_, rfl, b, _, _, _, rfl, rfl, SqT.of hat, at_0, ?_⟩
      have fin : ∀ (yy : Option V) ks2 q2 H5, chgR KS o ks2 → Same H4 H5 → TupD H5 q2 ks2 → ∃ a' y2 y3 y4 y5, [some (V.ref q2), some (V.ref la), some (V.int (j : Int)), some (V.ref b), some V.non, yy] = [some (V.ref a'), some (V.ref la), y2, y3, y4, y5] ∧ Same H H5 ∧ TupD H5 a' ((os.take (j + 1)).foldl opD ks) ∧ RunOk ((os.take (j + 1)).foldl opD ks) (os.drop (j + 1)) := by
        intro yy ks2 q2 H5 hc s5 h5
        have e := chg_eq fit.2.2.1 nf hc
        subst e
        refine ⟨q2, _, _, _, _, rfl, Same.trans s34 s5, by rw [et]; exact h5, by rw [et]; exact rest⟩
      cases hyo with
      | rem h1 =>
        refine ⟨aT, _, .ref f1, rfl, rfl, e1, ?_⟩
        exact ⟨"removed", 65, spChg "remove", f1, by decide, ok_rem T, m1, rfl, _, rfl, _, rfl, _, _, _, _, rfl, hD, fit.1, fit.2.1, hyo4, rfl, nf, fit.2.2.2, fin _⟩
      | ins h1 h2 =>
        refine ⟨aT, _, .ref f2, rfl, rfl, e2, ?_⟩
        exact ⟨"inserted", 65, spChg "insert", f2, by decide, ok_ins T, m2, rfl, _, rfl, _, rfl, _, _, _, _, rfl, hD, fit.1, fit.2.1, hyo4, rfl, nf, fit.2.2.2, fin _⟩
      | mov h1 =>
        refine ⟨aT, _, .ref f3, rfl, rfl, e3, ?_⟩
        exact ⟨"moved", 65, spChg "move", f3, by decide, ok_mov T, m3, rfl, _, rfl, _, rfl, _, _, _, _, rfl, hD, fit.1, fit.2.1, hyo4, rfl, nf, fit.2.2.2, fin _⟩
      | txt h1 =>
        refine ⟨aT, _, .ref f4, rfl, rfl, e4, ?_⟩
        exact ⟨"with_text", 65, spChg "text", f4, by decide, ok_txt T, m4, rfl, _, rfl, _, rfl, _, _, _, _, rfl, hD, fit.1, fit.2.1, hyo4, rfl, nf, fit.2.2.2, fin _⟩
      | set h1 =>
        refine ⟨aT, _, .ref f5, rfl, rfl, e5, ?_⟩
        exact ⟨"with_set", 65, spChg "set", f5, by decide, ok_set T, m5, rfl, _, rfl, _, rfl, _, _, _, _, rfl, hD, fit.1, fit.2.1, hyo4, rfl, nf, fit.2.2.2, fin _⟩
      | uns h1 =>
        refine ⟨aT, _, .ref f6, rfl, rfl, e6, ?_⟩
        exact ⟨"with_unset", 65, spChg "unset", f6, by decide, ok_uns T, m6, rfl, _, rfl, _, rfl, _, _, _, _, rfl, hD, fit.1, fit.2.1, hyo4, rfl, nf, fit.2.2.2, fin _⟩
    · rintro σ H2 ⟨a', y2, y3, y4, y5, rfl, s2, ht2, ok2⟩
      rw [List.take_of_length_le (by omega)] at ht2
      exact ⟨_, rfl, q a' H2 s2 ht2⟩
theorem sc_apply_operation : FnScope ["document", "operation"] ["document", "operation"] (defScope s_apply_operation) := ⟨rfl, rfl, rfl, by decide +kernel, rfl, by decide +kernel, by decide +kernel⟩
theorem ok_one (T : Txt K w mg C) : Cal P w K mg base 68 "apply_operation" spOne := by
  have Gapply_all := ok_all (P := P) (base := base) T
  refine cal_of T.d_apply_operation sc_apply_operation (fun vs H Q E h => ?_) (fun f cdv A outer s H vs Q E hr h => ?_)
  · obtain ⟨a, u, ks, o, rfl, _⟩ := h
    rfl
  · obtain ⟨a, u, ks, o, rfl, ht, ho, ok, q⟩ := h
    refine ⟨_, (pss_one (ps_ret (pe_c Gapply_all hr (by decide) (by rfl) (pa_cons (pv 0) (pa_cons (pe_lst (pa_cons (pv 1) pa_nil)) pa_nil))))), ?_⟩
    refine ⟨_, rfl, _, rfl, by show 1 ≤ sizeLine; decide, fun l hl => ?_⟩
    have s1 := Sm.new (o := .lst [u]) hl
    exact ⟨a, l, ks, [o], [u], rfl, ht.same s1, upd_same, .cons (ho.same s1) .nil, by show 1 ≤ 100; decide, ok, fun q2 H2 s2 h2 => q q2 H2 (Same.trans s1 s2) h2⟩
end
end VL

set_option Elab.async false
set_option linter.all false
set_option pp.maxSteps 900
set_option maxRecDepth 100000
set_option maxHeartbeats 4000000
namespace VL
open PySem PySem.Spec PyProof.Rows L2 S2S
/-- a list of nodes -/
def LstD (H : Hp) (p : Addr) (kk : List Dn) : Prop := ∃ xs, H p = some (.lst xs) ∧ NdAs H xs kk
theorem LstD.same {H H' : Hp} {p : Addr} {kk : List Dn} (h : LstD H p kk) (s : Same H H') : LstD H' p kk := by
  obtain ⟨xs, h1, h2⟩ := h
  exact ⟨xs, s _ _ h1, h2.same s⟩
def spLPut : Sp := fun vs H Q _ => ∃ (a : Addr) (u : V) (kk : List Dn) (d : Dn) (ah : Option Int) (G : Hp) (M : List (Addr × HO)), vs = [.ref a, u, intV ah] ∧ Sb G H M ∧ LstD G a kk ∧ NdA G u d ∧ isPl kk ah = true ∧ kk.length ≤ 1000 ∧ ∀ p G' H', Sb G' H' M → Same G G' → LstD G' p (putL kk d ah) → Q (.ref p) H'
section
variable {P : Program} {w : World} {K : PySem.W.Frag} {mg : Str → Option Value} {base : Heap} {C : Ad}
theorem sc__law_put : FnScope ["kids", "node", "ahead", "place", "kid"] ["kids", "node", "ahead"] (defScope s__law_put) := ⟨rfl, rfl, rfl, by decide +kernel, rfl, by decide +kernel, by decide +kernel⟩
theorem ok_lput (T : Txt K w mg C) : Cal P w K mg base 1 "_law_put" spLPut := by
  refine cal_of T.d__law_put sc__law_put (fun vs H Q E h => ?_) (fun f cdv A outer s H vs Q E hr h => ?_)
  · obtain ⟨a, u, kk, d, ah, G, M, rfl, _⟩ := h
    rfl
  · obtain ⟨a, u, kk, d, ah, G, M, rfl, S, ⟨xs, h1, h2⟩, hd, hp, hl, q⟩ := h
    have xl := h2.len
    refine ⟨_, (pss_cons (ps_if (pt_cmp (pc_isN (pv 2))) (pss_one (ps_ret (pe_op op_cat (pv 0) (pe_lst (pa_cons (pv 1) pa_nil))))) pss_nil) (pss_cons (ps_set (i := 3) sc__law_put.nd rfl (Or.inl rfl) (pe_bm PySem.F.plainAttrs_list PySem.F.slot_list_index PySem.F.type_list_index mt_index (pe_lc (own := [("kid", 4)]) (g := gName 4) (tt := tYes) rfl sc__law_put.nd (pi_list (pv 0)) (blkOk_by (N := ["kids", "node", "ahead", "place", "kid"]) (sc := (defScope s__law_put)) (by decide +kernel)) (fun _ _ _ _ _ => pg_name (i := 4) sc__law_put.nd rfl (Or.inl rfl)) (fun _ _ _ _ _ => pts_nil) (fun _ _ _ _ _ => (pe_ix (ix_tupS (K := K) rfl) (pv 4) pe_int (fun _ _ => rfl)))) (pa_cons (pv 2) pa_nil))) (pss_one (ps_ret (pe_op op_cat (pe_op op_cat (pe_slice sl_list (pv 0) po_none (po_some (pv 3))) (pe_lst (pa_cons (pv 1) pa_nil))) (pe_slice sl_list (pv 0) (po_some (pv 3)) po_none)))))), ?_⟩
    cases ah with
    | none =>
      refine ⟨_, rfl, true, rfl, iteT ?_⟩
      refine ⟨_, rfl, _, rfl, by show 1 ≤ sizeLine; decide, fun l hl' => ?_⟩
      have S1 := S.alloc (o := .lst [u]) hl'
      have g1 := S.grow (o := .lst [u]) hl'
      refine ⟨a, l, _, _, rfl, rfl, S1.s _ _ (g1 _ _ h1), upd_same, ?_, fun c hc => ?_⟩
      · show xs.length + 1 ≤ _
        exact Nat.le_trans (show xs.length + 1 ≤ 2000 by omega) (by decide)
      · have g2 := Same.trans g1 (S1.grow (o := .lst (xs ++ [u])) hc)
        exact q c _ _ (S1.alloc hc) g2 ⟨xs ++ [u], upd_same, (h2.same g2).app (.cons (hd.same g2) .nil)⟩
    | some m =>
      refine ⟨_, rfl, false, rfl, iteF ?_⟩
      obtain ⟨i, hi⟩ := plc_of hp
      have hi : placeD kk m = some i := hi
      refine ⟨_, rfl, a, rfl, ⟨_, SqL.of (S.s _ _ h1)⟩, fun D hD => ?_⟩
      refine lc_it (walk_list (K := K) (a := a) (xs := xs)) (fun j H' => Sb G H' ((D, .lst ((kk.take j).map fun d => V.int d.num)) :: M)) (S.add (o := .lst []) hD) (fun j H' _ z => SqL.of (z.s _ _ h1)) ?_ ?_
      · rintro j x H2 H3 hj S2 ⟨rfl, hx⟩
        obtain ⟨d', hd', hxd⟩ := h2.get' hx
        obtain ⟨b, ys, rfl, hb⟩ := hxd.at
        refine ⟨rfl, _, rfl, b, _, _, _, rfl, rfl, SqT.of (S2.s _ _ hb), at_1, _, S2.hd, ?_, ?_⟩
        · rw [List.length_map, List.length_take]
          exact Nat.lt_of_le_of_lt (show min j kk.length ≤ 1000 by omega) (by decide)
        · refine S2.put.eqo ?_
          rw [List.take_add_one, hd', List.map_append]
          rfl
      · rintro H2 S2
        rw [List.take_of_length_le (by omega)] at S2
        have h3 := S2.hd
        obtain ⟨mm, hm, hmn⟩ := place_lt hi
        have no : ∀ (j : Nat) (e : Dn), j < i → kk[j]? = some e → e.num ≠ m := by
          intro j e hj he
          unfold placeD at hi
          rw [List.findIdx?_eq_some_iff_getElem] at hi
          obtain ⟨_, _, h5⟩ := hi
          have := h5 j hj
          rw [List.getElem?_eq_getElem (by have := (List.getElem?_eq_some_iff.mp he).1; omega)] at he
          rw [Option.some.inj he] at this
          simpa using this
        have fl : ((kk.map fun d => V.int d.num)).all flatV = true := by
          have := flat_ints (kk.map Dn.num)
          rw [List.map_map] at this
          exact this
        refine ⟨.inl ⟨rfl, _, SqL.of h3⟩, _, rfl, D, _, .int m, i, .int m, rfl, rfl, SqL.of h3, rfl, fl, ?_, by simp [eqV], fun j z hj hz => ?_, ?_⟩
        · rw [List.getElem?_map, hm]
          exact congrArg (fun x => some (V.int x)) hmn
        · rw [List.getElem?_map] at hz
          obtain ⟨e, he, rfl⟩ := Option.map_eq_some_iff.mp hz
          have := no j e hj he
          simp [eqV, this]
        obtain ⟨S3, g3⟩ := S2.drop
        have e2 : putL kk d (some m) = putD kk d i := putL_eq hi
        rw [e2] at q
        unfold putD at q
        refine ⟨_, rfl, _, rfl, _, rfl, a, xs, rfl, SqL.of (S3.s _ _ (g3 _ _ h1)), fun p1 hp1 => ?_⟩
        rw [cut_take]
        have S4 := S3.alloc (o := .lst (xs.take i)) hp1
        have g4 := S3.grow (o := .lst (xs.take i)) hp1
        refine ⟨_, rfl, by show 1 ≤ sizeLine; decide, fun p2 hp2 => ?_⟩
        have S5 := S4.alloc (o := .lst [u]) hp2
        have g5 := S4.grow (o := .lst [u]) hp2
        refine ⟨p1, p2, _, _, rfl, rfl, S5.s _ _ (g5 _ _ upd_same), upd_same, ?_, fun p3 hp3 => ?_⟩
        · rw [List.length_take]
          exact Nat.le_trans (show min i xs.length + 1 ≤ 2000 by omega) (by decide)
        have S6 := S5.alloc (o := .lst (xs.take i ++ [u])) hp3
        have g6 := S5.grow (o := .lst (xs.take i ++ [u])) hp3
        have g36 := Same.trans g3 (Same.trans g4 (Same.trans g5 g6))
        refine ⟨_, rfl, _, rfl, _, rfl, a, xs, rfl, SqL.of (S6.s _ _ (g36 _ _ h1)), fun p4 hp4 => ?_⟩
        rw [cut_drop']
        have S7 := S6.alloc (o := .lst (xs.drop i)) hp4
        have g7 := S6.grow (o := .lst (xs.drop i)) hp4
        refine ⟨p3, p4, _, _, rfl, rfl, S7.s _ _ (g7 _ _ upd_same), upd_same, ?_, fun p5 hp5 => ?_⟩
        · rw [List.length_append, List.length_take, List.length_drop]
          exact Nat.le_trans (show min i xs.length + 1 + (xs.length - i) ≤ 2000 by omega) (by decide)
        have g8 := Same.trans g36 (Same.trans g7 (S7.grow (o := .lst (xs.take i ++ [u] ++ xs.drop i)) hp5))
        exact q p5 _ _ (S7.alloc hp5) g8 ⟨_, upd_same, (((h2.same g8).take i).app (.cons (hd.same g8) .nil)).app ((h2.same g8).drop' i)⟩
end
end VL

set_option Elab.async false
set_option linter.all false
set_option pp.maxSteps 900
set_option maxRecDepth 100000
set_option maxHeartbeats 4000000
namespace VL
open PySem PySem.Spec PyProof.Rows L2 S2S
def okFin (o : OpD) (own : Int) (nodes : List Dn) : Prop := own = targD o → match o with
  | .ins _ _ ah => isPl nodes ah = true
  | .mov _ n ah => (placeD nodes n).isSome = true ∧ isPl (nodes.filter fun d => decide (d.num ≠ n)) ah = true
  | _ => True
mutual
def OkN (o : OpD) : Dn → Prop
  | .tx _ _ => True
  | .el n _ as ks => (∀ m x, o = .txt m x → n ≠ m) ∧ as.length ≤ 100 ∧ okFin o n (lsS o ks) ∧ OkS o ks
def OkS (o : OpD) : List Dn → Prop
  | [] => True
  | d :: r => OkN o d ∧ OkS o r
end
theorem OkS_mem {o : OpD} : ∀ {ks : List Dn} {d : Dn}, OkS o ks → d ∈ ks → OkN o d
  | e :: r, d, h, hd => by
    simp only [OkS] at h
    rcases List.mem_cons.mp hd with rfl | hd
    · exact h.1
    · exact OkS_mem h.2 hd
theorem lsS_map (o : OpD) : ∀ ks : List Dn, lsS o ks = ks.map (lsN o)
  | [] => by simp only [lsS, List.map_nil]
  | d :: r => by simp only [lsS, List.map_cons, lsS_map o r]
def spLs (N : Nat) : Sp := fun vs H Q _ => ∃ (a oa : Addr) (own : Int) (ks : List Dn) (o : OpD) (G : Hp) (M : List (Addr × HO)), vs = [.ref a, .ref oa, .int own] ∧ Sb G H M ∧ TupD G a ks ∧ OpA G (.ref oa) o ∧ hS ks ≤ N ∧ (numS ks).length ≤ 900 ∧ okFin o own (lsS o ks) ∧ OkS o ks ∧ ∀ p G' H', Sb G' H' M → Same G G' → LstD G' p (finD o own (lsS o ks)) → Q (.ref p) H'
theorem OpA.at2 {H : Hp} {a : Addr} {o : OpD} (h : OpA H (.ref a) o) : ∃ xs, H a = some (.tup (.str (wordD o) :: .int (targD o) :: xs)) := by
  cases h with
  | rem h => exact ⟨_, h⟩
  | ins h _ => exact ⟨_, h⟩
  | mov h => exact ⟨_, h⟩
  | txt h => exact ⟨_, h⟩
  | set h => exact ⟨_, h⟩
  | uns h => exact ⟨_, h⟩
theorem ifS_and {t u : TT} {A B : TS} {D : Ends} {σ : L2.St} {H : Hp} {b1 b2 : Bool} (h1 : ∀ K : Bool → Hp → Prop, K b1 H → t σ H K) (h2 : b1 = true → ∀ K : Bool → Hp → Prop, K b2 H → u σ H K) (hb : if (b1 && b2) = true then A D σ H else B D σ H) : tIfS (tAnd t u) A B D σ H := by
  refine h1 _ ?_
  cases b1 with
  | true => exact h2 rfl _ hb
  | false => exact hb
def keyH (H : Hp) : V → Pss
  | .ref t => (match H t with
    | some (.tup [.str a, .str b]) => (a, b)
    | _ => (⟨#[]⟩, ⟨#[]⟩))
  | _ => (⟨#[]⟩, ⟨#[]⟩)
theorem keyH_at {H : Hp} {t : Addr} {x : Pss} (h : H t = some (.tup [.str x.1, .str x.2])) : keyH H (.ref t) = x := by
  simp only [keyH, h]
abbrev PrA (H : Hp) : List Addr → List Pss → Prop := Paired fun p (x : Str × Str) => H p = some (.tup [.str x.1, .str x.2])
theorem PrA.keys {H : Hp} {ps : List Addr} {as : List Pss} (h : PrA H ps as) : (ps.map V.ref).map (keyH H) = as := by
  induction h with
  | nil => rfl
  | cons a b ih => rw [List.map_cons, List.map_cons, ih, keyH_at a]
theorem PrA.mem {H : Hp} {ps : List Addr} {as : List Pss} (h : PrA H ps as) : ∀ {v : V}, v ∈ ps.map V.ref → ∃ t, v = .ref t ∧ H t = some (.tup [.str (keyH H v).1, .str (keyH H v).2]) := by
  induction h with
  | nil => intro v hv; simp at hv
  | cons a b ih =>
    intro v hv
    rw [List.map_cons, List.mem_cons] at hv
    rcases hv with rfl | hv
    · exact ⟨_, rfl, by rw [keyH_at a]; exact a⟩
    · exact ih hv
theorem PrA.both {G H : Hp} {ps : List Addr} {as : List Pss} (h : PrA H ps as) : PrA G ps as → ∀ t ∈ ps, G t = some (.tup [.str (keyH H (.ref t)).1, .str (keyH H (.ref t)).2]) := by
  induction h with
  | nil => intro _ t ht; simp at ht
  | cons a b ih =>
    intro g t ht
    cases g with
    | cons g1 g2 =>
      rcases List.mem_cons.mp ht with rfl | ht
      · rw [keyH_at a]
        exact g1
      · exact ih g2 t ht
/-- sorted of a list of pairs -/
theorem srt_pairs {K : PySem.W.Frag} {H : Hp} {la : Addr} {ps : List Addr} {as : List Pss} {Q : VK} (hl : SqL K H la (ps.map V.ref)) (hp : PrA H ps as)
    (q : ∀ (p : Addr) (ps2 : List Addr), H p = none → (∀ G, PrA G ps as → PrA G ps2 (srtP as)) → ps2.length = ps.length → Q (.ref p) (upd H p (.lst (ps2.map V.ref)))) : rSortedSS K [.ref la] H Q := by
  refine ⟨la, _, keyH H, rfl, hl, fun x hx => hp.mem hx, fun ys p srt perm h0 => ?_⟩
  have e : ys.map (keyH H) = srtP as := by
    refine srtP_of ?_ (List.pairwise_map.mpr srt)
    have := perm.map (keyH H)
    rw [hp.keys] at this
    exact this
  have : ∃ ps2 : List Addr, ys = ps2.map V.ref := by
    have all : ∀ v ∈ ys, ∃ t, v = V.ref t := fun v hv => by
      obtain ⟨t, _, e⟩ := List.mem_map.mp (perm.mem_iff.mp hv)
      exact ⟨t, e.symm⟩
    clear srt perm e
    induction ys with
    | nil => exact ⟨[], rfl⟩
    | cons v ys ih =>
      obtain ⟨t, e⟩ := all v List.mem_cons_self
      obtain ⟨ps2, e2⟩ := ih fun u hu => all u (List.mem_cons_of_mem _ hu)
      exact ⟨t :: ps2, by rw [e, e2]; rfl⟩
  obtain ⟨ps2, e2⟩ := this
  have hlen := perm.length_eq
  rw [e2, List.length_map, List.length_map] at hlen
  have := q p ps2 h0 (fun G g => ?_) hlen
  · rw [← e2] at this
    exact this
  · have mem : ∀ t ∈ ps2, G t = some (.tup [.str (keyH H (.ref t)).1, .str (keyH H (.ref t)).2]) := fun t ht => by
      refine hp.both g t ?_
      have : V.ref t ∈ ps.map V.ref := perm.mem_iff.mp (by rw [e2]; exact List.mem_map.mpr ⟨t, ht, rfl⟩)
      obtain ⟨t', h1, h2⟩ := List.mem_map.mp this
      cases h2
      exact h1
    rw [← e, e2, List.map_map]
    clear e e2 hlen perm srt
    induction ps2 with
    | nil => exact .nil
    | cons t ps2 ih => exact .cons (mem t List.mem_cons_self) (ih fun u hu => mem u (List.mem_cons_of_mem _ hu))
theorem PrA.same {H H' : Hp} {ps : List Addr} {as : List Pss} (h : PrA H ps as) (s : Same H H') : PrA H' ps as := Paired.mono (fun _ _ z => s _ _ z) h
section
variable {P : Program} {w : World} {K : PySem.W.Frag} {mg : Str → Option Value} {base : Heap} {C : Ad}
theorem sc__law_list_of : FnScope ["document", "operation", "own", "nodes", "node", "attributes", "kids", "left", "pair"] ["document", "operation", "own"] (defScope s__law_list_of) := ⟨rfl, rfl, rfl, by decide +kernel, rfl, by decide +kernel, by decide +kernel⟩
theorem ll_0 (T : Txt K w mg C) {k : Nat} : Cal P w K mg base (k + 1) "_law_list_of" spFalse := cal_of T.d__law_list_of sc__law_list_of (fun vs H Q E h => h.elim) (fun f cdv A outer s H vs Q E hr h => h.elim)
theorem ll_S (T : Txt K w mg C) {N : Nat} {sp : Sp} (hsp : ∀ m, m + 1 = N → sp = spLs m) (G_law_list_of : Cal P w K mg base (N + 1) "_law_list_of" sp) : Cal P w K mg base (N + 2) "_law_list_of" (spLs N) := by
  have G_law_put := ok_lput (P := P) (base := base) T
  refine cal_of T.d__law_list_of sc__law_list_of (fun vs H Q E h => ?_) (fun f cdv A outer s H vs Q E hr h => ?_)
  · obtain ⟨a, oa, own, ks, o, G, M, rfl, _⟩ := h
    rfl
  · obtain ⟨a, oa, own, ks, o, G, M, rfl, S, ⟨zs, hza, hzn⟩, ho, hN, hl, okf, oks, q⟩ := h
    have zl := hzn.len
    have kl := len_num ks
    have big : 100000 < sizeLine := by decide
    refine ⟨_, (pss_cons (ps_set (i := 3) sc__law_list_of.nd rfl (Or.inl rfl) (pe_lst pa_nil)) (pss_cons (ps_for PassesOwn.never rfl (pi_tup (pv 0)) (pg_name (i := 4) sc__law_list_of.nd rfl (Or.inl rfl)) (pss_one (ps_if (PW.pt (pw_and (pt_cmpR op_eq (pe_ix ix_tup (pv 4) pe_int (fun _ _ => rfl)) (pe_ix ix_tup (pv 1) pe_int (fun _ _ => rfl)) (nomark _)) (pw_and1 (pt_cmpR op_eq (pe_ix ix_tup (pv 1) pe_int (fun _ _ => rfl)) pe_str (nomark _))))) (pss_one (ps_expr (pe_bm PySem.F.plainAttrs_list PySem.F.slot_list_append PySem.F.type_list_append mt_append (pv 3) (pa_cons (pe_tup (pa_cons pe_str (pa_cons (pe_ix ix_tup (pv 4) pe_int (fun _ _ => rfl)) (pa_cons (pe_ix ix_tup (pv 1) pe_int (fun _ _ => rfl)) pa_nil)))) pa_nil)))) (pss_one (ps_if (pt_cmpR op_eq (pe_ix ix_tup (pv 4) pe_int (fun _ _ => rfl)) pe_str (nomark _)) (pss_one (ps_expr (pe_bm PySem.F.plainAttrs_list PySem.F.slot_list_append PySem.F.type_list_append mt_append (pv 3) (pa_cons (pv 4) pa_nil)))) (pss_cons (ps_setLc (i := 5) (own := [("pair", 8)]) (g := gName 8) (tt := tYes) rfl sc__law_list_of.nd rfl rfl (sw_true rfl rfl rfl (by decide +kernel)) (pi_tup (pe_ix ix_tup (pv 4) pe_int (fun _ _ => rfl))) (blkOk_by (N := ["document", "operation", "own", "nodes", "node", "attributes", "kids", "left", "pair"]) (sc := (defScope s__law_list_of)) (by decide +kernel)) (fun _ _ _ _ _ => pg_name (i := 8) sc__law_list_of.nd rfl (Or.inl rfl)) (fun _ _ _ _ _ => pts_nil) (fun _ _ _ _ _ => (pv 8))) (C8.pss_cut (ps_if (PW.pt (pw_and (pt_cmpR op_eq (pe_ix ix_tup (pv 4) pe_int (fun _ _ => rfl)) (pe_ix ix_tup (pv 1) pe_int (fun _ _ => rfl)) (nomark _)) (pw_and1 (pt_cmpR op_in_seq (pe_ix ix_tup (pv 1) pe_int (fun _ _ => rfl)) (pe_tup (pa_cons pe_str (pa_cons pe_str pa_nil))) rfl)))) (pss_cons (ps_setLc (i := 5) (own := [("pair", 8)]) (g := gName 8) (tt := _) rfl sc__law_list_of.nd rfl rfl (sw_true rfl rfl rfl (by decide +kernel)) (pi_list (pv 5)) (blkOk_by (N := ["document", "operation", "own", "nodes", "node", "attributes", "kids", "left", "pair"]) (sc := (defScope s__law_list_of)) (by decide +kernel)) (fun _ _ _ _ _ => pg_name (i := 8) sc__law_list_of.nd rfl (Or.inl rfl)) (fun _ _ _ _ _ => pts_one (pt_cmpR op_ne (pe_ix (ix_tupS (K := K) rfl) (pv 8) pe_int (fun _ _ => rfl)) (pe_ix (ix_tupS (K := K) rfl) (pv 1) pe_int (fun _ _ => rfl)) (nomark _))) (fun _ _ _ _ _ => (pv 8))) (pss_one (ps_if (pt_cmpR op_eq (pe_ix ix_tup (pv 1) pe_int (fun _ _ => rfl)) pe_str (nomark _)) (pss_one (ps_expr (pe_bm PySem.F.plainAttrs_list PySem.F.slot_list_append PySem.F.type_list_append mt_append (pv 5) (pa_cons (pe_tup (pa_cons (pe_ix ix_tup (pv 1) pe_int (fun _ _ => rfl)) (pa_cons (pe_ix ix_tup (pv 1) pe_int (fun _ _ => rfl)) pa_nil))) pa_nil)))) pss_nil))) pss_nil) (pss_cons (ps_set (i := 6) sc__law_list_of.nd rfl (Or.inl rfl) (pe_c G_law_list_of hr (by omega) (by rfl) (pa_cons (pe_ix ix_tup (pv 4) pe_int (fun _ _ => rfl)) (pa_cons (pv 1) (pa_cons (pe_ix ix_tup (pv 4) pe_int (fun _ _ => rfl)) pa_nil))))) (pss_one (ps_expr (pe_bm PySem.F.plainAttrs_list PySem.F.slot_list_append PySem.F.type_list_append mt_append (pv 3) (pa_cons (pe_tup (pa_cons pe_str (pa_cons (pe_ix ix_tup (pv 4) pe_int (fun _ _ => rfl)) (pa_cons (pe_ix ix_tup (pv 4) pe_int (fun _ _ => rfl)) (pa_cons (pe_callTy call_tupleF (by rfl) T.z_tuple (by decide +kernel) (pa_cons (pe_callB cr_sortedSS (by rfl) T.z_sorted (by decide +kernel) (pa_cons (pv 5) pa_nil)) pa_nil)) (pa_cons (pe_callTy call_tuple_of (by rfl) T.z_tuple (by decide +kernel) (pa_cons (pv 6) pa_nil)) pa_nil)))))) pa_nil)))))))))))) (pss_cons (ps_if (PW.pt (pw_or (pt_cmpR op_ne (pv 2) (pe_ix ix_tup (pv 1) pe_int (fun _ _ => rfl)) (nomark _)) (pw_or1 (pt_cmpR op_in_seq (pe_ix ix_tup (pv 1) pe_int (fun _ _ => rfl)) (pe_tup (pa_cons pe_str (pa_cons pe_str (pa_cons pe_str pa_nil)))) rfl)))) (pss_one (ps_ret (pv 3))) pss_nil) (pss_cons (ps_if (pt_cmpR op_eq (pe_ix ix_tup (pv 1) pe_int (fun _ _ => rfl)) pe_str (nomark _)) (pss_one (ps_ret (pe_c G_law_put hr (by omega) (by rfl) (pa_cons (pv 3) (pa_cons (pe_ix ix_tup (pv 1) pe_int (fun _ _ => rfl)) (pa_cons (pe_ix ix_tup (pv 1) pe_int (fun _ _ => rfl)) pa_nil)))))) pss_nil) (pss_cons (ps_setLc (i := 7) (own := [("node", 4)]) (g := gName 4) (tt := _) rfl sc__law_list_of.nd rfl rfl (sw_true rfl rfl rfl (by decide +kernel)) (pi_list (pv 3)) (blkOk_by (N := ["document", "operation", "own", "nodes", "node", "attributes", "kids", "left", "pair"]) (sc := (defScope s__law_list_of)) (by decide +kernel)) (fun _ _ _ _ _ => pg_name (i := 4) sc__law_list_of.nd rfl (Or.inl rfl)) (fun _ _ _ _ _ => pts_one (pt_cmpR op_ne (pe_ix (ix_tupS (K := K) rfl) (pv 4) pe_int (fun _ _ => rfl)) (pe_ix (ix_tupS (K := K) rfl) (pv 1) pe_int (fun _ _ => rfl)) (nomark _))) (fun _ _ _ _ _ => (pv 4))) (pss_cons (ps_if (pt_cmpR op_eq (pe_ix ix_tup (pv 1) pe_int (fun _ _ => rfl)) pe_str (nomark _)) (pss_one (ps_ret (pv 7))) pss_nil) (pss_one (ps_ret (pe_c G_law_put hr (by omega) (by rfl) (pa_cons (pv 7) (pa_cons (pe_ix ix_list (pe_lc (own := [("node", 4)]) (g := gName 4) (tt := _) rfl sc__law_list_of.nd (pi_list (pv 3)) (blkOk_by (N := ["document", "operation", "own", "nodes", "node", "attributes", "kids", "left", "pair"]) (sc := (defScope s__law_list_of)) (by decide +kernel)) (fun _ _ _ _ _ => pg_name (i := 4) sc__law_list_of.nd rfl (Or.inl rfl)) (fun _ _ _ _ _ => pts_one (pt_cmpR op_eq (pe_ix (ix_tupS (K := K) rfl) (pv 4) pe_int (fun _ _ => rfl)) (pe_ix (ix_tupS (K := K) rfl) (pv 1) pe_int (fun _ _ => rfl)) (nomark _))) (fun _ _ _ _ _ => (pv 4))) pe_int (fun _ _ => rfl)) (pa_cons (pe_ix ix_tup (pv 1) pe_int (fun _ _ => rfl)) pa_nil)))))))))))), ?_⟩
    refine ⟨by show 0 ≤ sizeLine; decide, fun p hp => ?_⟩
    have S1 := S.add (o := .lst []) hp
    obtain ⟨ws, hoa⟩ := ho.at2
    refine ⟨_, rfl, a, rfl, ⟨_, SqT.of (S1.s _ _ hza)⟩, ?_⟩
    refine for_it (walk_tup (K := K) (a := a) (xs := zs)) (fun j σ H' => ∃ (xs : List V) (G' : Hp) (y4 y5 y6 y7 y8 : Option V), Sb G' H' ((p, .lst xs) :: M) ∧ Same G G' ∧ NdAs G' xs ((lsS o ks).take j) ∧
      σ = [some (.ref a), some (.ref oa), some (.int own), some (.ref p), y4, y5, y6, y7, y8]) ⟨[], G, _, _, _, _, _, S1, Same.refl _, by rw [List.take_zero]; exact .nil, rfl⟩ (fun j σ H' _ z => by obtain ⟨_, _, _, _, _, _, _, S', g', _⟩ := z; exact SqT.of (S'.s _ _ (g' _ _ hza))) ?_ ?_
    · rintro j x σ H3 H4 hj ⟨xs, G', y4, y5, y6, y7, y8, S3, g3, hxs, rfl⟩ ⟨rfl, hx⟩
      obtain ⟨d, hd, hxd⟩ := hzn.get' hx
      have hxd3 := hxd.same g3
      obtain ⟨b, ys, rfl, hb⟩ := hxd3.at
      have dm := List.mem_of_getElem? hd
      have okd := OkS_mem oks dm
      have hoa3 := S3.s _ _ (g3 _ _ hoa)
      have hb3 := S3.s _ _ hb
      have xl := hxs.len
      rw [List.length_take] at xl
      have et : (lsS o ks).take (j + 1) = (lsS o ks).take j ++ [lsN o d] := by
        rw [lsS_map, List.take_add_one, List.getElem?_map, hd]
        rfl
      show tIfS _ _ _ _ _ _
      refine ifS_and (b1 := decide (V.int d.num = V.int (targD o))) (b2 := decide (V.str (wordD o) = V.str "text")) (fun Kk k => ⟨_, rfl, b, _, _, _, rfl, rfl, SqT.of hb3, at_1, _, rfl, oa, _, _, _, rfl, rfl, SqT.of hoa3, at_1, rfl, _, rfl, k⟩) (fun _ Kk k => ⟨_, rfl, oa, _, _, _, rfl, rfl, SqT.of hoa3, at_0, rfl, _, rfl, k⟩) ?_
      refine ite2 (fun c => ?_) (fun c => ?_)
      · rw [Bool.and_eq_true] at c
        have c1 : d.num = targD o := V.int.inj (of_decide_eq_true c.1)
        have c2 : wordD o = "text" := V.str.inj (of_decide_eq_true c.2)
        cases ho with
        | rem h => exact absurd (show ("remove" : Str) = "text" from c2) (by decide)
        | ins h _ => exact absurd (show ("insert" : Str) = "text" from c2) (by decide)
        | mov h => exact absurd (show ("move" : Str) = "text" from c2) (by decide)
        | set h => exact absurd (show ("set" : Str) = "text" from c2) (by decide)
        | uns h => exact absurd (show ("unset" : Str) = "text" from c2) (by decide)
        | @txt _ m x2 h =>
          cases d with
          | el n t as kks =>
            simp only [OkN] at okd
            exact absurd c1 (okd.1 m x2 rfl)
          | tx n y =>
            have c1 : n = m := c1
            refine ⟨_, rfl, .inl ⟨rfl, _, SqL.of S3.hd⟩, _, rfl, b, _, _, _, rfl, rfl, SqT.of hb3, at_1, _, rfl, oa, _, _, _, rfl, rfl, SqT.of (S3.s _ _ (g3 _ _ h)), at_2, by show 3 ≤ sizeLine; decide, fun t ht => ?_⟩
            have S4 := S3.alloc (o := .tup [.str "text", .int n, .str x2]) ht
            have g4 := S3.grow (o := .tup [.str "text", .int n, .str x2]) ht
            refine ⟨p, xs, .ref t, rfl, rfl, S4.hd, by omega, xs ++ [.ref t], _, _, _, _, _, _, S4.put, Same.trans g3 g4, ?_, rfl⟩
            rw [et]
            have e1 : lsN (.txt m x2) (.tx n y) = .tx n x2 := by simp only [lsN, txtL, c1, if_true]
            rw [e1]
            exact (hxs.same g4).app (.cons (.tx upd_same) .nil)
      · cases hxd3 with
        | @tx _ n y h1 =>
          refine ⟨_, rfl, b, _, _, _, rfl, rfl, SqT.of hb3, at_0, rfl, _, rfl, ite2 (fun _ => ?_) (fun c3 => absurd (show decide (V.str "text" = V.str "text") = true from by decide) c3)⟩
          refine ⟨_, rfl, .inl ⟨rfl, _, SqL.of S3.hd⟩, _, rfl, p, xs, .ref b, rfl, rfl, S3.hd, by omega, xs ++ [.ref b], _, _, _, _, _, _, S3.put, g3, ?_, rfl⟩
          rw [et]
          have e1 : lsN o (.tx n y) = .tx n y := by
            simp only [lsN]
            refine congrArg (Dn.tx n) ?_
            cases o with
            | txt m x2 =>
              refine if_neg fun z => c ?_
              rw [Bool.and_eq_true]
              exact ⟨decide_eq_true (by rw [show (Dn.tx n y).num = n from rfl, z]; rfl), decide_eq_true rfl⟩
            | rem _ _ => rfl
            | ins _ _ _ => rfl
            | mov _ _ _ => rfl
            | set _ _ _ => rfl
            | uns _ _ => rfl
          rw [e1]
          exact hxs.app (.cons (.tx h1) .nil)
        | @el _ pk n t va as vs kks h1 hA hk hs =>
          simp only [OkN] at okd
          obtain ⟨ok1, ok2, ok3, ok4⟩ := okd
          obtain ⟨at_, fo, ps, rfl, ha1, ha2, ha3⟩ := hA
          have pl := Paired.length ha3
          have hb3' := S3.s _ _ h1
          refine ⟨_, rfl, b, _, _, _, rfl, rfl, SqT.of hb3', at_0, rfl, _, rfl, ite2 (fun c3 => absurd c3 (by decide)) (fun _ => ?_)⟩
          refine ⟨_, rfl, b, _, _, _, rfl, rfl, SqT.of hb3', rfl, at_, rfl, ⟨_, .inl (.inr ⟨fo, S3.s _ _ ha1⟩)⟩, fun D hD => ?_⟩
          refine lc_it (walk_tup (K := K) (a := at_) (xs := ps.map V.ref)) (fun j H' => Sb G' H' ((D, .lst ((ps.take j).map V.ref)) :: (p, .lst xs) :: M)) (S3.add (o := .lst []) hD) (fun j H' _ z => .inl (.inr ⟨fo, z.s _ _ ha1⟩)) ?_ ?_
          · rintro j x H4 H5 hj S4 ⟨rfl, hx⟩
            rw [List.getElem?_map] at hx
            obtain ⟨pp, hpp, rfl⟩ := Option.map_eq_some_iff.mp hx
            refine ⟨rfl, _, rfl, _, S4.hd, ?_, ?_⟩
            · rw [List.length_map, List.length_take]
              exact Nat.lt_of_le_of_lt (show min j ps.length ≤ 100 by omega) (by decide)
            · refine S4.put.eqo ?_
              rw [List.take_add_one, hpp, List.map_append]
              rfl
          rintro H4 S4
          rw [List.take_of_length_le (by rw [List.length_map]; exact Nat.le_refl _)] at S4
          refine ⟨fun σ' H' => ∃ (q5 : Addr) (ps2 : List Addr) (G2 : Hp), Sb G2 H' ((q5, .lst (ps2.map V.ref)) :: (p, .lst xs) :: M) ∧ Same G' G2 ∧ PrA G2 ps2 (attL o n as) ∧ σ' = [some (.ref a), some (.ref oa), some (.int own), some (.ref p), some (.ref b), some (.ref q5), y6, y7, y8], ?_, ?_⟩
          · have hb4 := S4.s _ _ h1
            have hoa4 := S4.s _ _ (g3 _ _ hoa)
            refine ⟨_, rfl, b, _, _, _, rfl, rfl, SqT.of hb4, at_1, _, rfl, oa, _, _, _, rfl, rfl, SqT.of hoa4, at_1, rfl, _, rfl, ite2 (fun c1 => ?_) (fun c1 => ?_)⟩
            · have hn : n = targD o := V.int.inj (of_decide_eq_true c1)
              refine ⟨_, rfl, oa, _, _, _, rfl, rfl, SqT.of hoa4, at_0, by show 2 ≤ sizeLine; decide, fun t2 ht2 => ⟨t2, _, rfl, .inr (SqT.of upd_same), rfl, rfl, _, rfl, ite2 (fun c2 => ?_) (fun c2 => ?_)⟩⟩
              · obtain ⟨k, ws2, hk⟩ : ∃ k ws2, G oa = some (.tup (.str (wordD o) :: .int (targD o) :: .str k :: ws2)) := by
                  cases ho with
                  | rem h => exact absurd c2 (show ¬ inV (.str ("remove" : Str)) [V.str "set", .str "unset"] = true by decide +kernel)
                  | ins h _ => exact absurd c2 (show ¬ inV (.str ("insert" : Str)) [V.str "set", .str "unset"] = true by decide +kernel)
                  | mov h => exact absurd c2 (show ¬ inV (.str ("move" : Str)) [V.str "set", .str "unset"] = true by decide +kernel)
                  | txt h => exact absurd c2 (show ¬ inV (.str ("text" : Str)) [V.str "set", .str "unset"] = true by decide +kernel)
                  | set h => exact ⟨_, _, h⟩
                  | uns h => exact ⟨_, _, h⟩
                have S6 := S4.alloc (o := .tup [V.str "set", .str "unset"]) ht2
                have g6 := S4.grow (o := .tup [V.str "set", .str "unset"]) ht2
                show tSeq _ _ _ _ (upd H4 t2 (.tup [V.str "set", .str "unset"]))
                generalize upd H4 t2 (.tup [V.str "set", .str "unset"]) = H6 at S6 ⊢
                generalize upd G' t2 (.tup [V.str "set", .str "unset"]) = G6 at S6 g6
                have hk6 := g6 _ _ (g3 _ _ hk)
                refine ⟨_, rfl, D, rfl, ⟨_, SqL.of S6.hd⟩, fun D2 hD2 => ?_⟩
                refine lc_it (walk_list (K := K) (a := D) (xs := ps.map V.ref)) (fun j H' => ∃ qs, Sb G6 H' ((D2, .lst (qs.map V.ref)) :: (D, .lst (ps.map V.ref)) :: (p, .lst xs) :: M) ∧ PrA G6 qs ((as.take j).filter fun p => decide (p.1 ≠ k))) ⟨[], S6.add (o := .lst []) hD2, by rw [List.take_zero]; exact .nil⟩ (fun j H' _ z => by obtain ⟨_, z, _⟩ := z; exact SqL.of z.hd2) ?_ ?_
                · rintro j x H7 H8 hj ⟨qs, S7, hq⟩ ⟨rfl, hx⟩
                  rw [List.getElem?_map] at hx
                  obtain ⟨pp, hpp, rfl⟩ := Option.map_eq_some_iff.mp hx
                  obtain ⟨y, hy, hpy⟩ := paired_get ha3 hpp
                  have hpy6 := g6 _ _ hpy
                  have ql := Paired.length hq
                  have ef : (as.take (j + 1)).filter (fun p => decide (p.1 ≠ k)) = (as.take j).filter (fun p => decide (p.1 ≠ k)) ++ [y].filter fun p => decide (p.1 ≠ k) := by
                    rw [List.take_add_one, hy, List.filter_append]
                    rfl
                  refine ⟨rfl, _, rfl, pp, _, _, _, rfl, rfl, SqT.of (S7.s _ _ hpy6), at_0, _, rfl, oa, _, _, _, rfl, rfl, SqT.of (S7.s _ _ hk6), at_2, rfl, _, rfl, ?_⟩
                  by_cases ce : y.1 = k
                  · have eb : (!decide (V.str y.1 = V.str k)) = false := by rw [decide_eq_true (show V.str y.1 = V.str k by rw [ce])]; rfl
                    have e2 : [y].filter (fun p => decide (p.1 ≠ k)) = [] := by simp [ce]
                    rw [e2, List.append_nil] at ef
                    rw [ef]
                    exact iteF' eb ⟨qs, S7, hq⟩
                  · have eb : (!decide (V.str y.1 = V.str k)) = true := by rw [decide_eq_false (fun z => ce (V.str.inj z))]; rfl
                    have e2 : [y].filter (fun p => decide (p.1 ≠ k)) = [y] := by simp [ce]
                    rw [e2] at ef
                    rw [ef]
                    refine iteT' eb ⟨_, rfl, _, S7.hd, ?_, qs ++ [pp], ?_, ?_⟩
                    · rw [List.length_map, ql]
                      exact Nat.lt_of_le_of_lt (Nat.le_trans (List.length_filter_le _ _) (by rw [List.length_take]; show min j as.length ≤ 100; omega)) (by decide)
                    · refine S7.put.eqo ?_
                      rw [List.map_append]
                      rfl
                    · exact Paired.snoc hq hpy6
                · rintro H7 ⟨qs, S7, hq⟩
                  rw [List.take_of_length_le (by rw [List.length_map]; omega)] at hq
                  obtain ⟨S8, g8⟩ := S7.swap.drop
                  have ql := Paired.length hq
                  have fl := List.length_filter_le (fun p : Pss => decide (p.1 ≠ k)) as
                  have hk8 := S8.s _ _ (g8 _ _ hk6)
                  refine ⟨_, rfl, oa, _, _, _, rfl, rfl, SqT.of hk8, at_0, rfl, _, rfl, ite2 (fun c5 => ?_) (fun c5 => ?_)⟩
                  · have c5 : wordD o = "set" := V.str.inj (of_decide_eq_true c5)
                    cases ho with
                    | rem h => exact absurd (show ("remove" : Str) = "set" from c5) (by decide)
                    | ins h _ => exact absurd (show ("insert" : Str) = "set" from c5) (by decide)
                    | mov h => exact absurd (show ("move" : Str) = "set" from c5) (by decide)
                    | txt h => exact absurd (show ("text" : Str) = "set" from c5) (by decide)
                    | uns h => exact absurd (show ("unset" : Str) = "set" from c5) (by decide)
                    | @set _ m k2 x2 h =>
                      rw [h] at hk
                      cases hk
                      refine ⟨_, rfl, .inl ⟨rfl, _, SqL.of S8.hd⟩, _, rfl, oa, _, _, _, rfl, rfl, SqT.of hk8, at_2, _, rfl, oa, _, _, _, rfl, rfl, SqT.of hk8, rfl, by show 2 ≤ sizeLine; decide, fun t3 ht3 => ?_⟩
                      have S9 := S8.alloc (o := .tup [.str k, .str x2]) ht3
                      have g9 := S8.grow (o := .tup [.str k, .str x2]) ht3
                      have hn : n = m := hn
                      refine ⟨D2, _, .ref t3, rfl, rfl, S9.hd, ?_, D2, qs ++ [t3], _, S9.put.eqo ?_, Same.trans g6 (Same.trans g8 g9), ?_, rfl⟩
                      · rw [List.length_map, ql]
                        exact Nat.lt_of_le_of_lt (Nat.le_trans fl ok2) (by decide)
                      · rw [List.map_append]
                        rfl
                      · have : attL (.set m k x2) n as = (as.filter fun p => decide (p.1 ≠ k)) ++ [(k, x2)] := by simp only [attL, hn, if_true]
                        rw [this]
                        exact Paired.snoc (PrA.same hq (Same.trans g8 g9)) upd_same
                  · have hat : attL o n as = as.filter fun p => decide (p.1 ≠ k) := by
                      cases ho with
                      | rem h => exact absurd c2 (show ¬ inV (.str ("remove" : Str)) [V.str "set", .str "unset"] = true by decide +kernel)
                      | ins h _ => exact absurd c2 (show ¬ inV (.str ("insert" : Str)) [V.str "set", .str "unset"] = true by decide +kernel)
                      | mov h => exact absurd c2 (show ¬ inV (.str ("move" : Str)) [V.str "set", .str "unset"] = true by decide +kernel)
                      | txt h => exact absurd c2 (show ¬ inV (.str ("text" : Str)) [V.str "set", .str "unset"] = true by decide +kernel)
                      | set h => exact absurd (decide_eq_true rfl) c5
                      | @uns _ m k2 h =>
                        rw [h] at hk
                        cases hk
                        have hn : n = m := hn
                        simp only [attL, hn, if_true]
                    exact ⟨D2, qs, _, S8, Same.trans g6 g8, by rw [hat]; exact PrA.same hq g8, rfl⟩
              · have hat : attL o n as = as := by
                  cases o with
                  | set m k x => exact absurd (show inV (.str ("set" : Str)) [V.str "set", .str "unset"] = true by decide +kernel) c2
                  | uns m k => exact absurd (show inV (.str ("unset" : Str)) [V.str "set", .str "unset"] = true by decide +kernel) c2
                  | rem _ _ => rfl
                  | ins _ _ _ => rfl
                  | mov _ _ _ => rfl
                  | txt _ _ => rfl
                exact ⟨D, ps, _, S4.alloc ht2, S4.grow ht2, by rw [hat]; exact PrA.same ha3 (S4.grow ht2), rfl⟩
            · have hn : n ≠ targD o := fun z => c1 (decide_eq_true (by rw [← z]))
              exact iteF ⟨D, ps, G', S4, Same.refl _, by rw [attL_no hn]; exact ha3, rfl⟩
          · rintro σ' H' ⟨q5, ps2, G2, S5, g5, hp2, rfl⟩
            have hh := hS_mem dm
            rw [hN_eq] at hh
            have hh : hS kks + 1 ≤ hS ks := hh
            obtain ⟨N', rfl⟩ : ∃ N', N = N' + 1 := ⟨N - 1, by omega⟩
            have esp := hsp N' rfl
            subst esp
            have hb5 := S5.s _ _ (g5 _ _ h1)
            have nk1 := num_mem dm
            have nk2 := num_kids (d := .el n t as kks)
            have nk2 : (numS kks).length ≤ (numN (.el n t as kks)).length := nk2
            have p2l := Paired.length hp2
            refine ⟨_, rfl, b, _, _, _, rfl, rfl, SqT.of hb5, rfl, _, rfl, _, rfl, b, _, _, _, rfl, rfl, SqT.of hb5, at_1, pk, oa, n, kks, o, G2, _, rfl, S5, ⟨vs, g5 _ _ hk, hs.same g5⟩, ho.same (Same.trans g3 g5), by omega, by omega, ok3, ok4, fun p6 G6 H6 S6 g6 h6 => ?_⟩
            have hb6 := S6.s _ _ (g6 _ _ (g5 _ _ h1))
            have hp6 := PrA.same hp2 g6
            refine ⟨_, rfl, .inl ⟨rfl, _, SqL.of S6.hd2⟩, _, rfl, b, _, _, _, rfl, rfl, SqT.of hb6, at_1, _, rfl, b, _, _, _, rfl, rfl, SqT.of hb6, at_2, _, rfl, ?_⟩
            dsimp only [tNil]
            refine srt_pairs (la := q5) (SqL.of S6.hd) (PrA.same hp6 S6.s) fun p7 ps7 h07 h7 l7 => ?_
            have S7 := S6.alloc (o := .lst (ps7.map V.ref)) h07
            have g7 := S6.grow (o := .lst (ps7.map V.ref)) h07
            refine ⟨p7, _, rfl, SqL.of upd_same, fun l8 o8 hl8 ho8 => ?_⟩
            have S8 := S7.alloc (o := .frz o8 (.tup (ps7.map V.ref))) hl8
            have g8 := S7.grow (o := .frz o8 (.tup (ps7.map V.ref))) hl8
            have g78 := Same.trans g7 g8
            obtain ⟨xs6, e6, n6⟩ := h6
            refine ⟨_, rfl, p6, xs6, rfl, .inl ⟨SqL.of (S8.s _ _ (g78 _ _ e6)), fun p9 hp9 => ⟨by show 5 ≤ sizeLine; decide, fun t10 ht10 => ?_⟩⟩⟩
            have S9 := S8.alloc (o := .tup xs6) hp9
            have g9 := S8.grow (o := .tup xs6) hp9
            have S10 := S9.alloc (o := .tup [.str "element", .int n, .str t, .ref l8, .ref p9]) ht10
            have g10 := S9.grow (o := .tup [.str "element", .int n, .str t, .ref l8, .ref p9]) ht10
            obtain ⟨S12, g12⟩ := (S10.put2 (u := .lst (xs ++ [.ref t10]))).drop
            have gA := Same.trans g9 (Same.trans g10 g12)
            have gB := Same.trans g8 gA
            have gC := Same.trans g7 gB
            refine ⟨p, xs, .ref t10, rfl, rfl, S10.hd2, by omega, xs ++ [.ref t10], _, _, _, _, _, _, S12, Same.trans g3 (Same.trans g5 (Same.trans g6 gC)), ?_, rfl⟩
            rw [et]
            refine (hxs.same (Same.trans g5 (Same.trans g6 gC))).app (.cons ?_ .nil)
            simp only [lsN]
            exact .el (g12 _ _ upd_same) ⟨l8, o8, ps7, rfl, gA _ _ upd_same, ho8, h7 _ (PrA.same hp6 gC)⟩ (g12 _ _ (g10 _ _ upd_same)) (n6.same gC)
    · rintro σ H3 ⟨xs, G', y4, y5, y6, y7, y8, S3, g3, hxs, rfl⟩
      have ll : (lsS o ks).length = ks.length := by rw [lsS_map, List.length_map]
      rw [List.take_of_length_le (by omega)] at hxs
      obtain ⟨S4, g4⟩ := S3.drop
      have g34 := Same.trans g3 g4
      have hxs4 := hxs.same g4
      have hp4 : upd G' p (.lst xs) p = some (.lst xs) := upd_same
      generalize upd G' p (.lst xs) = G4 at S4 g4 g34 hxs4 hp4
      have hoa4 := S4.s _ _ (g34 _ _ hoa)
      have xl := hxs.len
      have all : ∀ G5 H5, Sb G5 H5 M → Same G4 G5 → finD o own (lsS o ks) = lsS o ks → Q (.ref p) H5 := fun G5 H5 S5 g5 e => q p G5 H5 S5 (Same.trans g34 g5) ⟨xs, g5 _ _ hp4, by rw [e]; exact hxs4.same g5⟩
      refine ⟨_, rfl, _, rfl, oa, _, _, _, rfl, rfl, SqT.of hoa4, at_1, rfl, _, rfl, ite2 (fun c => ?_) (fun c => ?_)⟩
      · have hne : own ≠ targD o := fun z => by
          rw [z] at c
          simp at c
        exact iteT ⟨_, rfl, all _ _ S4 (Same.refl _) (finD_no hne)⟩
      have hown : own = targD o := by
        by_cases z : own = targD o
        · exact z
        · exact absurd (by rw [decide_eq_false (fun q => z (V.int.inj q))]; rfl) c
      have okf := okf hown
      refine ⟨_, rfl, oa, _, _, _, rfl, rfl, SqT.of hoa4, at_0, by show 3 ≤ sizeLine; decide, fun t ht => ⟨t, _, rfl, .inr (SqT.of upd_same), rfl, rfl, _, rfl, ite2 (fun c2 => ?_) (fun c2 => ?_)⟩⟩
      · refine ⟨_, rfl, all _ _ (S4.alloc ht) (S4.grow ht) ?_⟩
        cases o with
        | rem _ _ => exact absurd c2 (by rw [show inV (.str (wordD (.rem _ _))) [V.str "text", .str "set", .str "unset"] = false from in_remove]; decide)
        | ins _ _ _ => exact absurd c2 (by rw [show inV (.str (wordD (.ins _ _ _))) [V.str "text", .str "set", .str "unset"] = false from in_insert]; decide)
        | mov _ _ _ => exact absurd c2 (by rw [show inV (.str (wordD (.mov _ _ _))) [V.str "text", .str "set", .str "unset"] = false from in_move]; decide)
        | txt _ _ => rfl
        | set _ _ _ => rfl
        | uns _ _ => rfl
      have S5 := S4.alloc (o := .tup [V.str "text", .str "set", .str "unset"]) ht
      have g5 := S4.grow (o := .tup [V.str "text", .str "set", .str "unset"]) ht
      show tSeq _ _ _ _ (upd H3 t (.tup [V.str "text", .str "set", .str "unset"]))
      generalize upd H3 t (.tup [V.str "text", .str "set", .str "unset"]) = H5 at S5 ⊢
      generalize upd G4 t (.tup [V.str "text", .str "set", .str "unset"]) = G5 at S5 g5
      clear all
      have g05 := Same.trans g34 g5
      have hoa5 := S5.s _ _ (g05 _ _ hoa)
      have hxs5 := hxs4.same g5
      have hp5 := g5 _ _ hp4
      refine ⟨_, rfl, oa, _, _, _, rfl, rfl, SqT.of hoa5, at_0, rfl, _, rfl, ite2 (fun c3 => ?_) (fun c3 => ?_)⟩
      · have c3 : wordD o = "insert" := V.str.inj (of_decide_eq_true c3)
        cases ho with
        | rem h => exact absurd (show ("remove" : Str) = "insert" from c3) (by decide)
        | mov h => exact absurd (show ("move" : Str) = "insert" from c3) (by decide)
        | txt h => exact absurd (show ("text" : Str) = "insert" from c3) (by decide)
        | set h => exact absurd (show ("set" : Str) = "insert" from c3) (by decide)
        | uns h => exact absurd (show ("unset" : Str) = "insert" from c3) (by decide)
        | @ins _ pp u d ah h hd =>
          have h5 := S5.s _ _ (g05 _ _ h)
          refine ⟨_, rfl, _, rfl, oa, _, _, _, rfl, rfl, SqT.of h5, at_2, _, rfl, oa, _, _, _, rfl, rfl, SqT.of h5, rfl, p, u, _, d, ah, G5, M, rfl, S5, ⟨xs, hp5, hxs5⟩, hd.same g05, okf, by omega, fun p6 G6 H6 S6 g6 h6 => ?_⟩
          have e : finD (.ins pp d ah) own (lsS (.ins pp d ah) ks) = putL (lsS (.ins pp d ah) ks) d ah := if_pos hown
          exact q p6 G6 H6 S6 (Same.trans g05 g6) (by rw [e]; exact h6)
      obtain ⟨n, ws2, hk⟩ : ∃ n ws2, G oa = some (.tup (.str (wordD o) :: .int (targD o) :: .int n :: ws2)) := by
        cases ho with
        | rem h => exact ⟨_, _, h⟩
        | mov h => exact ⟨_, _, h⟩
        | ins h _ => exact absurd (decide_eq_true rfl) c3
        | txt h => exact absurd in_text c2
        | set h => exact absurd in_set c2
        | uns h => exact absurd in_unset c2
      have hk5 := g05 _ _ hk
      have flt : ∀ {Qx : Hp → Prop} {D : Addr}, H5 D = none → (∀ H6 ys, Sb G5 H6 ((D, .lst ys) :: M) → NdAs G5 ys ((lsS o ks).filter fun d => decide (d.num ≠ n)) → Qx H6) → True := fun _ _ => trivial
      refine ⟨_, rfl, p, rfl, ⟨_, SqL.of (S5.s _ _ hp5)⟩, fun D hD => ?_⟩
      refine lc_it (walk_list (K := K) (a := p) (xs := xs)) (fun j H' => ∃ ys, Sb G5 H' ((D, .lst ys) :: M) ∧ NdAs G5 ys (((lsS o ks).take j).filter fun d => decide (d.num ≠ n))) ⟨[], S5.add (o := .lst []) hD, by rw [List.take_zero]; exact .nil⟩ (fun j H' _ z => by obtain ⟨_, z, _⟩ := z; exact SqL.of (z.s _ _ hp5)) ?_ ?_
      · rintro j x H7 H8 hj ⟨ys, S7, hq⟩ ⟨rfl, hx⟩
        obtain ⟨d, hd, hxd⟩ := hxs5.get' hx
        obtain ⟨b, zs2, rfl, hb⟩ := hxd.at
        have ef : ((lsS o ks).take (j + 1)).filter (fun d => decide (d.num ≠ n)) = ((lsS o ks).take j).filter (fun d => decide (d.num ≠ n)) ++ [d].filter fun d => decide (d.num ≠ n) := by
          rw [List.take_add_one, hd, List.filter_append]
          rfl
        refine ⟨rfl, _, rfl, b, _, _, _, rfl, rfl, SqT.of (S7.s _ _ hb), at_1, _, rfl, oa, _, _, _, rfl, rfl, SqT.of (S7.s _ _ hk5), at_2, rfl, _, rfl, ?_⟩
        by_cases ce : d.num = n
        · have eb : (!decide (V.int d.num = V.int n)) = false := by rw [decide_eq_true (show V.int d.num = V.int n by rw [ce])]; rfl
          have e2 : [d].filter (fun d => decide (d.num ≠ n)) = [] := by simp [ce]
          rw [e2, List.append_nil] at ef
          rw [ef]
          exact iteF' eb ⟨ys, S7, hq⟩
        · have eb : (!decide (V.int d.num = V.int n)) = true := by rw [decide_eq_false (fun z => ce (V.int.inj z))]; rfl
          have e2 : [d].filter (fun d => decide (d.num ≠ n)) = [d] := by simp [ce]
          rw [e2] at ef
          rw [ef]
          refine iteT' eb ⟨_, rfl, _, S7.hd, ?_, ys ++ [.ref b], S7.put, hq.app (.cons hxd .nil)⟩
          rw [hq.len]
          exact Nat.lt_of_le_of_lt (Nat.le_trans (List.length_filter_le _ _) (by rw [List.length_take]; show min j (lsS o ks).length ≤ 1000; omega)) (by decide)
      rintro H7 ⟨ys, S7, hq⟩
      rw [List.take_of_length_le (by omega)] at hq
      obtain ⟨S8, g8⟩ := S7.drop
      have hD8 : upd G5 D (.lst ys) D = some (.lst ys) := upd_same
      generalize upd G5 D (.lst ys) = G8 at S8 g8 hD8
      have hq8 := hq.same g8
      have hk8 := S8.s _ _ (g8 _ _ hk5)
      refine ⟨_, rfl, oa, _, _, _, rfl, rfl, SqT.of hk8, at_0, rfl, _, rfl, ite2 (fun c6 => ?_) (fun c6 => ?_)⟩
      · have c6 : wordD o = "remove" := V.str.inj (of_decide_eq_true c6)
        cases ho with
        | mov h => exact absurd (show ("move" : Str) = "remove" from c6) (by decide)
        | ins h _ => exact absurd (show ("insert" : Str) = "remove" from c6) (by decide)
        | txt h => exact absurd (show ("text" : Str) = "remove" from c6) (by decide)
        | set h => exact absurd (show ("set" : Str) = "remove" from c6) (by decide)
        | uns h => exact absurd (show ("unset" : Str) = "remove" from c6) (by decide)
        | @rem _ pp n2 h =>
          rw [h] at hk
          cases hk
          have e : finD (.rem pp n) own (lsS (.rem pp n) ks) = (lsS (.rem pp n) ks).filter fun d => decide (d.num ≠ n) := if_pos hown
          exact ⟨_, rfl, q D G8 H7 S8 (Same.trans g05 g8) ⟨ys, hD8, by rw [e]; exact hq8⟩⟩
      · cases ho with
        | rem h => exact absurd (decide_eq_true rfl) c6
        | ins h _ => exact absurd (decide_eq_true rfl) c3
        | txt h => exact absurd in_text c2
        | set h => exact absurd in_set c2
        | uns h => exact absurd in_unset c2
        | @mov _ pp n2 ah h =>
          rw [h] at hk
          cases hk
          obtain ⟨ok1, ok2⟩ := okf
          obtain ⟨jj, hjj⟩ := Option.isSome_iff_exists.mp ok1
          obtain ⟨m, hm, hmn⟩ := place_lt hjj
          obtain ⟨r, hr⟩ := place_head hjj hm
          have hp8 := g8 _ _ hp5
          have hxs8 := hxs5.same g8
          refine ⟨_, rfl, _, rfl, p, rfl, ⟨_, SqL.of (S8.s _ _ hp8)⟩, fun D2 hD2 => ?_⟩
          refine lc_it (walk_list (K := K) (a := p) (xs := xs)) (fun j H' => ∃ ys, Sb G8 H' ((D2, .lst ys) :: M) ∧ NdAs G8 ys (((lsS (.mov pp n ah) ks).take j).filter fun d => decide (d.num = n))) ⟨[], S8.add (o := .lst []) hD2, by rw [List.take_zero]; exact .nil⟩ (fun j H' _ z => by obtain ⟨_, z, _⟩ := z; exact SqL.of (z.s _ _ hp8)) ?_ ?_
          · rintro j x H9 H10 hj ⟨ys2, S9, hq2⟩ ⟨rfl, hx⟩
            obtain ⟨d, hd, hxd⟩ := hxs8.get' hx
            obtain ⟨b, zs2, rfl, hb⟩ := hxd.at
            have ef : ((lsS (.mov pp n ah) ks).take (j + 1)).filter (fun d => decide (d.num = n)) = ((lsS (.mov pp n ah) ks).take j).filter (fun d => decide (d.num = n)) ++ [d].filter fun d => decide (d.num = n) := by
              rw [List.take_add_one, hd, List.filter_append]
              rfl
            refine ⟨rfl, _, rfl, b, _, _, _, rfl, rfl, SqT.of (S9.s _ _ hb), at_1, _, rfl, oa, _, _, _, rfl, rfl, SqT.of (S9.s _ _ (g8 _ _ hk5)), at_2, rfl, _, rfl, ?_⟩
            by_cases ce : d.num = n
            · have eb : (decide (V.int d.num = V.int n)) = true := decide_eq_true (by rw [ce])
              have e2 : [d].filter (fun d => decide (d.num = n)) = [d] := by simp [ce]
              rw [e2] at ef
              rw [ef]
              refine iteT' eb ⟨_, rfl, _, S9.hd, ?_, ys2 ++ [.ref b], S9.put, hq2.app (.cons hxd .nil)⟩
              rw [hq2.len]
              exact Nat.lt_of_le_of_lt (Nat.le_trans (List.length_filter_le _ _) (by rw [List.length_take]; show min j (lsS (.mov pp n ah) ks).length ≤ 1000; omega)) (by decide)
            · have eb : (decide (V.int d.num = V.int n)) = false := decide_eq_false (fun z => ce (V.int.inj z))
              have e2 : [d].filter (fun d => decide (d.num = n)) = [] := by simp [ce]
              rw [e2, List.append_nil] at ef
              rw [ef]
              exact iteF' eb ⟨ys2, S9, hq2⟩
          rintro H9 ⟨ys2, S9, hq2⟩
          rw [List.take_of_length_le (by omega), hr] at hq2
          obtain ⟨S10, g10⟩ := S9.drop
          cases hq2 with
          | @cons u us _ _ hu hus =>
            have hD10 := S10.s _ _ (g10 _ _ hD8)
            have e : finD (.mov pp n ah) own (lsS (.mov pp n ah) ks) = putL ((lsS (.mov pp n ah) ks).filter fun d => decide (d.num ≠ n)) m ah := by
              show (if own = pp then _ else _) = _
              rw [if_pos (show own = pp from hown), hr]
            exact ⟨D2, _, _, _, rfl, rfl, SqL.of (S10.s _ _ upd_same), at_0, _, rfl, oa, _, _, _, rfl, rfl, SqT.of (S10.s _ _ (g10 _ _ (g8 _ _ hk5))), rfl, D, u, _, m, ah, _, M, rfl, S10, ⟨ys, g10 _ _ hD8, hq8.same g10⟩, hu.same g10, ok2, Nat.le_trans (List.length_filter_le _ _) (by omega), fun p6 G6 H6 S6 g6 h6 => q p6 G6 H6 S6 (Same.trans g05 (Same.trans g8 (Same.trans g10 g6))) (by rw [e]; exact h6)⟩
theorem ll_N (T : Txt K w mg C) : ∀ n : Nat, Cal P w K mg base (n + 2) "_law_list_of" (spLs n)
  | 0 => ll_S T (N := 0) (sp := spFalse) (fun m h => by omega) (ll_0 T)
  | n + 1 => ll_S T (N := n + 1) (sp := spLs n) (fun m h => by rw [Nat.succ.inj h]) (ll_N T n)
end
end VL

set_option Elab.async false
set_option linter.all false
set_option pp.maxSteps 700
set_option maxRecDepth 100000
set_option maxHeartbeats 4000000
namespace VL
open PySem PySem.Spec PyProof.Rows L2 S2S
mutual
def enN : Dn → PyData
  | .tx n x => .tuple [.str "text", .int n, .str x]
  | .el n t as ks => .tuple [.str "element", .int n, .str t, .tuple (as.map pairP), .tuple (enS ks)]
def enS : List Dn → List PyData
  | [] => []
  | d :: r => enN d :: enS r
end
theorem plain_pairs : ∀ as : List (Str × Str), PyData.plainAll (as.map pairP) = true
  | [] => rfl
  | a :: as => by
    have := plain_pairs as
    simp [pairP, PyData.plain, PyData.plainAll, this]
theorem depth_pairs : ∀ (as : List (Str × Str)), PyData.depthAll (as.map pairP) ≤ 1
  | [] => by simp [PyData.depthAll]
  | a :: as => by
    have := depth_pairs as
    simp [pairP, PyData.depth, PyData.depthAll]
    omega
mutual
theorem plain_N : ∀ d : Dn, PyData.plain (enN d) = true
  | .tx n x => by simp only [enN]; rfl
  | .el n t as ks => by
    have h1 := plain_pairs as
    have h2 := plain_S ks
    simp [enN, PyData.plain, PyData.plainAll, h1, h2]
theorem plain_S : ∀ ks : List Dn, PyData.plainAll (enS ks) = true
  | [] => by simp only [enS]; rfl
  | d :: r => by simp only [enS, PyData.plainAll, plain_N d, plain_S r]; rfl
end
mutual
theorem dpt_N : ∀ d : Dn, PyData.depth (enN d) ≤ 2 * hN d + 2
  | .tx n x => by simp [enN, PyData.depth, PyData.depthAll, hN]
  | .el n t as ks => by
    have h1 := depth_pairs as
    have h2 := dpt_S ks
    simp only [enN, PyData.depth, PyData.depthAll, hN]
    omega
theorem dpt_S : ∀ ks : List Dn, PyData.depthAll (enS ks) ≤ 2 * hS ks + 2
  | [] => by simp [enS, PyData.depthAll]
  | d :: r => by
    have h1 := dpt_N d
    have h2 := dpt_S r
    simp only [enS, PyData.depthAll, hS]
    omega
end
theorem dp_pairs {K : PySem.W.Frag} {H : Hp} {ps : List Addr} {as : List (Str × Str)} (h : Paired (fun p (x : Str × Str) => H p = some (.tup [.str x.1, .str x.2])) ps as) : DpAll K H (ps.map V.ref) (as.map pairP) := by
  induction h with
  | nil => exact .nil
  | cons h _ ih => exact .cons (.tup (SqT.of h) (.cons (.str _) (.cons (.str _) .nil))) ih
mutual
theorem dp_N {K : PySem.W.Frag} {H : Hp} : ∀ {v : V} {d : Dn}, NdA H v d → Dp K H v (enN d)
  | _, _, .tx h => by
    simp only [enN]
    exact .tup (SqT.of h) (.cons (.str _) (.cons (.int _) (.cons (.str _) .nil)))
  | _, _, .el h ha hp hs => by
    obtain ⟨at_, ps, rfl, hsq, hps⟩ := ha.sq (K := K)
    simp only [enN]
    exact .tup (SqT.of h) (.cons (.str _) (.cons (.int _) (.cons (.str _) (.cons (.tup hsq (dp_pairs hps)) (.cons (.tup (SqT.of hp) (dp_S hs)) .nil)))))
theorem dp_S {K : PySem.W.Frag} {H : Hp} : ∀ {vs : List V} {ds : List Dn}, NdAs H vs ds → DpAll K H vs (enS ds)
  | _, _, .nil => by simp only [enS]; exact .nil
  | _, _, .cons h t => by simp only [enS]; exact .cons (dp_N h) (dp_S t)
end
theorem dpth_mem {ds : List PyData} {n : Nat} (h : ∀ d ∈ ds, PyData.depth d ≤ n) : PyData.depthAll ds ≤ n := by
  induction ds with
  | nil => simp [PyData.depthAll]
  | cons d ds ih =>
    have h1 := h d List.mem_cons_self
    have h2 := ih fun e he => h e (List.mem_cons_of_mem _ he)
    simp only [PyData.depthAll]
    omega
theorem plain_mem {ds : List PyData} (h : ∀ d ∈ ds, PyData.plain d = true) : PyData.plainAll ds = true := by
  induction ds with
  | nil => rfl
  | cons d ds ih =>
    have h1 := h d List.mem_cons_self
    have h2 := ih fun e he => h e (List.mem_cons_of_mem _ he)
    simp only [PyData.plainAll, h1, h2]
    rfl
mutual
/-- what stands in a document is no deeper than it -/
theorem hN_in (l : Int) : ∀ d : Dn, ∀ p ∈ it l d, hN p.2 ≤ hN d
  | .tx n x, p, h => by
    simp only [it, List.mem_singleton] at h
    rw [h]
    exact Nat.le_refl _
  | .el n t as ks, p, h => by
    simp only [it, List.mem_cons] at h
    rcases h with rfl | h
    · exact Nat.le_refl _
    · have := hS_in (l + 1) ks p h
      simp only [hN]
      omega
theorem hS_in (l : Int) : ∀ ks : List Dn, ∀ p ∈ itS l ks, hN p.2 ≤ hS ks
  | [], p, h => by simp [itS] at h
  | d :: r, p, h => by
    simp only [itS, List.mem_append] at h
    simp only [hS]
    rcases h with h | h
    · have := hN_in l d p h
      omega
    · have := hS_in l r p h
      omega
end
theorem dp_ints {K : PySem.W.Frag} {H : Hp} : ∀ ns : List Int, DpAll K H (ns.map V.int) (ns.map PyData.int)
  | [] => .nil
  | n :: ns => .cons (.int n) (dp_ints ns)
mutual
theorem okS_N {o : OpD} (l : Int) : ∀ d : Dn, (∀ p ∈ it l d, ∀ n t as kk, p.2 = .el n t as kk → (∀ m x, o = .txt m x → n ≠ m) ∧ as.length ≤ 100 ∧ okFin o n (lsS o kk)) → OkN o d
  | .tx n x, _ => by simp only [OkN]
  | .el n t as ks, h => by
    simp only [OkN]
    obtain ⟨h1, h2, h3⟩ := h (l, .el n t as ks) (by simp [it]) n t as ks rfl
    exact ⟨h1, h2, h3, okS_S (l + 1) ks fun p hp => h p (by simp only [it, List.mem_cons]; exact .inr hp)⟩
theorem okS_S {o : OpD} (l : Int) : ∀ ks : List Dn, (∀ p ∈ itS l ks, ∀ n t as kk, p.2 = .el n t as kk → (∀ m x, o = .txt m x → n ≠ m) ∧ as.length ≤ 100 ∧ okFin o n (lsS o kk)) → OkS o ks
  | [], _ => by simp only [OkS]
  | d :: r, h => by
    simp only [OkS]
    exact ⟨okS_N l d fun p hp => h p (by simp only [itS, List.mem_append]; exact .inl hp), okS_S l r fun p hp => h p (by simp only [itS, List.mem_append]; exact .inr hp)⟩
end
theorem fin_of {ks kk : List Dn} {o : OpD} {n : Int} (nf : faultD ks o = none) (ht : n = targD o) (hk : kidsD ks n = some kk) (hl : lsS o kk = kk) : okFin o n (lsS o kk) := by
  intro _
  rw [hl]
  subst ht
  cases o with
  | rem p m => trivial
  | txt _ _ => trivial
  | set _ _ _ => trivial
  | uns _ _ => trivial
  | ins p d ah =>
    have hk : kidsD ks p = some kk := hk
    simp only [faultD, hk] at nf
    show isPl kk ah = true
    cases hh : isPl kk ah with
    | true => rfl
    | false =>
      rw [hh] at nf
      split at nf <;> simp at nf
  | mov p m ah =>
    have hk : kidsD ks p = some kk := hk
    simp only [faultD, hk] at nf
    split at nf
    · rename_i h
      exact ⟨h.1, plc_filter h.2.2 h.2.1⟩
    · cases nf
theorem ok_of {ks : List Dn} {o : OpD} (D : Doc0 ks) (nf : faultD ks o = none) (len : ∀ p ∈ itS 1 ks, (namD p.2).length ≤ 100) : okFin o 0 (lsS o ks) ∧ OkS o ks := by
  refine ⟨?_, okS_S 1 ks fun p hp n t as kk e => ?_⟩
  · by_cases ht : (0 : Int) = targD o
    · exact fin_of nf ht (by unfold kidsD; rw [if_pos rfl]) (lsS_no (by rw [← ht]; exact D.n0) D.asc)
    · intro z
      exact absurd z ht
  · obtain ⟨l, d⟩ := p
    have e : d = .el n t as kk := e
    subst e
    have nin := sub_S 1 ks _ hp n (num_head (.el n t as kk))
    have n0 : n ≠ 0 := fun z => D.n0 (by rw [← z]; exact nin)
    have ef : findD ks n = some (l, .el n t as kk) := by
      cases h : findD ks n with
      | none =>
        unfold findD at h
        rw [List.find?_eq_none] at h
        exact absurd (decide_eq_true rfl) (h _ hp)
      | some q =>
        obtain ⟨l2, d2⟩ := q
        have h1 := (findD_in h).1
        rw [it_uniq D.nd (List.mem_of_find?_eq_some h) hp h1]
    refine ⟨fun m x eo z => ?_, ?_, ?_⟩
    · subst eo
      subst z
      simp only [faultD, ef] at nf
      cases nf
    · have := len _ hp
      rw [show namD (.el n t as kk) = as.map (·.1) from rfl, List.length_map] at this
      exact this
    · by_cases ht : n = targD o
      · have a := all_itS 1 ks D.asc _ hp
        simp only [AllD] at a
        have nd := (subl_S 1 ks _ hp).nodup D.nd
        simp only [numN, List.nodup_cons] at nd
        exact fin_of nf ht (by unfold kidsD; rw [if_neg n0, ef]) (lsS_no (by rw [← ht]; exact nd.1) a.2)
      · intro z
        exact absurd z ht
end VL

set_option Elab.async false
set_option linter.all false
set_option pp.maxSteps 700
set_option maxRecDepth 100000
set_option maxHeartbeats 4000000
namespace VL
open PySem PySem.Spec PyProof.Rows L2 S2S
theorem sh_int {i : Int} (h0 : 0 ≤ i) (h1 : i < 10 ^ 7) : Small 8 0 (.int i) := by
  refine ⟨?_, Nat.le_refl _, ?_⟩
  · show decide (i.natAbs.log2 < 1920) = true
    exact decide_eq_true (log_ok h0 (by omega))
  · show (Str.ofString (toString i)).length ≤ 8
    exact Nat.le_trans (toString_length_le (v := i) (k := 7) h0 (by decide) (by omega)) (by decide)
theorem sh_pairs {n : Nat} : ∀ {as : List Pss}, as.length ≤ n → (∀ p ∈ as, (reprText p.1).length ≤ 20 ∧ (reprText p.2).length ≤ 20) → PyData.showableAll (as.map pairP) = true ∧ PyData.hasDictAll (as.map pairP) = false ∧ piled (PyData.shownAll (as.map pairP)) ≤ as.length * 60 := by
  intro as _ h
  induction as with
  | nil => exact ⟨rfl, rfl, by simp [PyData.shownAll, piled]⟩
  | cons p as ih =>
    rename_i hl
    obtain ⟨i1, i2, i3⟩ := ih (by simp only [List.length_cons] at hl; omega) fun q hq => h q (List.mem_cons_of_mem _ hq)
    obtain ⟨h1, h2⟩ := h p List.mem_cons_self
    have e : (PyData.shown (pairP p)).length ≤ 47 := by
      show (tupleText [reprText p.1, reprText p.2]).length ≤ 47
      have := tupText_le [reprText p.1, reprText p.2]
      simp only [piled, List.map_cons, List.map_nil, List.sum_cons, List.sum_nil] at this
      omega
    refine ⟨?_, ?_, ?_⟩
    · rw [List.map_cons]
      show (PyData.showable (pairP p) && PyData.showableAll (as.map pairP)) = true
      rw [i1]
      rfl
    · rw [List.map_cons]
      show (PyData.hasDict (pairP p) || PyData.hasDictAll (as.map pairP)) = false
      rw [i2]
      rfl
    · rw [List.map_cons]
      have e2 : piled (PyData.shownAll (pairP p :: as.map pairP)) = (PyData.shown (pairP p)).length + 2 + piled (PyData.shownAll (as.map pairP)) := by simp [PyData.shownAll, piled]
      rw [e2, List.length_cons]
      omega
theorem r_text : (reprText ("text" : Str)).length ≤ 20 := by decide +kernel
theorem r_elem : (reprText ("element" : Str)).length ≤ 20 := by decide +kernel
mutual
theorem shn_N {j : Nat} (hj : j ≤ 20) : ∀ d : Dn, AllD (ShJ j) d → (∀ n ∈ numN d, 1 ≤ n ∧ n < 10 ^ 7) → PyData.showable (enN d) = true ∧ PyData.hasDict (enN d) = false ∧ (PyData.shown (enN d)).length + 2 ≤ 3000 * (numN d).length
  | .tx n x, a, h => by
    have hn := h n (by simp [numN])
    have i := sh_int (i := n) (by omega) hn.2
    have a : (reprText x).length ≤ 20 := a
    have rt := r_text
    simp only [enN]
    refine ⟨?_, rfl, ?_⟩
    · show (true && (PyData.showable (.int n) && (true && true))) = true
      rw [i.sh]
      rfl
    · show (tupleText [reprText "text", PyData.shown (.int n), reprText x]).length + 2 ≤ _
      have := tupText_le [reprText "text", PyData.shown (.int n), reprText x]
      simp only [piled, List.map_cons, List.map_nil, List.sum_cons, List.sum_nil] at this
      have := i.ln
      simp only [numN, List.length_singleton]
      omega
  | .el n t as ks, a, h => by
    have hn := h n (by simp [numN])
    have i := sh_int (i := n) (by omega) hn.2
    simp only [AllD] at a
    obtain ⟨⟨a1, a2, _, a4⟩, a5⟩ := a
    obtain ⟨k1, k2, k3⟩ := shn_S hj ks a5 fun m hm => h m (by simp only [numN, List.mem_cons]; exact .inr hm)
    obtain ⟨p1, p2, p3⟩ := sh_pairs (Nat.le_refl _) a4
    have re := r_elem
    simp only [enN]
    refine ⟨?_, ?_, ?_⟩
    · show (true && (PyData.showable (.int n) && (true && (PyData.showableAll (as.map pairP) && (PyData.showableAll (enS ks) && true))))) = true
      rw [i.sh, p1, k1]
      rfl
    · show (false || (false || (false || (PyData.hasDictAll (as.map pairP) || (PyData.hasDictAll (enS ks) || false))))) = false
      rw [p2, k2]
      rfl
    · show (tupleText [reprText "element", PyData.shown (.int n), reprText t, tupleText (PyData.shownAll (as.map pairP)), tupleText (PyData.shownAll (enS ks))]).length + 2 ≤ _
      have e1 := tupText_le [reprText "element", PyData.shown (.int n), reprText t, tupleText (PyData.shownAll (as.map pairP)), tupleText (PyData.shownAll (enS ks))]
      have e2 := tupText_le (PyData.shownAll (as.map pairP))
      have e3 := tupText_le (PyData.shownAll (enS ks))
      simp only [piled, List.map_cons, List.map_nil, List.sum_cons, List.sum_nil] at e1
      have e4 := i.ln
      have e5 : piled (PyData.shownAll (as.map pairP)) = ((PyData.shownAll (as.map pairP)).map fun t => t.length + 2).sum := rfl
      have e6 : piled (PyData.shownAll (enS ks)) = ((PyData.shownAll (enS ks)).map fun t => t.length + 2).sum := rfl
      simp only [numN, List.length_cons]
      omega
theorem shn_S {j : Nat} (hj : j ≤ 20) : ∀ ks : List Dn, AllS (ShJ j) ks → (∀ n ∈ numS ks, 1 ≤ n ∧ n < 10 ^ 7) → PyData.showableAll (enS ks) = true ∧ PyData.hasDictAll (enS ks) = false ∧ piled (PyData.shownAll (enS ks)) ≤ 3000 * (numS ks).length
  | [], _, _ => by simp only [enS]; exact ⟨rfl, rfl, by simp [PyData.shownAll, piled]⟩
  | d :: r, a, h => by
    simp only [AllS] at a
    obtain ⟨d1, d2, d3⟩ := shn_N hj d a.1 fun m hm => h m (by simp only [numS, List.mem_append]; exact .inl hm)
    obtain ⟨r1, r2, r3⟩ := shn_S hj r a.2 fun m hm => h m (by simp only [numS, List.mem_append]; exact .inr hm)
    simp only [enS]
    refine ⟨?_, ?_, ?_⟩
    · show (PyData.showable (enN d) && PyData.showableAll (enS r)) = true
      rw [d1, r1]
      rfl
    · show (PyData.hasDict (enN d) || PyData.hasDictAll (enS r)) = false
      rw [d2, r2]
      rfl
    · have e2 : piled (PyData.shownAll (enN d :: enS r)) = (PyData.shown (enN d)).length + 2 + piled (PyData.shownAll (enS r)) := by simp [PyData.shownAll, piled]
      rw [e2]
      simp only [numS, List.length_append]
      omega
end
end VL

set_option Elab.async false
set_option linter.all false
set_option pp.maxSteps 700
set_option maxRecDepth 100000
set_option maxHeartbeats 4000000
namespace VL
open PySem PySem.Spec PyProof.Rows L2 S2S
/-! a heap but for one list -/
def rmH (ma : Addr) (H : Hp) : Hp := fun b => if b = ma then none else H b
theorem rmH_ne {ma b : Addr} {H : Hp} (h : b ≠ ma) : rmH ma H b = H b := if_neg h
theorem rm_sb {G H : Hp} {ma : Addr} {o : HO} (S : Sb G H [(ma, o)]) : Sb (rmH ma H) H [(ma, o)] ∧ Same G (rmH ma H) := by
  have g0 : G ma = none := (S.m (ma, o) List.mem_cons_self).1
  refine ⟨⟨fun b u e => ?_, fun p hp => ?_, S.nd⟩, fun b u e => ?_⟩
  · unfold rmH at e
    split at e
    · cases e
    · exact e
  · rw [List.mem_singleton.mp hp]
    exact ⟨if_pos rfl, S.hd⟩
  · rw [rmH_ne (fun z => by rw [z, g0] at e; cases e)]
    exact S.s _ _ e
section
variable {H : Hp} {ma : Addr} {us : List V} (hm : H ma = some (.lst us))
include hm
theorem rm_tup {b : Addr} {xs : List V} (h : H b = some (.tup xs)) : rmH ma H b = some (.tup xs) := by
  rw [rmH_ne (fun z => by rw [z, hm] at h; cases h)]
  exact h
theorem rm_frz {b : Addr} {o : Obj} {u : HO} (h : H b = some (.frz o u)) : rmH ma H b = some (.frz o u) := by
  rw [rmH_ne (fun z => by rw [z, hm] at h; cases h)]
  exact h
theorem AtA.rm {v : V} {as : List (Str × Str)} (h : AtA H v as) : AtA (rmH ma H) v as := by
  obtain ⟨a, o, ps, rfl, h1, h2, h3⟩ := h
  exact ⟨a, o, ps, rfl, rm_frz hm h1, h2, Paired.mono (fun _ _ z => rm_tup hm z) h3⟩
mutual
theorem NdA.rm : ∀ {v : V} {d : Dn}, NdA H v d → NdA (rmH ma H) v d
  | _, _, .tx h => .tx (rm_tup hm h)
  | _, _, .el h ha hk hs => .el (rm_tup hm h) (ha.rm hm) (rm_tup hm hk) (NdAs.rm hs)
theorem NdAs.rm : ∀ {vs : List V} {ds : List Dn}, NdAs H vs ds → NdAs (rmH ma H) vs ds
  | _, _, .nil => .nil
  | _, _, .cons a b => .cons (NdA.rm a) (NdAs.rm b)
end
theorem TupD.rm {p : Addr} {kk : List Dn} (h : TupD H p kk) : TupD (rmH ma H) p kk := by
  obtain ⟨xs, h1, h2⟩ := h
  exact ⟨xs, rm_tup hm h1, NdAs.rm hm h2⟩
end
theorem wkD_ex {ks kk : List Dn} {p : Int} (hk : kidsD ks p = some kk) (kk2 : List Dn) : ∃ ks2, wkD ks p kk2 ks2 := by
  unfold kidsD at hk
  split at hk
  · rename_i h
    exact ⟨kk2, .inl ⟨h, rfl⟩⟩
  · rename_i hp
    split at hk
    · rename_i lv n t as kk' ef
      obtain ⟨f1, f2⟩ := findD_in ef
      have f1 : n = p := f1
      obtain ⟨ks2, h2⟩ := Option.isSome_iff_exists.mp (wnS_in (d := .el n t as kk2) (ks := ks) (by rw [show (Dn.el n t as kk2).num = p from f1]; exact f2))
      exact ⟨ks2, .inr ⟨hp, lv, n, t, as, _, ef, h2⟩⟩
    · cases hk
theorem chg_ex {ks : List Dn} {o : OpD} (nf : faultD ks o = none) : ∃ ks2, chgR ks o ks2 := by
  cases o with
  | rem p n =>
    cases hk : kidsD ks p with
    | none =>
      simp only [faultD, hk] at nf
      cases nf
    | some kk =>
      obtain ⟨ks2, h⟩ := wkD_ex hk (kk.filter fun d => decide (d.num ≠ n))
      exact ⟨ks2, kk, hk, h⟩
  | ins p d ah =>
    cases hk : kidsD ks p with
    | none =>
      simp only [faultD, hk] at nf
      cases nf
    | some kk =>
      have hp : isPl kk ah = true := by
        simp only [faultD, hk] at nf
        cases hh : isPl kk ah with
        | true => rfl
        | false =>
          rw [hh] at nf
          split at nf <;> simp at nf
      obtain ⟨i, hi⟩ := plc_of hp
      obtain ⟨ks2, h⟩ := wkD_ex hk (putD kk d i)
      exact ⟨ks2, kk, i, hk, hi, h⟩
  | mov p n ah =>
    cases hk : kidsD ks p with
    | none =>
      simp only [faultD, hk] at nf
      cases nf
    | some kk =>
      obtain ⟨n1, n2, n3⟩ : (placeD kk n).isSome = true ∧ ah ≠ some n ∧ isPl kk ah = true := by
        simp only [faultD, hk] at nf
        split at nf
        · assumption
        · cases nf
      obtain ⟨j, hj⟩ := Option.isSome_iff_exists.mp n1
      obtain ⟨m, hm, _⟩ := place_lt hj
      obtain ⟨i, hi⟩ := plc_of (plc_filter n3 n2)
      obtain ⟨ks2, h⟩ := wkD_ex hk (putD (kk.filter fun d => decide (d.num ≠ n)) m i)
      exact ⟨ks2, kk, j, m, i, hk, hj, hm, hi, h⟩
  | txt n x =>
    simp only [faultD] at nf
    split at nf
    · rename_i lv m y ef
      obtain ⟨f1, f2⟩ := findD_in ef
      obtain ⟨ks2, h2⟩ := Option.isSome_iff_exists.mp (wnS_in (d := .tx n x) (ks := ks) f2)
      exact ⟨ks2, h2⟩
    · cases nf
  | set n k x =>
    simp only [faultD] at nf
    split at nf
    · rename_i lv m t as kk ef
      obtain ⟨f1, f2⟩ := findD_in ef
      have f1 : m = n := f1
      subst f1
      obtain ⟨ks2, h2⟩ := Option.isSome_iff_exists.mp (wnS_in (d := .el m t (srtP (putP as k x)) kk) (ks := ks) f2)
      exact ⟨ks2, lv, t, as, kk, _, ef, srtP_perm _, srtP_srtd _, h2⟩
    · cases nf
  | uns n k =>
    simp only [faultD] at nf
    split at nf
    · rename_i lv m t as kk ef
      obtain ⟨f1, f2⟩ := findD_in ef
      have f1 : m = n := f1
      subst f1
      obtain ⟨ks2, h2⟩ := Option.isSome_iff_exists.mp (wnS_in (d := .el m t (srtP (as.filter fun p => decide (p.1 ≠ k))) kk) (ks := ks) f2)
      exact ⟨ks2, lv, t, as, kk, _, ef, srtP_perm _, srtP_srtd _, h2⟩
    · cases nf
theorem good_opD {j : Nat} {ks : List Dn} {o : OpD} (g : Good j ks) (ok : OpOk ks o) (nf : faultD ks o = none) : Good (j + 1) (opD ks o) := by
  obtain ⟨ks2, h⟩ := chg_ex nf
  rw [← chg_eq g.doc nf h]
  exact good_step g ok nf h
theorem Good.mono {j : Nat} {ks : List Dn} (g : Good j ks) : Good (j + 1) ks := ⟨g.nd, fun n hn => by have := g.nb n hn; push_cast; omega, AllS_imp ShJ.mono g.sh, by have := g.h; omega, by have := g.len; omega⟩
theorem Good.fit {j : Nat} {ks : List Dn} (g : Good j ks) (hj : j ≤ 8) : FitD ks := ⟨by have := g.h; omega, by have := g.len; omega, g.doc, g.names (by omega)⟩
theorem OpOk.io {ks : List Dn} {o : OpD} (h : OpOk ks o) : insOk o := fun p d ah e => by
  subst e
  cases h with
  | ins _ _ _ h4 _ _ _ => exact Nat.le_trans h4.length_le (show 4 ≤ 100 by decide)
theorem run_snoc : ∀ {os : List OpD} {ks : List Dn} {o : OpD}, RunOk ks os → FitD (os.foldl opD ks) → insOk o → faultD (os.foldl opD ks) o = none → RunOk ks (os ++ [o])
  | [], ks, o, _, h1, h2, h3 => ⟨h1, h2, h3, trivial⟩
  | p :: os, ks, o, ⟨a, b, c, d⟩, h1, h2, h3 => ⟨a, b, c, run_snoc d h1 h2 h3⟩
end VL

set_option Elab.async false
set_option linter.all false
set_option pp.maxSteps 900
set_option maxRecDepth 100000
set_option maxHeartbeats 4000000
namespace VL
open PySem PySem.Spec PyProof.Rows L2 S2S
def spLaw (K : PySem.W.Frag) : Sp := fun vs H Q _ => ∃ (a : Addr) (ns : List Int), vs = [.ref a] ∧ SqL K H a (ns.map V.int) ∧ ns.length ≤ 63 ∧ ∀ H', Q (.bl true) H'
theorem sql_same {K : PySem.W.Frag} {H H' : Hp} {a : Addr} {xs : List V} (h : SqL K H a xs) (s : Same H H') : SqL K H' a xs := by
  rcases h with (h | ⟨o, h⟩) | h
  · exact .inl (.inl (s _ _ h))
  · exact .inl (.inr ⟨o, s _ _ h⟩)
  · exact .inr h
def ahE : Option Int → PyData
  | none => .none
  | some m => .int m
def encO : OpD → PyData
  | .rem p n => .tuple [.str "remove", .int p, .int n]
  | .ins p d ah => .tuple [.str "insert", .int p, enN d, ahE ah]
  | .mov p n ah => .tuple [.str "move", .int p, .int n, ahE ah]
  | .txt n x => .tuple [.str "text", .int n, .str x]
  | .set n k x => .tuple [.str "set", .int n, .str k, .str x]
  | .uns n k => .tuple [.str "unset", .int n, .str k]
theorem dp_ah {K : PySem.W.Frag} {H : Hp} (ah : Option Int) : Dp K H (intV ah) (ahE ah) := by
  cases ah with
  | none => exact .non
  | some m => exact .int m
theorem dp_O {K : PySem.W.Frag} {H : Hp} {u : V} {o : OpD} (h : OpA H u o) : Dp K H u (encO o) := by
  cases h with
  | rem h => exact .tup (SqT.of h) (.cons (.str _) (.cons (.int _) (.cons (.int _) .nil)))
  | ins h hd => exact .tup (SqT.of h) (.cons (.str _) (.cons (.int _) (.cons (dp_N hd) (.cons (dp_ah _) .nil))))
  | mov h => exact .tup (SqT.of h) (.cons (.str _) (.cons (.int _) (.cons (.int _) (.cons (dp_ah _) .nil))))
  | txt h => exact .tup (SqT.of h) (.cons (.str _) (.cons (.int _) (.cons (.str _) .nil)))
  | set h => exact .tup (SqT.of h) (.cons (.str _) (.cons (.int _) (.cons (.str _) (.cons (.str _) .nil))))
  | uns h => exact .tup (SqT.of h) (.cons (.str _) (.cons (.int _) (.cons (.str _) .nil)))
/-- what may be shown -/
structure ShD (c k : Nat) (d : PyData) : Prop where
  sm : Small c k d
  hd : PyData.hasDict d = false
theorem ShD.mono {c c' k k' : Nat} {d : PyData} (h : ShD c k d) (h1 : c ≤ c') (h2 : k ≤ k') : ShD c' k' d := ⟨h.sm.mono h1 h2, h.hd⟩
theorem shd_tup {c k n : Nat} {ds : List PyData} (h : ∀ d ∈ ds, ShD c k d) (hl : ds.length ≤ n) : ShD (3 + n * (c + 2)) (k + 1) (.tuple ds) := by
  refine ⟨small_tup (fun d hd => (h d hd).sm) hl, ?_⟩
  show PyData.hasDictAll ds = false
  clear hl
  induction ds with
  | nil => rfl
  | cons d ds ih =>
    show (PyData.hasDict d || PyData.hasDictAll ds) = false
    rw [(h d List.mem_cons_self).hd, ih fun e he => h e (List.mem_cons_of_mem _ he)]
    rfl
theorem shd_i {n : Int} (h0 : 0 ≤ n) (h1 : n < 10 ^ 7) : ShD 20000 20 (.int n) := ⟨(sh_int h0 h1).mono (by decide) (by decide), rfl⟩
theorem shd_x {x : Str} (h : (reprText x).length ≤ 20) : ShD 20000 20 (.str x) := ⟨⟨rfl, Nat.zero_le _, Nat.le_trans h (by decide)⟩, rfl⟩
theorem shd_ah {ah : Option Int} (h : ∀ m, ah = some m → 0 ≤ m ∧ m < 10 ^ 7) : ShD 20000 20 (ahE ah) := by
  cases ah with
  | none => exact ⟨⟨rfl, Nat.zero_le _, by decide +kernel⟩, rfl⟩
  | some m => exact shd_i (h m rfl).1 (h m rfl).2
theorem inD_b {j : Nat} {ks : List Dn} {n : Int} (g : Good j ks) (hj : j ≤ 20) (h : inD ks n) : 0 ≤ n ∧ n < 10 ^ 7 := by
  rcases h with h | rfl | rfl
  · have := g.nb n h
    omega
  · decide
  · decide
theorem shd_O {j : Nat} {ks : List Dn} {o : OpD} (g : Good j ks) (hj : j ≤ 20) (h : OpOk ks o) : ShD 100100 21 (encO o) := by
  have go : ∀ ds : List PyData, (∀ d ∈ ds, ShD 20000 20 d) → ds.length ≤ 4 → ShD 100100 21 (.tuple ds) := fun ds h hl => (shd_tup h hl).mono (by decide) (Nat.le_refl _)
  cases h with
  | @rem p n h1 h2 =>
    refine go _ (fun d hd => ?_) (by show 3 ≤ 4; decide)
    have b1 := inD_b g hj h1
    have b2 := inD_b g hj h2
    simp only [List.mem_cons, List.not_mem_nil, or_false] at hd
    rcases hd with rfl | rfl | rfl
    · exact shd_x (by decide +kernel)
    · exact shd_i b1.1 b1.2
    · exact shd_i b2.1 b2.2
  | @ins p d ah f h1 h2 h3 h4 h5 h6 h7 =>
    refine go _ (fun d hd => ?_) (by show 4 ≤ 4; decide)
    have b1 := inD_b g hj h1
    simp only [List.mem_cons, List.not_mem_nil, or_false] at hd
    rcases hd with rfl | rfl | rfl | rfl
    · exact shd_x (by decide +kernel)
    · exact shd_i b1.1 b1.2
    · have hf : f ≤ 10000 := by
        obtain ⟨m, hm, hf⟩ := h6
        rcases hm with (hm | hm | hm) | hm
        · have := (g.nb m hm).2
          omega
        · omega
        · omega
        · omega
      obtain ⟨s1, s2, s3⟩ := shn_N (j := 0) (by decide) _ (AllD_imp (NamOk.sh (j := 0)) h2) (fun x hx => by
        have := h4.subset hx
        simp only [List.mem_cons, List.not_mem_nil, or_false] at this
        omega)
      have l4 := h4.length_le
      have dp := dpt_N ‹Dn›
      have l4 : (numN ‹Dn›).length ≤ 4 := l4
      exact ⟨⟨s1, by omega, by omega⟩, s2⟩
    · exact shd_ah fun m hm => inD_b g hj (h7 m hm)
  | @mov p n ah h1 h2 h3 =>
    refine go _ (fun d hd => ?_) (by show 4 ≤ 4; decide)
    have b1 := inD_b g hj h1
    have b2 := inD_b g hj h2
    simp only [List.mem_cons, List.not_mem_nil, or_false] at hd
    rcases hd with rfl | rfl | rfl | rfl
    · exact shd_x (by decide +kernel)
    · exact shd_i b1.1 b1.2
    · exact shd_i b2.1 b2.2
    · exact shd_ah fun m hm => inD_b g hj (h3 m hm)
  | @txt n x h1 h2 =>
    refine go _ (fun d hd => ?_) (by show 3 ≤ 4; decide)
    have b1 := inD_b g hj h1
    simp only [List.mem_cons, List.not_mem_nil, or_false] at hd
    rcases hd with rfl | rfl | rfl
    · exact shd_x (by decide +kernel)
    · exact shd_i b1.1 b1.2
    · exact shd_x h2
  | @set n k x h1 h2 h3 =>
    refine go _ (fun d hd => ?_) (by show 4 ≤ 4; decide)
    have b1 := inD_b g hj h1
    simp only [List.mem_cons, List.not_mem_nil, or_false] at hd
    rcases hd with rfl | rfl | rfl | rfl
    · exact shd_x (by decide +kernel)
    · exact shd_i b1.1 b1.2
    · simp only [List.mem_cons, List.not_mem_nil, or_false] at h2
      rcases h2 with rfl | rfl | rfl <;> exact shd_x (by decide +kernel)
    · exact shd_x h3
  | @uns n k h1 h2 =>
    refine go _ (fun d hd => ?_) (by show 3 ≤ 4; decide)
    have b1 := inD_b g hj h1
    simp only [List.mem_cons, List.not_mem_nil, or_false] at hd
    rcases hd with rfl | rfl | rfl
    · exact shd_x (by decide +kernel)
    · exact shd_i b1.1 b1.2
    · simp only [List.mem_cons, List.not_mem_nil, or_false] at h2
      rcases h2 with rfl | rfl | rfl <;> exact shd_x (by decide +kernel)
theorem shd_ks {j : Nat} {ks : List Dn} (g : Good j ks) (hj : j ≤ 10) : ShD 400000 100 (.tuple (enS ks)) := by
  obtain ⟨s1, s2, s3⟩ := shn_S (j := j) (by omega) ks g.sh fun n hn => by
    have := g.nb n hn
    omega
  have l := g.len
  have h := g.h
  have dp := dpt_S ks
  have tl := tupText_le (PyData.shownAll (enS ks))
  refine ⟨⟨s1, ?_, ?_⟩, s2⟩
  · show PyData.depthAll (enS ks) + 1 ≤ 100
    omega
  · show (tupleText (PyData.shownAll (enS ks))).length ≤ _
    omega
/-- what the law shows: the document beside the operation -/
def encK (ks : List Dn) (o : OpD) : PyData := .list [.tuple (enS ks), encO o]
theorem shd_K {j : Nat} {ks : List Dn} {o : OpD} (g : Good j ks) (hj : j ≤ 10) (h : OpOk ks o) : PyData.showable (encK ks o) = true ∧ PyData.hasDict (encK ks o) = false ∧ PyData.depth (encK ks o) ≤ 180 ∧ (PyData.shown (encK ks o)).length ≤ sizeLine := by
  have h1 := shd_ks g hj
  have h2 := (shd_O g (by omega) h).mono (show 100100 ≤ 400000 by decide) (show 21 ≤ 100 by decide)
  have sm := small_list (ds := [.tuple (enS ks), encO o]) (n := 2) (c := 400000) (k := 100) (fun d hd => by
    simp only [List.mem_cons, List.not_mem_nil, or_false] at hd
    rcases hd with rfl | rfl
    · exact h1.sm
    · exact h2.sm) (by show 2 ≤ 2; decide)
  refine ⟨sm.sh, ?_, Nat.le_trans sm.dp (by decide), Nat.le_trans sm.ln (by decide)⟩
  show (PyData.hasDict (.tuple (enS ks)) || (PyData.hasDict (encO o) || false)) = false
  rw [h1.hd, h2.hd]
  rfl
section
variable {P : Program} {w : World} {K : PySem.W.Frag} {mg : Str → Option Value} {base : Heap} {C : Ad}
theorem sc_law : FnScope ["script", "k", "state", "document", "made", "first", "j", "turn", "operation", "kept", "due", "told"] ["script"] (defScope s_law) := ⟨rfl, rfl, rfl, by decide +kernel, rfl, by decide +kernel, by decide +kernel⟩
theorem ok_law {f : Addr} {fd : FuncData} (F : Fun K "law" "law" s_law f fd) (T : Txt K w mg C) : FnG P w K mg base 100 f fd ["script"] (spLaw K) := by
  have G_law_cell := ok_cell (P := P) (base := base) T
  have G_law_start := ok_start (P := P) (base := base) T
  have G_law_digit := ok_dig (P := P) (base := base) T
  have G_law_document := ok_ldoc (P := P) (base := base) T
  have G_law_deed := ok_deed (P := P) (base := base) T
  have Gfault_of := ok_fault (P := P) (base := base) T
  have G_law_list_of := ll_N (P := P) (base := base) T 40
  have Gapply_operation := ok_one (P := P) (base := base) T
  have Gapply_all := ok_all (P := P) (base := base) T
  refine fnG_of F sc_law (fun vs H Q E h => ?_) (fun cdv A outer s H vs Q E gd hr h => ?_)
  · obtain ⟨a, ns, rfl, _⟩ := h
    rfl
  · obtain ⟨sa, ns, rfl, hS, hlen, kq⟩ := h
    have big : 10000000 < sizeLine := by decide
    refine ⟨_, (pss_cons (ps_for PassesOwn.never rfl (pi_range1 (by rfl) T.z_range (pa_cons (pe_callB (call_min2 rfl) (by rfl) T.z_min (by decide +kernel) (pa_cons pe_int (pa_cons (pe_callB (call_max2 rfl) (by rfl) T.z_max (by decide +kernel) (pa_cons pe_int (pa_cons (pe_callB call_len_seq (by rfl) T.z_len PySem.boot_len (pa_cons (pv 0) pa_nil)) pa_nil))) pa_nil))) pa_nil)) (pg_name (i := 1) sc_law.nd rfl (Or.inl rfl)) (pss_cons (ps_set (i := 2) sc_law.nd rfl (Or.inl rfl) (pe_c G_law_start hr (by decide) (by rfl) (pa_cons (pe_c G_law_cell hr (by decide) (by rfl) (pa_cons (pv 0) (pa_cons (pv 1) pa_nil))) (pa_cons (pv 1) pa_nil)))) (pss_cons (ps_set (i := 3) sc_law.nd rfl (Or.inl rfl) (pe_c G_law_document hr (by decide) (by rfl) (pa_cons (pv 2) (pa_cons (pe_op op_add pe_int (pe_c G_law_digit hr (by decide) (by rfl) (pa_cons (pv 2) (pa_cons pe_int pa_nil)))) (pa_cons (pe_op op_add pe_int (pe_c G_law_digit hr (by decide) (by rfl) (pa_cons (pv 2) (pa_cons pe_int pa_nil)))) pa_nil))))) (pss_cons (ps_set (i := 4) sc_law.nd rfl (Or.inl rfl) (pe_lst pa_nil)) (pss_cons (ps_set (i := 5) sc_law.nd rfl (Or.inl rfl) (pv 3)) (pss_cons (ps_for PassesOwn.never rfl (pi_range1 (by rfl) T.z_range (pa_cons pe_int pa_nil)) (pg_name (i := 6) sc_law.nd rfl (Or.inl rfl)) (pss_cons (ps_set (i := 7) sc_law.nd rfl (Or.inl rfl) (pe_c G_law_start hr (by decide) (by rfl) (pa_cons (pe_op op_add (pe_c G_law_cell hr (by decide) (by rfl) (pa_cons (pv 0) (pa_cons (pv 1) pa_nil))) (pv 6)) (pa_cons (pe_op op_add (pv 1) (pe_op op_mul pe_int (pv 6))) pa_nil)))) (pss_cons (ps_set (i := 8) sc_law.nd rfl (Or.inl rfl) (pe_c G_law_deed hr (by decide) (by rfl) (pa_cons (pv 7) (pa_cons (pv 3) pa_nil)))) (pss_cons (ps_set (i := 9) sc_law.nd rfl (Or.inl rfl) (pe_callB (call_repW rfl gd (u190 hr)) (by rfl) T.z_repr (by decide +kernel) (pa_cons (pe_lst (pa_cons (pv 3) (pa_cons (pv 8) pa_nil))) pa_nil))) (pss_one (ps_if (pt_cmp (pc_isN (pe_c Gfault_of hr (by decide) (by rfl) (pa_cons (pv 3) (pa_cons (pv 8) pa_nil))))) (pss_cons (ps_set (i := 10) sc_law.nd rfl (Or.inl rfl) (pe_callTy call_tuple_of (by rfl) T.z_tuple (by decide +kernel) (pa_cons (pe_c G_law_list_of hr (by decide) (by rfl) (pa_cons (pv 3) (pa_cons (pv 8) (pa_cons pe_int pa_nil)))) pa_nil))) (pss_cons (ps_set (i := 11) sc_law.nd rfl (Or.inl rfl) (pe_c Gapply_operation hr (by decide) (by rfl) (pa_cons (pv 3) (pa_cons (pv 8) pa_nil)))) (pss_cons (ps_if (PW.pt (pw_or (pt_cmpR (op_neW rfl (u190 hr)) (pv 11) (pv 10) (nomark _)) (pw_or1 (pt_cmpR op_ne (pe_callB (call_repW rfl gd (u190 hr)) (by rfl) T.z_repr (by decide +kernel) (pa_cons (pe_lst (pa_cons (pv 3) (pa_cons (pv 8) pa_nil))) pa_nil)) (pv 9) (nomark _))))) (pss_one (ps_ret pe_bl)) pss_nil) (pss_cons (ps_expr (pe_bm PySem.F.plainAttrs_list PySem.F.slot_list_append PySem.F.type_list_append mt_append (pv 4) (pa_cons (pv 8) pa_nil))) (pss_one (ps_set (i := 3) sc_law.nd rfl (Or.inl rfl) (pv 11))))))) pss_nil)))))) (pss_one (ps_if (PW.pt (pw_or (pt_cmpR (op_neW rfl (u190 hr)) (pe_c Gapply_all hr (by decide) (by rfl) (pa_cons (pv 5) (pa_cons (pv 4) pa_nil))) (pv 3) (nomark _)) (pw_or1 (pt_cmpR (op_neW rfl (u190 hr)) (pe_c Gapply_all hr (by decide) (by rfl) (pa_cons (pv 3) (pa_cons (pe_lst pa_nil) pa_nil))) (pv 3) (nomark _))))) (pss_one (ps_ret pe_bl)) pss_nil)))))))) (pss_one (ps_ret pe_bl))), ?_⟩
    refine ⟨_, rfl, sa, _, rfl, .inl hS, _, _, rfl, _, _, rfl, ?_⟩
    have hl2 : (ns.map V.int).length = ns.length := List.length_map _
    refine ⟨_, rfl, ?_, ?_, ?_⟩
    · show -2 ^ 62 ≤ (if _ < _ then _ else _ : Int)
      repeat' split
      all_goals omega
    · show (if _ < _ then _ else _ : Int) < 2 ^ 62
      repeat' split
      all_goals omega
    refine for_range (lo := 0) (n := _) (fun i σ H' => ∃ y1 y2 y3 y4 y5 y6 y7 y8 y9 ya yb : Option V, Same H H' ∧ σ = [some (.ref sa), y1, y2, y3, y4, y5, y6, y7, y8, y9, ya, yb]) ⟨_, _, _, _, _, _, _, _, _, _, _, Same.refl _, rfl⟩ ?_ ?_
    · rintro ii σ Ha hi ⟨y1, y2, y3, y4, y5, y6, y7, y8, y9, ya, yb, sH, rfl⟩
      have hSa := sql_same hS sH
      refine ⟨_, rfl, _, rfl, sa, ns, ii, by rw [Int.zero_add]; rfl, hSa, fun c => ⟨_, rfl, c, _, rfl, fun sp s hsp => ?_⟩⟩
      have S1 : Sb Ha (upd Ha sp (.lst [.int s])) [(sp, .lst [.int s])] := Sb.nil.add hsp
      refine ⟨_, rfl, _, rfl, sp, s, 16, rfl, S1.hd, by decide, by decide, fun z s2 z0 z1 => ?_⟩
      have S2 := S1.put (u := .lst [.int s2])
      obtain ⟨zn, rfl⟩ := Int.eq_ofNat_of_zero_le z0
      refine ⟨_, _, rfl, rfl, _, rfl, sp, s2, 4, rfl, S2.hd, by decide, by decide, fun y s3 y0 y1 => ?_⟩
      have S3 := S2.put (u := .lst [.int s3])
      obtain ⟨yn, rfl⟩ := Int.eq_ofNat_of_zero_le y0
      refine ⟨_, _, rfl, rfl, sp, s3, 1 + zn, 1 + yn, Ha, [], by rw [show ((1 + zn : Nat) : Int) = 1 + (zn : Int) by omega, show ((1 + yn : Nat) : Int) = 1 + (yn : Int) by omega]; rfl, by omega, by omega, S3, fun fa xs ks s4 G4 H4 S4 g4 hp nk ak bk nd nb nl => ?_⟩
      obtain ⟨S5, g5⟩ := S4.drop
      have g05 := Same.trans g4 g5
      have ht5 : TupD (upd G4 sp (.lst [.int s4])) fa ks := ⟨xs, g5 _ _ hp, nk.same g5⟩
      generalize upd G4 sp (.lst [.int s4]) = G5 at S5 g5 g05 ht5
      have gd0 : Good 0 ks := good_0 nd (fun x hx => by have := nb x hx; omega) ak (by have := hS_dS ks; omega) (by omega)
      refine ⟨by show 0 ≤ sizeLine; decide, fun ma hma => ?_⟩
      have S6 := S5.add (o := .lst []) hma
      refine ⟨_, rfl, ?_⟩
      refine ⟨_, rfl, by decide, by decide, ?_⟩
      refine for_range (lo := 0) (n := 8) (fun j σ H' => ∃ (da : Addr) (KS : List Dn) (os : List OpD) (us : List V) (G' : Hp) (z6 z7 z8 z9 za zb : Option V), Sb G' H' [(ma, .lst us)] ∧ Same G5 G' ∧ TupD G' da KS ∧ Paired (OpA G') us os ∧ os.length ≤ j ∧ RunOk ks os ∧ os.foldl opD ks = KS ∧ Good j KS ∧
        σ = [some (.ref sa), some (.int (0 + (ii : Nat))), some (.ref sp), some (.ref da), some (.ref ma), some (.ref fa), z6, z7, z8, z9, za, zb]) ⟨fa, ks, [], [], G5, _, _, _, _, _, _, S6, Same.refl _, ht5, .nil, Nat.le_refl _, trivial, rfl, gd0, rfl⟩ ?_ ?_
      · rintro j σ H7 hj ⟨da, KS, os, us, G', z6, z7, z8, z9, za, zb, S7, g7, hda, hos, ol, ro, fo, gd, rfl⟩
        have hj8 : j < 8 := hj
        have ul := Paired.length hos
        have hS7 := sql_same (sql_same hSa (Same.trans g05 g7)) S7.s
        refine ⟨_, rfl, _, rfl, sa, ns, ii, by rw [Int.zero_add]; rfl, hS7, fun c => ⟨_, rfl, _, _, rfl, rfl, _, rfl, _, rfl, _, _, rfl, rfl, .inl ⟨by decide, by decide⟩, _, _, rfl, rfl, _, _, rfl, fun tp s8 htp => ?_⟩⟩
        have S8 := S7.add (o := .lst [.int s8]) htp
        obtain ⟨dxs, hd1, hd2⟩ := id hda
        have hh := gd.h
        have hn := gd.len
        refine ⟨_, rfl, _, rfl, tp, da, s8, dxs, KS, G', _, rfl, S8, ⟨hd1, hd2, by omega, by omega⟩, by omega, fun u o s9 G9 H9 S9 g9 ho ok => ?_⟩
        obtain ⟨S10, g10⟩ := S9.drop
        have g710 := Same.trans g9 g10
        have hda10 := hda.same g710
        have ho10 := ho.same g10
        have hos10 := OpA.sames g710 hos
        generalize upd G9 tp (.lst [.int s9]) = G10 at S10 g10 g710 hda10 ho10 hos10
        clear S9 g9 ho hd1 hd2 dxs hda hos g10
        obtain ⟨sk1, sk2, sk3, sk4⟩ := shd_K gd (by omega) ok
        obtain ⟨TX, hTX⟩ : ∃ TX, PyData.shown (encK KS o) = TX := ⟨_, rfl⟩
        have dpK : ∀ {H : Hp} {l : Addr}, Same G10 H → H l = some (.lst [.ref da, u]) → Dp K H (.ref l) (encK KS o) := fun {H l} s hl => by
          obtain ⟨dxs, hd1, hd2⟩ := hda10.same s
          exact .lst (SqL.of hl) (.cons (.tup (SqT.of hd1) (dp_S hd2)) (.cons (dp_O (ho10.same s)) .nil))
        refine ⟨_, rfl, _, rfl, by show 2 ≤ sizeLine; decide, fun l hl => ?_⟩
        have S11 := S10.alloc (o := .lst [.ref da, u]) hl
        have g11 := S10.grow (o := .lst [.ref da, u]) hl
        refine ⟨l, encK KS o, rfl, dpK (Same.trans g11 S11.s) upd_same, sk1, sk2, sk3, sk4, ?_⟩
        rw [hTX]
        have hda11 := hda10.same g11
        have ho11 := ho10.same g11
        have hos11 := OpA.sames g11 hos10
        have g511 := Same.trans g7 (Same.trans g710 g11)
        have g1011 := g11
        show tSeq _ _ _ _ (upd H9 l (.lst [.ref da, u]))
        generalize upd H9 l (.lst [.ref da, u]) = H11 at S11 ⊢
        generalize upd G10 l (.lst [.ref da, u]) = G11 at S11 g11 hda11 ho11 hos11 g511 g1011
        have fit := gd.fit (by omega)
        have hda11' := hda11.same S11.s
        refine ⟨_, rfl, _, rfl, .ref da, u, KS, o, rfl, DocA.of hda11' fit.2.1, ho11.same S11.s, ok.io, (fun p hp => (fit.2.2.2 p hp).2), fun H12 s12 => ?_⟩
        obtain ⟨S12, g12'⟩ := rm_sb (S11.call s12)
        have g12 : Same G11 (rmH ma H12) := Same.trans joinH_l g12'
        clear g12'
        generalize rmH ma H12 = G12 at S12 g12
        have hda12 := hda11.same g12
        have ho12 := ho11.same g12
        have hos12 := OpA.sames g12 hos11
        have g512 := Same.trans g511 g12
        have g1012 := Same.trans g1011 g12
        cases hf : faultD KS o with
        | some x => exact ⟨_, rfl, ite2 (fun c => absurd (of_decide_eq_true c) (fun z => by cases z)) (fun _ => ⟨da, KS, os, us, G12, _, _, _, _, _, _, S12, g512, hda12, hos12, by omega, ro, fo, gd.mono, rfl⟩)⟩
        | none =>
          refine ⟨_, rfl, ite2 (fun _ => ?_) (fun c => absurd (decide_eq_true rfl) c)⟩
          have gd1 := good_opD gd ok hf
          obtain ⟨okf, oks⟩ := ok_of fit.2.2.1 hf (fun p hp => (fit.2.2.2 p hp).2)
          obtain ⟨oa, ows, rfl, hoa⟩ := ho12.at
          refine ⟨_, rfl, _, rfl, da, oa, 0, KS, o, G12, _, rfl, S12, hda12, ho12, by omega, by omega, okf, oks, fun p6 G13 H13 S13 g13 h6 => ?_⟩
          obtain ⟨xs6, e6, n6⟩ := h6
          have n6 : NdAs G13 xs6 (opD KS o) := n6
          refine ⟨p6, xs6, rfl, .inl ⟨SqL.of (S13.s _ _ e6), fun pd hpd => ?_⟩⟩
          have S14 := S13.alloc (o := .tup xs6) hpd
          have g14 := S13.grow (o := .tup xs6) hpd
          have hpd14 : upd G13 pd (.tup xs6) pd = some (.tup xs6) := upd_same
          have n14 := n6.same g14
          have gB := Same.trans g13 g14
          show tSeq _ _ _ _ (upd H13 pd (.tup xs6))
          generalize upd H13 pd (.tup xs6) = H14 at S14 ⊢
          generalize upd G13 pd (.tup xs6) = G14 at S14 g14 hpd14 n14 gB
          refine ⟨_, rfl, _, rfl, da, .ref oa, KS, o, rfl, (hda12.same gB).same S14.s, (ho12.same gB).same S14.s, ⟨fit, ok.io, hf, trivial⟩, fun q7 H15 s15 h15 => ?_⟩
          obtain ⟨S15, g15'⟩ := rm_sb (S14.call s15)
          have g15 : Same G14 (rmH ma H15) := Same.trans joinH_l g15'
          have hq15 := h15.rm S15.hd
          clear g15'
          generalize rmH ma H15 = G15 at S15 g15 hq15
          have gC := Same.trans gB g15
          obtain ⟨qxs, hq1, hq2⟩ := hq15
          have hh1 := gd1.h
          refine ⟨_, rfl, _, rfl, .tuple (enS (opD KS o)), .tup (SqT.of (S15.s _ _ hq1)) (dp_S (hq2.same S15.s)), .tup (SqT.of (S15.s _ _ (g15 _ _ hpd14))) (dp_S ((n14.same g15).same S15.s)), plain_S _, ?_, _, rfl, iteF ?_⟩
          · have := dpt_S (opD KS o)
            show PyData.depthAll (enS (opD KS o)) + 1 ≤ 180
            omega
          refine ⟨_, rfl, _, rfl, by show 2 ≤ sizeLine; decide, fun l2 hl2 => ?_⟩
          have S16 := S15.alloc (o := .lst [.ref da, .ref oa]) hl2
          have g16 := S15.grow (o := .lst [.ref da, .ref oa]) hl2
          refine ⟨l2, encK KS o, rfl, dpK (Same.trans g1012 (Same.trans gC (Same.trans g16 S16.s))) upd_same, sk1, sk2, sk3, sk4, ?_⟩
          rw [hTX]
          refine ⟨_, rfl, rfl, _, rfl, ite2 (fun c => absurd c (by simp)) (fun _ => ?_)⟩
          have g1216 := Same.trans gC g16
          refine ⟨_, rfl, .inl ⟨rfl, _, SqL.of S16.hd⟩, _, rfl, ma, us, .ref oa, rfl, rfl, S16.hd, by omega, _, rfl, q7, opD KS o, os ++ [o], us ++ [.ref oa], _, _, _, _, _, _, _, S16.put, Same.trans g512 g1216, ⟨qxs, g16 _ _ hq1, hq2.same g16⟩, Paired.snoc (OpA.sames g1216 hos12) (ho12.same g1216), ?_, run_snoc ro (by rw [fo]; exact fit) ok.io (by rw [fo]; exact hf), by rw [List.foldl_append, fo]; rfl, gd1, rfl⟩
          rw [List.length_append]
          show os.length + 1 ≤ j + 1
          omega
      · rintro σ H7 ⟨da, KS, os, us, G', z6, z7, z8, z9, za, zb, S7, g7, hda, hos, ol, ro, fo, gd, rfl⟩
        have ul := Paired.length hos
        have ol : os.length ≤ 8 := ol
        have fit := gd.fit (Nat.le_refl 8)
        have hda7 := hda.same S7.s
        refine ⟨_, rfl, _, rfl, fa, ma, ks, os, us, rfl, (ht5.same g7).same S7.s, S7.hd, OpA.sames S7.s hos, by omega, ro, fun q8 H8 s8 h8 => ?_⟩
        rw [fo] at h8
        obtain ⟨qx, hq1, hq2⟩ := h8
        obtain ⟨dx, hd1, hd2⟩ := hda7.same s8
        have hh := gd.h
        have dpt : PyData.depthAll (enS KS) + 1 ≤ 180 := by
          have := dpt_S KS
          omega
        refine ⟨_, rfl, .tuple (enS KS), .tup (SqT.of hq1) (dp_S hq2), .tup (SqT.of hd1) (dp_S hd2), plain_S _, dpt, _, rfl, iteF ?_⟩
        refine ⟨_, rfl, by show 0 ≤ sizeLine; decide, fun l9 hl9 => ?_⟩
        have s9 := Same.trans s8 (Sm.new (o := .lst []) hl9)
        refine ⟨da, l9, KS, [], [], rfl, hda7.same s9, upd_same, .nil, by show 0 ≤ 100; decide, trivial, fun q10 H10 s10 h10 => ?_⟩
        obtain ⟨qx2, hq3, hq4⟩ := h10
        obtain ⟨dx2, hd3, hd4⟩ := hda7.same (Same.trans s9 s10)
        refine ⟨_, rfl, .tuple (enS KS), .tup (SqT.of hq3) (dp_S hq4), .tup (SqT.of hd3) (dp_S hd4), plain_S _, dpt, _, rfl, iteF ?_⟩
        exact ⟨_, _, _, _, _, _, _, _, _, _, _, Same.trans sH (Same.trans g05 (Same.trans g7 (Same.trans S7.s (Same.trans s9 s10)))), rfl⟩
    · rintro σ Hb ⟨y1, y2, y3, y4, y5, y6, y7, y8, y9, ya, yb, sH, rfl⟩
      exact kq Hb
end
end VL

set_option Elab.async false
set_option linter.all false
set_option maxRecDepth 100000
set_option maxHeartbeats 4000000
namespace VL
open PySem PySem.Spec PyProof.Rows L2
theorem all_mk {l : PySem.W.OpenLaw} {w : World} {K : PySem.W.Frag} {h : Heap} {mg : Str → Option Value} {fa aT_FAULTS aT_CHANGES f1 f2 f3 f4 f5 f6 f7 f8 f9 f10 f11 f12 f13 f14 f15 f16 f17 f18 f19 f20 f21 f22 f23 f24 f25 f26 f27 f28 f29 f30 f31 f32 f33 f34 f35 f36 f37 f38 f39 f40 f41 f42 f43 f44 f45 f46 f47 f48 : Addr} (X : K.In h) (G : h.Ns mainGlobals mg) (hfa : mg "law" = some (.ref fa))
    {od1 an1 od2 an2 od3 an3 od4 an4 od5 an5 od6 an6 od7 an7 od8 an8 od9 an9 od10 an10 od11 an11 od12 an12 od13 an13 od14 an14 od15 an15 od16 an16 od17 an17 od18 an18 od19 an19 od20 an20 od21 an21 od22 an22 od23 an23 od24 an24 od25 an25 od26 an26 od27 an27 od28 an28 od29 an29 od30 an30 od31 an31 od32 an32 od33 an33 od34 an34 od35 an35 od36 an36 od37 an37 od38 an38 od39 an39 od40 an40 od41 an41 od42 an42 od43 an43 od44 an44 od45 an45 od46 an46 od47 an47 od48 an48 : Option Addr} {sl1 sl2 sl3 sl4 sl5 sl6 sl7 sl8 sl9 sl10 sl11 sl12 sl13 sl14 sl15 sl16 sl17 sl18 sl19 sl20 sl21 sl22 sl23 sl24 sl25 sl26 sl27 sl28 sl29 sl30 sl31 sl32 sl33 sl34 sl35 sl36 sl37 sl38 sl39 sl40 sl41 sl42 sl43 sl44 sl45 sl46 sl47 sl48 : Array (Option Value)} {v_LOWEST_LEVEL oc1 kV1 dc1 pm1 cd1 ct1 oc2 kV2 dc2 pm2 cd2 ct2 oc3 kV3 dc3 pm3 cd3 ct3 oc4 kV4 dc4 pm4 cd4 ct4 oc5 kV5 dc5 pm5 cd5 ct5 oc6 kV6 dc6 pm6 cd6 ct6 oc7 kV7 dc7 pm7 cd7 ct7 oc8 kV8 dc8 pm8 cd8 ct8 oc9 kV9 dc9 pm9 cd9 ct9 oc10 kV10 dc10 pm10 cd10 ct10 oc11 kV11 dc11 pm11 cd11 ct11 oc12 kV12 dc12 pm12 cd12 ct12 oc13 kV13 dc13 pm13 cd13 ct13 oc14 kV14 dc14 pm14 cd14 ct14 oc15 kV15 dc15 pm15 cd15 ct15 oc16 kV16 dc16 pm16 cd16 ct16 oc17 kV17 dc17 pm17 cd17 ct17 oc18 kV18 dc18 pm18 cd18 ct18 oc19 kV19 dc19 pm19 cd19 ct19 oc20 kV20 dc20 pm20 cd20 ct20 oc21 kV21 dc21 pm21 cd21 ct21 oc22 kV22 dc22 pm22 cd22 ct22 oc23 kV23 dc23 pm23 cd23 ct23 oc24 kV24 dc24 pm24 cd24 ct24 oc25 kV25 dc25 pm25 cd25 ct25 oc26 kV26 dc26 pm26 cd26 ct26 oc27 kV27 dc27 pm27 cd27 ct27 oc28 kV28 dc28 pm28 cd28 ct28 oc29 kV29 dc29 pm29 cd29 ct29 oc30 kV30 dc30 pm30 cd30 ct30 oc31 kV31 dc31 pm31 cd31 ct31 oc32 kV32 dc32 pm32 cd32 ct32 oc33 kV33 dc33 pm33 cd33 ct33 oc34 kV34 dc34 pm34 cd34 ct34 oc35 kV35 dc35 pm35 cd35 ct35 oc36 kV36 dc36 pm36 cd36 ct36 oc37 kV37 dc37 pm37 cd37 ct37 oc38 kV38 dc38 pm38 cd38 ct38 oc39 kV39 dc39 pm39 cd39 ct39 oc40 kV40 dc40 pm40 cd40 ct40 oc41 kV41 dc41 pm41 cd41 ct41 oc42 kV42 dc42 pm42 cd42 ct42 oc43 kV43 dc43 pm43 cd43 ct43 oc44 kV44 dc44 pm44 cd44 ct44 oc45 kV45 dc45 pm45 cd45 ct45 oc46 kV46 dc46 pm46 cd46 ct46 oc47 kV47 dc47 pm47 cd47 ct47 oc48 kV48 dc48 pm48 cd48 ct48 : Value} {nT_FAULTS nT_CHANGES : Nat} {es_FAULTS es_CHANGES : Array DictEntry} 
    (z_abs : PySem.W.nsIn K mainGlobals "abs" = some none)
    (z_any : PySem.W.nsIn K mainGlobals "any" = some none)
    (z_dict : PySem.W.nsIn K mainGlobals "dict" = some none)
    (z_enumerate : PySem.W.nsIn K mainGlobals "enumerate" = some none)
    (z_int : PySem.W.nsIn K mainGlobals "int" = some none)
    (z_len : PySem.W.nsIn K mainGlobals "len" = some none)
    (z_max : PySem.W.nsIn K mainGlobals "max" = some none)
    (z_min : PySem.W.nsIn K mainGlobals "min" = some none)
    (z_range : PySem.W.nsIn K mainGlobals "range" = some none)
    (z_repr : PySem.W.nsIn K mainGlobals "repr" = some none)
    (z_reversed : PySem.W.nsIn K mainGlobals "reversed" = some none)
    (z_sorted : PySem.W.nsIn K mainGlobals "sorted" = some none)
    (z_tuple : PySem.W.nsIn K mainGlobals "tuple" = some none)
    (g_LOWEST_LEVEL : PySem.W.nsIn K mainGlobals "LOWEST_LEVEL" = some (some v_LOWEST_LEVEL))
    (r_LOWEST_LEVEL : RelV (V.int 40) v_LOWEST_LEVEL)
    (gT_FAULTS : PySem.W.nsIn K mainGlobals "FAULTS" = some (some (.ref aT_FAULTS)))
    (lT_FAULTS : K.lookup aT_FAULTS = some ⟨.type "dict", none, .dict es_FAULTS nT_FAULTS, #[]⟩)
    (tT_FAULTS : PySem.W.KeysLit w.params es_FAULTS.toList)
    (eT_FAULTS_0 : PySem.W.nsIn K aT_FAULTS "remove" = some (some (.ref f13)))
    (eT_FAULTS_1 : PySem.W.nsIn K aT_FAULTS "insert" = some (some (.ref f14)))
    (eT_FAULTS_2 : PySem.W.nsIn K aT_FAULTS "move" = some (some (.ref f15)))
    (eT_FAULTS_3 : PySem.W.nsIn K aT_FAULTS "text" = some (some (.ref f16)))
    (eT_FAULTS_4 : PySem.W.nsIn K aT_FAULTS "set" = some (some (.ref f17)))
    (eT_FAULTS_5 : PySem.W.nsIn K aT_FAULTS "unset" = some (some (.ref f18)))
    (gT_CHANGES : PySem.W.nsIn K mainGlobals "CHANGES" = some (some (.ref aT_CHANGES)))
    (lT_CHANGES : K.lookup aT_CHANGES = some ⟨.type "dict", none, .dict es_CHANGES nT_CHANGES, #[]⟩)
    (tT_CHANGES : PySem.W.KeysLit w.params es_CHANGES.toList)
    (eT_CHANGES_0 : PySem.W.nsIn K aT_CHANGES "remove" = some (some (.ref f23)))
    (eT_CHANGES_1 : PySem.W.nsIn K aT_CHANGES "insert" = some (some (.ref f24)))
    (eT_CHANGES_2 : PySem.W.nsIn K aT_CHANGES "move" = some (some (.ref f25)))
    (eT_CHANGES_3 : PySem.W.nsIn K aT_CHANGES "text" = some (some (.ref f26)))
    (eT_CHANGES_4 : PySem.W.nsIn K aT_CHANGES "set" = some (some (.ref f28)))
    (eT_CHANGES_5 : PySem.W.nsIn K aT_CHANGES "unset" = some (some (.ref f29)))
    (a1 : PySem.W.nsIn K mainGlobals "walk" = some (some (.ref f1)))
    (l1 : K.lookup f1 = some ⟨oc1, od1, .func (PySem.W.fnOf "walk" "walk" (defArgs s_walk) (defBody s_walk) (defScope s_walk) .none kV1 dc1 pm1 an1 cd1 ct1), sl1⟩)
    (c1 : PySem.W.codeIn K cd1 "walk" = true)
    (k1 : PySem.W.keepIn K (.ref f1) = true)
    (a2 : PySem.W.nsIn K mainGlobals "kids_in" = some (some (.ref f2)))
    (l2 : K.lookup f2 = some ⟨oc2, od2, .func (PySem.W.fnOf "kids_in" "kids_in" (defArgs s_kids_in) (defBody s_kids_in) (defScope s_kids_in) .none kV2 dc2 pm2 an2 cd2 ct2), sl2⟩)
    (c2 : PySem.W.codeIn K cd2 "kids_in" = true)
    (k2 : PySem.W.keepIn K (.ref f2) = true)
    (a3 : PySem.W.nsIn K mainGlobals "ids_of" = some (some (.ref f3)))
    (l3 : K.lookup f3 = some ⟨oc3, od3, .func (PySem.W.fnOf "ids_of" "ids_of" (defArgs s_ids_of) (defBody s_ids_of) (defScope s_ids_of) .none kV3 dc3 pm3 an3 cd3 ct3), sl3⟩)
    (c3 : PySem.W.codeIn K cd3 "ids_of" = true)
    (k3 : PySem.W.keepIn K (.ref f3) = true)
    (a4 : PySem.W.nsIn K mainGlobals "find_node" = some (some (.ref f4)))
    (l4 : K.lookup f4 = some ⟨oc4, od4, .func (PySem.W.fnOf "find_node" "find_node" (defArgs s_find_node) (defBody s_find_node) (defScope s_find_node) .none kV4 dc4 pm4 an4 cd4 ct4), sl4⟩)
    (c4 : PySem.W.codeIn K cd4 "find_node" = true)
    (k4 : PySem.W.keepIn K (.ref f4) = true)
    (a5 : PySem.W.nsIn K mainGlobals "kids_of" = some (some (.ref f5)))
    (l5 : K.lookup f5 = some ⟨oc5, od5, .func (PySem.W.fnOf "kids_of" "kids_of" (defArgs s_kids_of) (defBody s_kids_of) (defScope s_kids_of) .none kV5 dc5 pm5 an5 cd5 ct5), sl5⟩)
    (c5 : PySem.W.codeIn K cd5 "kids_of" = true)
    (k5 : PySem.W.keepIn K (.ref f5) = true)
    (a6 : PySem.W.nsIn K mainGlobals "level_of" = some (some (.ref f6)))
    (l6 : K.lookup f6 = some ⟨oc6, od6, .func (PySem.W.fnOf "level_of" "level_of" (defArgs s_level_of) (defBody s_level_of) (defScope s_level_of) .none kV6 dc6 pm6 an6 cd6 ct6), sl6⟩)
    (c6 : PySem.W.codeIn K cd6 "level_of" = true)
    (k6 : PySem.W.keepIn K (.ref f6) = true)
    (a7 : PySem.W.nsIn K mainGlobals "height_of" = some (some (.ref f7)))
    (l7 : K.lookup f7 = some ⟨oc7, od7, .func (PySem.W.fnOf "height_of" "height_of" (defArgs s_height_of) (defBody s_height_of) (defScope s_height_of) .none kV7 dc7 pm7 an7 cd7 ct7), sl7⟩)
    (c7 : PySem.W.codeIn K cd7 "height_of" = true)
    (k7 : PySem.W.keepIn K (.ref f7) = true)
    (a8 : PySem.W.nsIn K mainGlobals "fault_of" = some (some (.ref f8)))
    (l8 : K.lookup f8 = some ⟨oc8, od8, .func (PySem.W.fnOf "fault_of" "fault_of" (defArgs s_fault_of) (defBody s_fault_of) (defScope s_fault_of) .none kV8 dc8 pm8 an8 cd8 ct8), sl8⟩)
    (c8 : PySem.W.codeIn K cd8 "fault_of" = true)
    (k8 : PySem.W.keepIn K (.ref f8) = true)
    (a9 : PySem.W.nsIn K mainGlobals "apply_operation" = some (some (.ref f9)))
    (l9 : K.lookup f9 = some ⟨oc9, od9, .func (PySem.W.fnOf "apply_operation" "apply_operation" (defArgs s_apply_operation) (defBody s_apply_operation) (defScope s_apply_operation) .none kV9 dc9 pm9 an9 cd9 ct9), sl9⟩)
    (c9 : PySem.W.codeIn K cd9 "apply_operation" = true)
    (k9 : PySem.W.keepIn K (.ref f9) = true)
    (a10 : PySem.W.nsIn K mainGlobals "apply_all" = some (some (.ref f10)))
    (l10 : K.lookup f10 = some ⟨oc10, od10, .func (PySem.W.fnOf "apply_all" "apply_all" (defArgs s_apply_all) (defBody s_apply_all) (defScope s_apply_all) .none kV10 dc10 pm10 an10 cd10 ct10), sl10⟩)
    (c10 : PySem.W.codeIn K cd10 "apply_all" = true)
    (k10 : PySem.W.keepIn K (.ref f10) = true)
    (a11 : PySem.W.nsIn K mainGlobals "place_among" = some (some (.ref f11)))
    (l11 : K.lookup f11 = some ⟨oc11, od11, .func (PySem.W.fnOf "place_among" "place_among" (defArgs s_place_among) (defBody s_place_among) (defScope s_place_among) .none kV11 dc11 pm11 an11 cd11 ct11), sl11⟩)
    (c11 : PySem.W.codeIn K cd11 "place_among" = true)
    (k11 : PySem.W.keepIn K (.ref f11) = true)
    (a12 : PySem.W.nsIn K mainGlobals "is_place" = some (some (.ref f12)))
    (l12 : K.lookup f12 = some ⟨oc12, od12, .func (PySem.W.fnOf "is_place" "is_place" (defArgs s_is_place) (defBody s_is_place) (defScope s_is_place) .none kV12 dc12 pm12 an12 cd12 ct12), sl12⟩)
    (c12 : PySem.W.codeIn K cd12 "is_place" = true)
    (k12 : PySem.W.keepIn K (.ref f12) = true)
    (a13 : PySem.W.nsIn K mainGlobals "remove_fault" = some (some (.ref f13)))
    (l13 : K.lookup f13 = some ⟨oc13, od13, .func (PySem.W.fnOf "remove_fault" "remove_fault" (defArgs s_remove_fault) (defBody s_remove_fault) (defScope s_remove_fault) .none kV13 dc13 pm13 an13 cd13 ct13), sl13⟩)
    (c13 : PySem.W.codeIn K cd13 "remove_fault" = true)
    (k13 : PySem.W.keepIn K (.ref f13) = true)
    (a14 : PySem.W.nsIn K mainGlobals "insert_fault" = some (some (.ref f14)))
    (l14 : K.lookup f14 = some ⟨oc14, od14, .func (PySem.W.fnOf "insert_fault" "insert_fault" (defArgs s_insert_fault) (defBody s_insert_fault) (defScope s_insert_fault) .none kV14 dc14 pm14 an14 cd14 ct14), sl14⟩)
    (c14 : PySem.W.codeIn K cd14 "insert_fault" = true)
    (k14 : PySem.W.keepIn K (.ref f14) = true)
    (a15 : PySem.W.nsIn K mainGlobals "move_fault" = some (some (.ref f15)))
    (l15 : K.lookup f15 = some ⟨oc15, od15, .func (PySem.W.fnOf "move_fault" "move_fault" (defArgs s_move_fault) (defBody s_move_fault) (defScope s_move_fault) .none kV15 dc15 pm15 an15 cd15 ct15), sl15⟩)
    (c15 : PySem.W.codeIn K cd15 "move_fault" = true)
    (k15 : PySem.W.keepIn K (.ref f15) = true)
    (a16 : PySem.W.nsIn K mainGlobals "text_fault" = some (some (.ref f16)))
    (l16 : K.lookup f16 = some ⟨oc16, od16, .func (PySem.W.fnOf "text_fault" "text_fault" (defArgs s_text_fault) (defBody s_text_fault) (defScope s_text_fault) .none kV16 dc16 pm16 an16 cd16 ct16), sl16⟩)
    (c16 : PySem.W.codeIn K cd16 "text_fault" = true)
    (k16 : PySem.W.keepIn K (.ref f16) = true)
    (a17 : PySem.W.nsIn K mainGlobals "set_fault" = some (some (.ref f17)))
    (l17 : K.lookup f17 = some ⟨oc17, od17, .func (PySem.W.fnOf "set_fault" "set_fault" (defArgs s_set_fault) (defBody s_set_fault) (defScope s_set_fault) .none kV17 dc17 pm17 an17 cd17 ct17), sl17⟩)
    (c17 : PySem.W.codeIn K cd17 "set_fault" = true)
    (k17 : PySem.W.keepIn K (.ref f17) = true)
    (a18 : PySem.W.nsIn K mainGlobals "unset_fault" = some (some (.ref f18)))
    (l18 : K.lookup f18 = some ⟨oc18, od18, .func (PySem.W.fnOf "unset_fault" "unset_fault" (defArgs s_unset_fault) (defBody s_unset_fault) (defScope s_unset_fault) .none kV18 dc18 pm18 an18 cd18 ct18), sl18⟩)
    (c18 : PySem.W.codeIn K cd18 "unset_fault" = true)
    (k18 : PySem.W.keepIn K (.ref f18) = true)
    (a19 : PySem.W.nsIn K mainGlobals "with_kids" = some (some (.ref f19)))
    (l19 : K.lookup f19 = some ⟨oc19, od19, .func (PySem.W.fnOf "with_kids" "with_kids" (defArgs s_with_kids) (defBody s_with_kids) (defScope s_with_kids) .none kV19 dc19 pm19 an19 cd19 ct19), sl19⟩)
    (c19 : PySem.W.codeIn K cd19 "with_kids" = true)
    (k19 : PySem.W.keepIn K (.ref f19) = true)
    (a20 : PySem.W.nsIn K mainGlobals "with_node" = some (some (.ref f20)))
    (l20 : K.lookup f20 = some ⟨oc20, od20, .func (PySem.W.fnOf "with_node" "with_node" (defArgs s_with_node) (defBody s_with_node) (defScope s_with_node) .none kV20 dc20 pm20 an20 cd20 ct20), sl20⟩)
    (c20 : PySem.W.codeIn K cd20 "with_node" = true)
    (k20 : PySem.W.keepIn K (.ref f20) = true)
    (a21 : PySem.W.nsIn K mainGlobals "changed_within" = some (some (.ref f21)))
    (l21 : K.lookup f21 = some ⟨oc21, od21, .func (PySem.W.fnOf "changed_within" "changed_within" (defArgs s_changed_within) (defBody s_changed_within) (defScope s_changed_within) .none kV21 dc21 pm21 an21 cd21 ct21), sl21⟩)
    (c21 : PySem.W.codeIn K cd21 "changed_within" = true)
    (k21 : PySem.W.keepIn K (.ref f21) = true)
    (a22 : PySem.W.nsIn K mainGlobals "put_ahead" = some (some (.ref f22)))
    (l22 : K.lookup f22 = some ⟨oc22, od22, .func (PySem.W.fnOf "put_ahead" "put_ahead" (defArgs s_put_ahead) (defBody s_put_ahead) (defScope s_put_ahead) .none kV22 dc22 pm22 an22 cd22 ct22), sl22⟩)
    (c22 : PySem.W.codeIn K cd22 "put_ahead" = true)
    (k22 : PySem.W.keepIn K (.ref f22) = true)
    (a23 : PySem.W.nsIn K mainGlobals "removed" = some (some (.ref f23)))
    (l23 : K.lookup f23 = some ⟨oc23, od23, .func (PySem.W.fnOf "removed" "removed" (defArgs s_removed) (defBody s_removed) (defScope s_removed) .none kV23 dc23 pm23 an23 cd23 ct23), sl23⟩)
    (c23 : PySem.W.codeIn K cd23 "removed" = true)
    (k23 : PySem.W.keepIn K (.ref f23) = true)
    (a24 : PySem.W.nsIn K mainGlobals "inserted" = some (some (.ref f24)))
    (l24 : K.lookup f24 = some ⟨oc24, od24, .func (PySem.W.fnOf "inserted" "inserted" (defArgs s_inserted) (defBody s_inserted) (defScope s_inserted) .none kV24 dc24 pm24 an24 cd24 ct24), sl24⟩)
    (c24 : PySem.W.codeIn K cd24 "inserted" = true)
    (k24 : PySem.W.keepIn K (.ref f24) = true)
    (a25 : PySem.W.nsIn K mainGlobals "moved" = some (some (.ref f25)))
    (l25 : K.lookup f25 = some ⟨oc25, od25, .func (PySem.W.fnOf "moved" "moved" (defArgs s_moved) (defBody s_moved) (defScope s_moved) .none kV25 dc25 pm25 an25 cd25 ct25), sl25⟩)
    (c25 : PySem.W.codeIn K cd25 "moved" = true)
    (k25 : PySem.W.keepIn K (.ref f25) = true)
    (a26 : PySem.W.nsIn K mainGlobals "with_text" = some (some (.ref f26)))
    (l26 : K.lookup f26 = some ⟨oc26, od26, .func (PySem.W.fnOf "with_text" "with_text" (defArgs s_with_text) (defBody s_with_text) (defScope s_with_text) .none kV26 dc26 pm26 an26 cd26 ct26), sl26⟩)
    (c26 : PySem.W.codeIn K cd26 "with_text" = true)
    (k26 : PySem.W.keepIn K (.ref f26) = true)
    (a27 : PySem.W.nsIn K mainGlobals "with_attributes" = some (some (.ref f27)))
    (l27 : K.lookup f27 = some ⟨oc27, od27, .func (PySem.W.fnOf "with_attributes" "with_attributes" (defArgs s_with_attributes) (defBody s_with_attributes) (defScope s_with_attributes) .none kV27 dc27 pm27 an27 cd27 ct27), sl27⟩)
    (c27 : PySem.W.codeIn K cd27 "with_attributes" = true)
    (k27 : PySem.W.keepIn K (.ref f27) = true)
    (a28 : PySem.W.nsIn K mainGlobals "with_set" = some (some (.ref f28)))
    (l28 : K.lookup f28 = some ⟨oc28, od28, .func (PySem.W.fnOf "with_set" "with_set" (defArgs s_with_set) (defBody s_with_set) (defScope s_with_set) .none kV28 dc28 pm28 an28 cd28 ct28), sl28⟩)
    (c28 : PySem.W.codeIn K cd28 "with_set" = true)
    (k28 : PySem.W.keepIn K (.ref f28) = true)
    (a29 : PySem.W.nsIn K mainGlobals "with_unset" = some (some (.ref f29)))
    (l29 : K.lookup f29 = some ⟨oc29, od29, .func (PySem.W.fnOf "with_unset" "with_unset" (defArgs s_with_unset) (defBody s_with_unset) (defScope s_with_unset) .none kV29 dc29 pm29 an29 cd29 ct29), sl29⟩)
    (c29 : PySem.W.codeIn K cd29 "with_unset" = true)
    (k29 : PySem.W.keepIn K (.ref f29) = true)
    (a30 : PySem.W.nsIn K mainGlobals "_law_cell" = some (some (.ref f30)))
    (l30 : K.lookup f30 = some ⟨oc30, od30, .func (PySem.W.fnOf "_law_cell" "_law_cell" (defArgs s__law_cell) (defBody s__law_cell) (defScope s__law_cell) .none kV30 dc30 pm30 an30 cd30 ct30), sl30⟩)
    (c30 : PySem.W.codeIn K cd30 "_law_cell" = true)
    (k30 : PySem.W.keepIn K (.ref f30) = true)
    (a31 : PySem.W.nsIn K mainGlobals "_law_start" = some (some (.ref f31)))
    (l31 : K.lookup f31 = some ⟨oc31, od31, .func (PySem.W.fnOf "_law_start" "_law_start" (defArgs s__law_start) (defBody s__law_start) (defScope s__law_start) .none kV31 dc31 pm31 an31 cd31 ct31), sl31⟩)
    (c31 : PySem.W.codeIn K cd31 "_law_start" = true)
    (k31 : PySem.W.keepIn K (.ref f31) = true)
    (a32 : PySem.W.nsIn K mainGlobals "_law_digit" = some (some (.ref f32)))
    (l32 : K.lookup f32 = some ⟨oc32, od32, .func (PySem.W.fnOf "_law_digit" "_law_digit" (defArgs s__law_digit) (defBody s__law_digit) (defScope s__law_digit) .none kV32 dc32 pm32 an32 cd32 ct32), sl32⟩)
    (c32 : PySem.W.codeIn K cd32 "_law_digit" = true)
    (k32 : PySem.W.keepIn K (.ref f32) = true)
    (a33 : PySem.W.nsIn K mainGlobals "_law_word" = some (some (.ref f33)))
    (l33 : K.lookup f33 = some ⟨oc33, od33, .func (PySem.W.fnOf "_law_word" "_law_word" (defArgs s__law_word) (defBody s__law_word) (defScope s__law_word) .none kV33 dc33 pm33 an33 cd33 ct33), sl33⟩)
    (c33 : PySem.W.codeIn K cd33 "_law_word" = true)
    (k33 : PySem.W.keepIn K (.ref f33) = true)
    (a34 : PySem.W.nsIn K mainGlobals "_law_attributes" = some (some (.ref f34)))
    (l34 : K.lookup f34 = some ⟨oc34, od34, .func (PySem.W.fnOf "_law_attributes" "_law_attributes" (defArgs s__law_attributes) (defBody s__law_attributes) (defScope s__law_attributes) .none kV34 dc34 pm34 an34 cd34 ct34), sl34⟩)
    (c34 : PySem.W.codeIn K cd34 "_law_attributes" = true)
    (k34 : PySem.W.keepIn K (.ref f34) = true)
    (a35 : PySem.W.nsIn K mainGlobals "_law_node" = some (some (.ref f35)))
    (l35 : K.lookup f35 = some ⟨oc35, od35, .func (PySem.W.fnOf "_law_node" "_law_node" (defArgs s__law_node) (defBody s__law_node) (defScope s__law_node) .none kV35 dc35 pm35 an35 cd35 ct35), sl35⟩)
    (c35 : PySem.W.codeIn K cd35 "_law_node" = true)
    (k35 : PySem.W.keepIn K (.ref f35) = true)
    (a36 : PySem.W.nsIn K mainGlobals "_law_pool" = some (some (.ref f36)))
    (l36 : K.lookup f36 = some ⟨oc36, od36, .func (PySem.W.fnOf "_law_pool" "_law_pool" (defArgs s__law_pool) (defBody s__law_pool) (defScope s__law_pool) .none kV36 dc36 pm36 an36 cd36 ct36), sl36⟩)
    (c36 : PySem.W.codeIn K cd36 "_law_pool" = true)
    (k36 : PySem.W.keepIn K (.ref f36) = true)
    (a37 : PySem.W.nsIn K mainGlobals "_law_document" = some (some (.ref f37)))
    (l37 : K.lookup f37 = some ⟨oc37, od37, .func (PySem.W.fnOf "_law_document" "_law_document" (defArgs s__law_document) (defBody s__law_document) (defScope s__law_document) .none kV37 dc37 pm37 an37 cd37 ct37), sl37⟩)
    (c37 : PySem.W.codeIn K cd37 "_law_document" = true)
    (k37 : PySem.W.keepIn K (.ref f37) = true)
    (a38 : PySem.W.nsIn K mainGlobals "_law_below" = some (some (.ref f38)))
    (l38 : K.lookup f38 = some ⟨oc38, od38, .func (PySem.W.fnOf "_law_below" "_law_below" (defArgs s__law_below) (defBody s__law_below) (defScope s__law_below) .none kV38 dc38 pm38 an38 cd38 ct38), sl38⟩)
    (c38 : PySem.W.codeIn K cd38 "_law_below" = true)
    (k38 : PySem.W.keepIn K (.ref f38) = true)
    (a39 : PySem.W.nsIn K mainGlobals "_law_flat" = some (some (.ref f39)))
    (l39 : K.lookup f39 = some ⟨oc39, od39, .func (PySem.W.fnOf "_law_flat" "_law_flat" (defArgs s__law_flat) (defBody s__law_flat) (defScope s__law_flat) .none kV39 dc39 pm39 an39 cd39 ct39), sl39⟩)
    (c39 : PySem.W.codeIn K cd39 "_law_flat" = true)
    (k39 : PySem.W.keepIn K (.ref f39) = true)
    (a40 : PySem.W.nsIn K mainGlobals "_law_ids" = some (some (.ref f40)))
    (l40 : K.lookup f40 = some ⟨oc40, od40, .func (PySem.W.fnOf "_law_ids" "_law_ids" (defArgs s__law_ids) (defBody s__law_ids) (defScope s__law_ids) .none kV40 dc40 pm40 an40 cd40 ct40), sl40⟩)
    (c40 : PySem.W.codeIn K cd40 "_law_ids" = true)
    (k40 : PySem.W.keepIn K (.ref f40) = true)
    (a41 : PySem.W.nsIn K mainGlobals "_law_row_of" = some (some (.ref f41)))
    (l41 : K.lookup f41 = some ⟨oc41, od41, .func (PySem.W.fnOf "_law_row_of" "_law_row_of" (defArgs s__law_row_of) (defBody s__law_row_of) (defScope s__law_row_of) .none kV41 dc41 pm41 an41 cd41 ct41), sl41⟩)
    (c41 : PySem.W.codeIn K cd41 "_law_row_of" = true)
    (k41 : PySem.W.keepIn K (.ref f41) = true)
    (a42 : PySem.W.nsIn K mainGlobals "_law_kids" = some (some (.ref f42)))
    (l42 : K.lookup f42 = some ⟨oc42, od42, .func (PySem.W.fnOf "_law_kids" "_law_kids" (defArgs s__law_kids) (defBody s__law_kids) (defScope s__law_kids) .none kV42 dc42 pm42 an42 cd42 ct42), sl42⟩)
    (c42 : PySem.W.codeIn K cd42 "_law_kids" = true)
    (k42 : PySem.W.keepIn K (.ref f42) = true)
    (a43 : PySem.W.nsIn K mainGlobals "_law_some" = some (some (.ref f43)))
    (l43 : K.lookup f43 = some ⟨oc43, od43, .func (PySem.W.fnOf "_law_some" "_law_some" (defArgs s__law_some) (defBody s__law_some) (defScope s__law_some) .none kV43 dc43 pm43 an43 cd43 ct43), sl43⟩)
    (c43 : PySem.W.codeIn K cd43 "_law_some" = true)
    (k43 : PySem.W.keepIn K (.ref f43) = true)
    (a44 : PySem.W.nsIn K mainGlobals "_law_kid" = some (some (.ref f44)))
    (l44 : K.lookup f44 = some ⟨oc44, od44, .func (PySem.W.fnOf "_law_kid" "_law_kid" (defArgs s__law_kid) (defBody s__law_kid) (defScope s__law_kid) .none kV44 dc44 pm44 an44 cd44 ct44), sl44⟩)
    (c44 : PySem.W.codeIn K cd44 "_law_kid" = true)
    (k44 : PySem.W.keepIn K (.ref f44) = true)
    (a45 : PySem.W.nsIn K mainGlobals "_law_deed" = some (some (.ref f45)))
    (l45 : K.lookup f45 = some ⟨oc45, od45, .func (PySem.W.fnOf "_law_deed" "_law_deed" (defArgs s__law_deed) (defBody s__law_deed) (defScope s__law_deed) .none kV45 dc45 pm45 an45 cd45 ct45), sl45⟩)
    (c45 : PySem.W.codeIn K cd45 "_law_deed" = true)
    (k45 : PySem.W.keepIn K (.ref f45) = true)
    (a46 : PySem.W.nsIn K mainGlobals "_law_put" = some (some (.ref f46)))
    (l46 : K.lookup f46 = some ⟨oc46, od46, .func (PySem.W.fnOf "_law_put" "_law_put" (defArgs s__law_put) (defBody s__law_put) (defScope s__law_put) .none kV46 dc46 pm46 an46 cd46 ct46), sl46⟩)
    (c46 : PySem.W.codeIn K cd46 "_law_put" = true)
    (k46 : PySem.W.keepIn K (.ref f46) = true)
    (a47 : PySem.W.nsIn K mainGlobals "_law_list_of" = some (some (.ref f47)))
    (l47 : K.lookup f47 = some ⟨oc47, od47, .func (PySem.W.fnOf "_law_list_of" "_law_list_of" (defArgs s__law_list_of) (defBody s__law_list_of) (defScope s__law_list_of) .none kV47 dc47 pm47 an47 cd47 ct47), sl47⟩)
    (c47 : PySem.W.codeIn K cd47 "_law_list_of" = true)
    (k47 : PySem.W.keepIn K (.ref f47) = true)
    (a48 : PySem.W.nsIn K mainGlobals "law" = some (some (.ref f48)))
    (l48 : K.lookup f48 = some ⟨oc48, od48, .func (PySem.W.fnOf "law" "law" (defArgs s_law) (defBody s_law) (defScope s_law) .none kV48 dc48 pm48 an48 cd48 ct48), sl48⟩)
    (c48 : PySem.W.codeIn K cd48 "law" = true)
    (k48 : PySem.W.keepIn K (.ref f48) = true)
    : ∃ fd : FuncData, (∀ (s : Shared) (v : Value), BindsTo s fd ⟨[v], []⟩ [("script", v)]) ∧ ∀ base : Heap, K.In base → base.Ns mainGlobals mg → FnG l.prog w K mg base 100 fa fd ["script"] (spLaw K) := by
  have e := hfa.symm.trans (PySem.W.mg_of X G a48)
  cases e
  have F1 := fun_mk (st := s_walk) l1 c1 k1
  have b1 := F1.binds (ps := ["document"]) fun _ _ _ _ _ _ us hl => match us, hl with | [_], _ => rfl
  have F2 := fun_mk (st := s_kids_in) l2 c2 k2
  have b2 := F2.binds (ps := ["node"]) fun _ _ _ _ _ _ us hl => match us, hl with | [_], _ => rfl
  have F3 := fun_mk (st := s_ids_of) l3 c3 k3
  have b3 := F3.binds (ps := ["document"]) fun _ _ _ _ _ _ us hl => match us, hl with | [_], _ => rfl
  have F4 := fun_mk (st := s_find_node) l4 c4 k4
  have b4 := F4.binds (ps := ["document", "number"]) fun _ _ _ _ _ _ us hl => match us, hl with | [_, _], _ => rfl
  have F5 := fun_mk (st := s_kids_of) l5 c5 k5
  have b5 := F5.binds (ps := ["document", "parent"]) fun _ _ _ _ _ _ us hl => match us, hl with | [_, _], _ => rfl
  have F6 := fun_mk (st := s_level_of) l6 c6 k6
  have b6 := F6.binds (ps := ["document", "number"]) fun _ _ _ _ _ _ us hl => match us, hl with | [_, _], _ => rfl
  have F7 := fun_mk (st := s_height_of) l7 c7 k7
  have b7 := F7.binds (ps := ["document"]) fun _ _ _ _ _ _ us hl => match us, hl with | [_], _ => rfl
  have F8 := fun_mk (st := s_fault_of) l8 c8 k8
  have b8 := F8.binds (ps := ["document", "operation"]) fun _ _ _ _ _ _ us hl => match us, hl with | [_, _], _ => rfl
  have F9 := fun_mk (st := s_apply_operation) l9 c9 k9
  have b9 := F9.binds (ps := ["document", "operation"]) fun _ _ _ _ _ _ us hl => match us, hl with | [_, _], _ => rfl
  have F10 := fun_mk (st := s_apply_all) l10 c10 k10
  have b10 := F10.binds (ps := ["document", "operations"]) fun _ _ _ _ _ _ us hl => match us, hl with | [_, _], _ => rfl
  have F11 := fun_mk (st := s_place_among) l11 c11 k11
  have b11 := F11.binds (ps := ["nodes", "number"]) fun _ _ _ _ _ _ us hl => match us, hl with | [_, _], _ => rfl
  have F12 := fun_mk (st := s_is_place) l12 c12 k12
  have b12 := F12.binds (ps := ["nodes", "ahead"]) fun _ _ _ _ _ _ us hl => match us, hl with | [_, _], _ => rfl
  have F13 := fun_mk (st := s_remove_fault) l13 c13 k13
  have b13 := F13.binds (ps := ["document", "operation"]) fun _ _ _ _ _ _ us hl => match us, hl with | [_, _], _ => rfl
  have F14 := fun_mk (st := s_insert_fault) l14 c14 k14
  have b14 := F14.binds (ps := ["document", "operation"]) fun _ _ _ _ _ _ us hl => match us, hl with | [_, _], _ => rfl
  have F15 := fun_mk (st := s_move_fault) l15 c15 k15
  have b15 := F15.binds (ps := ["document", "operation"]) fun _ _ _ _ _ _ us hl => match us, hl with | [_, _], _ => rfl
  have F16 := fun_mk (st := s_text_fault) l16 c16 k16
  have b16 := F16.binds (ps := ["document", "operation"]) fun _ _ _ _ _ _ us hl => match us, hl with | [_, _], _ => rfl
  have F17 := fun_mk (st := s_set_fault) l17 c17 k17
  have b17 := F17.binds (ps := ["document", "operation"]) fun _ _ _ _ _ _ us hl => match us, hl with | [_, _], _ => rfl
  have F18 := fun_mk (st := s_unset_fault) l18 c18 k18
  have b18 := F18.binds (ps := ["document", "operation"]) fun _ _ _ _ _ _ us hl => match us, hl with | [_, _], _ => rfl
  have F19 := fun_mk (st := s_with_kids) l19 c19 k19
  have b19 := F19.binds (ps := ["document", "parent", "kids"]) fun _ _ _ _ _ _ us hl => match us, hl with | [_, _, _], _ => rfl
  have F20 := fun_mk (st := s_with_node) l20 c20 k20
  have b20 := F20.binds (ps := ["nodes", "node"]) fun _ _ _ _ _ _ us hl => match us, hl with | [_, _], _ => rfl
  have F21 := fun_mk (st := s_changed_within) l21 c21 k21
  have b21 := F21.binds (ps := ["old", "node"]) fun _ _ _ _ _ _ us hl => match us, hl with | [_, _], _ => rfl
  have F22 := fun_mk (st := s_put_ahead) l22 c22 k22
  have b22 := F22.binds (ps := ["nodes", "node", "ahead"]) fun _ _ _ _ _ _ us hl => match us, hl with | [_, _, _], _ => rfl
  have F23 := fun_mk (st := s_removed) l23 c23 k23
  have b23 := F23.binds (ps := ["document", "operation"]) fun _ _ _ _ _ _ us hl => match us, hl with | [_, _], _ => rfl
  have F24 := fun_mk (st := s_inserted) l24 c24 k24
  have b24 := F24.binds (ps := ["document", "operation"]) fun _ _ _ _ _ _ us hl => match us, hl with | [_, _], _ => rfl
  have F25 := fun_mk (st := s_moved) l25 c25 k25
  have b25 := F25.binds (ps := ["document", "operation"]) fun _ _ _ _ _ _ us hl => match us, hl with | [_, _], _ => rfl
  have F26 := fun_mk (st := s_with_text) l26 c26 k26
  have b26 := F26.binds (ps := ["document", "operation"]) fun _ _ _ _ _ _ us hl => match us, hl with | [_, _], _ => rfl
  have F27 := fun_mk (st := s_with_attributes) l27 c27 k27
  have b27 := F27.binds (ps := ["document", "number", "attributes"]) fun _ _ _ _ _ _ us hl => match us, hl with | [_, _, _], _ => rfl
  have F28 := fun_mk (st := s_with_set) l28 c28 k28
  have b28 := F28.binds (ps := ["document", "operation"]) fun _ _ _ _ _ _ us hl => match us, hl with | [_, _], _ => rfl
  have F29 := fun_mk (st := s_with_unset) l29 c29 k29
  have b29 := F29.binds (ps := ["document", "operation"]) fun _ _ _ _ _ _ us hl => match us, hl with | [_, _], _ => rfl
  have F30 := fun_mk (st := s__law_cell) l30 c30 k30
  have b30 := F30.binds (ps := ["script", "k"]) fun _ _ _ _ _ _ us hl => match us, hl with | [_, _], _ => rfl
  have F31 := fun_mk (st := s__law_start) l31 c31 k31
  have b31 := F31.binds (ps := ["cell", "k"]) fun _ _ _ _ _ _ us hl => match us, hl with | [_, _], _ => rfl
  have F32 := fun_mk (st := s__law_digit) l32 c32 k32
  have b32 := F32.binds (ps := ["state", "many"]) fun _ _ _ _ _ _ us hl => match us, hl with | [_, _], _ => rfl
  have F33 := fun_mk (st := s__law_word) l33 c33 k33
  have b33 := F33.binds (ps := ["state"]) fun _ _ _ _ _ _ us hl => match us, hl with | [_], _ => rfl
  have F34 := fun_mk (st := s__law_attributes) l34 c34 k34
  have b34 := F34.binds (ps := ["state"]) fun _ _ _ _ _ _ us hl => match us, hl with | [_], _ => rfl
  have F35 := fun_mk (st := s__law_node) l35 c35 k35
  have b35 := F35.binds (ps := ["state", "levels", "pool"]) fun _ _ _ _ _ _ us hl => match us, hl with | [_, _, _], _ => rfl
  have F36 := fun_mk (st := s__law_pool) l36 c36 k36
  have b36 := F36.binds (ps := ["state", "many"]) fun _ _ _ _ _ _ us hl => match us, hl with | [_, _], _ => rfl
  have F37 := fun_mk (st := s__law_document) l37 c37 k37
  have b37 := F37.binds (ps := ["state", "many", "levels"]) fun _ _ _ _ _ _ us hl => match us, hl with | [_, _, _], _ => rfl
  have F38 := fun_mk (st := s__law_below) l38 c38 k38
  have b38 := F38.binds (ps := ["node"]) fun _ _ _ _ _ _ us hl => match us, hl with | [_], _ => rfl
  have F39 := fun_mk (st := s__law_flat) l39 c39 k39
  have b39 := F39.binds (ps := ["document", "parent", "level"]) fun _ _ _ _ _ _ us hl => match us, hl with | [_, _, _], _ => rfl
  have F40 := fun_mk (st := s__law_ids) l40 c40 k40
  have b40 := F40.binds (ps := ["document"]) fun _ _ _ _ _ _ us hl => match us, hl with | [_], _ => rfl
  have F41 := fun_mk (st := s__law_row_of) l41 c41 k41
  have b41 := F41.binds (ps := ["document", "number"]) fun _ _ _ _ _ _ us hl => match us, hl with | [_, _], _ => rfl
  have F42 := fun_mk (st := s__law_kids) l42 c42 k42
  have b42 := F42.binds (ps := ["document", "parent"]) fun _ _ _ _ _ _ us hl => match us, hl with | [_, _], _ => rfl
  have F43 := fun_mk (st := s__law_some) l43 c43 k43
  have b43 := F43.binds (ps := ["state", "document"]) fun _ _ _ _ _ _ us hl => match us, hl with | [_, _], _ => rfl
  have F44 := fun_mk (st := s__law_kid) l44 c44 k44
  have b44 := F44.binds (ps := ["state", "document", "parent"]) fun _ _ _ _ _ _ us hl => match us, hl with | [_, _, _], _ => rfl
  have F45 := fun_mk (st := s__law_deed) l45 c45 k45
  have b45 := F45.binds (ps := ["state", "document"]) fun _ _ _ _ _ _ us hl => match us, hl with | [_, _], _ => rfl
  have F46 := fun_mk (st := s__law_put) l46 c46 k46
  have b46 := F46.binds (ps := ["kids", "node", "ahead"]) fun _ _ _ _ _ _ us hl => match us, hl with | [_, _, _], _ => rfl
  have F47 := fun_mk (st := s__law_list_of) l47 c47 k47
  have b47 := F47.binds (ps := ["document", "operation", "own"]) fun _ _ _ _ _ _ us hl => match us, hl with | [_, _, _], _ => rfl
  have T : Txt K w mg ⟨()⟩ := {
    z_abs := PySem.W.mg_none_of X G z_abs,
    z_any := PySem.W.mg_none_of X G z_any,
    z_dict := PySem.W.mg_none_of X G z_dict,
    z_enumerate := PySem.W.mg_none_of X G z_enumerate,
    z_int := PySem.W.mg_none_of X G z_int,
    z_len := PySem.W.mg_none_of X G z_len,
    z_max := PySem.W.mg_none_of X G z_max,
    z_min := PySem.W.mg_none_of X G z_min,
    z_range := PySem.W.mg_none_of X G z_range,
    z_repr := PySem.W.mg_none_of X G z_repr,
    z_reversed := PySem.W.mg_none_of X G z_reversed,
    z_sorted := PySem.W.mg_none_of X G z_sorted,
    z_tuple := PySem.W.mg_none_of X G z_tuple,
    g_LOWEST_LEVEL := ⟨_, PySem.W.mg_of X G g_LOWEST_LEVEL, r_LOWEST_LEVEL⟩,
    tb_FAULTS := ⟨_, ⟨_, PySem.W.mg_of X G gT_FAULTS, rfl⟩, ⟨_, PySem.W.mg_of X G a13, _, _, _, lT_FAULTS, tT_FAULTS, eT_FAULTS_0, rfl⟩, ⟨_, PySem.W.mg_of X G a14, _, _, _, lT_FAULTS, tT_FAULTS, eT_FAULTS_1, rfl⟩, ⟨_, PySem.W.mg_of X G a15, _, _, _, lT_FAULTS, tT_FAULTS, eT_FAULTS_2, rfl⟩, ⟨_, PySem.W.mg_of X G a16, _, _, _, lT_FAULTS, tT_FAULTS, eT_FAULTS_3, rfl⟩, ⟨_, PySem.W.mg_of X G a17, _, _, _, lT_FAULTS, tT_FAULTS, eT_FAULTS_4, rfl⟩, ⟨_, PySem.W.mg_of X G a18, _, _, _, lT_FAULTS, tT_FAULTS, eT_FAULTS_5, rfl⟩⟩,
    tb_CHANGES := ⟨_, ⟨_, PySem.W.mg_of X G gT_CHANGES, rfl⟩, ⟨_, PySem.W.mg_of X G a23, _, _, _, lT_CHANGES, tT_CHANGES, eT_CHANGES_0, rfl⟩, ⟨_, PySem.W.mg_of X G a24, _, _, _, lT_CHANGES, tT_CHANGES, eT_CHANGES_1, rfl⟩, ⟨_, PySem.W.mg_of X G a25, _, _, _, lT_CHANGES, tT_CHANGES, eT_CHANGES_2, rfl⟩, ⟨_, PySem.W.mg_of X G a26, _, _, _, lT_CHANGES, tT_CHANGES, eT_CHANGES_3, rfl⟩, ⟨_, PySem.W.mg_of X G a28, _, _, _, lT_CHANGES, tT_CHANGES, eT_CHANGES_4, rfl⟩, ⟨_, PySem.W.mg_of X G a29, _, _, _, lT_CHANGES, tT_CHANGES, eT_CHANGES_5, rfl⟩⟩,
    d_walk := ⟨_, _, F1, PySem.W.mg_of X G a1, b1⟩,
    d_kids_in := ⟨_, _, F2, PySem.W.mg_of X G a2, b2⟩,
    d_ids_of := ⟨_, _, F3, PySem.W.mg_of X G a3, b3⟩,
    d_find_node := ⟨_, _, F4, PySem.W.mg_of X G a4, b4⟩,
    d_kids_of := ⟨_, _, F5, PySem.W.mg_of X G a5, b5⟩,
    d_level_of := ⟨_, _, F6, PySem.W.mg_of X G a6, b6⟩,
    d_height_of := ⟨_, _, F7, PySem.W.mg_of X G a7, b7⟩,
    d_fault_of := ⟨_, _, F8, PySem.W.mg_of X G a8, b8⟩,
    d_apply_operation := ⟨_, _, F9, PySem.W.mg_of X G a9, b9⟩,
    d_apply_all := ⟨_, _, F10, PySem.W.mg_of X G a10, b10⟩,
    d_place_among := ⟨_, _, F11, PySem.W.mg_of X G a11, b11⟩,
    d_is_place := ⟨_, _, F12, PySem.W.mg_of X G a12, b12⟩,
    d_remove_fault := ⟨_, _, F13, PySem.W.mg_of X G a13, b13⟩,
    d_insert_fault := ⟨_, _, F14, PySem.W.mg_of X G a14, b14⟩,
    d_move_fault := ⟨_, _, F15, PySem.W.mg_of X G a15, b15⟩,
    d_text_fault := ⟨_, _, F16, PySem.W.mg_of X G a16, b16⟩,
    d_set_fault := ⟨_, _, F17, PySem.W.mg_of X G a17, b17⟩,
    d_unset_fault := ⟨_, _, F18, PySem.W.mg_of X G a18, b18⟩,
    d_with_kids := ⟨_, _, F19, PySem.W.mg_of X G a19, b19⟩,
    d_with_node := ⟨_, _, F20, PySem.W.mg_of X G a20, b20⟩,
    d_changed_within := ⟨_, _, F21, PySem.W.mg_of X G a21, b21⟩,
    d_put_ahead := ⟨_, _, F22, PySem.W.mg_of X G a22, b22⟩,
    d_removed := ⟨_, _, F23, PySem.W.mg_of X G a23, b23⟩,
    d_inserted := ⟨_, _, F24, PySem.W.mg_of X G a24, b24⟩,
    d_moved := ⟨_, _, F25, PySem.W.mg_of X G a25, b25⟩,
    d_with_text := ⟨_, _, F26, PySem.W.mg_of X G a26, b26⟩,
    d_with_attributes := ⟨_, _, F27, PySem.W.mg_of X G a27, b27⟩,
    d_with_set := ⟨_, _, F28, PySem.W.mg_of X G a28, b28⟩,
    d_with_unset := ⟨_, _, F29, PySem.W.mg_of X G a29, b29⟩,
    d__law_cell := ⟨_, _, F30, PySem.W.mg_of X G a30, b30⟩,
    d__law_start := ⟨_, _, F31, PySem.W.mg_of X G a31, b31⟩,
    d__law_digit := ⟨_, _, F32, PySem.W.mg_of X G a32, b32⟩,
    d__law_word := ⟨_, _, F33, PySem.W.mg_of X G a33, b33⟩,
    d__law_attributes := ⟨_, _, F34, PySem.W.mg_of X G a34, b34⟩,
    d__law_node := ⟨_, _, F35, PySem.W.mg_of X G a35, b35⟩,
    d__law_pool := ⟨_, _, F36, PySem.W.mg_of X G a36, b36⟩,
    d__law_document := ⟨_, _, F37, PySem.W.mg_of X G a37, b37⟩,
    d__law_below := ⟨_, _, F38, PySem.W.mg_of X G a38, b38⟩,
    d__law_flat := ⟨_, _, F39, PySem.W.mg_of X G a39, b39⟩,
    d__law_ids := ⟨_, _, F40, PySem.W.mg_of X G a40, b40⟩,
    d__law_row_of := ⟨_, _, F41, PySem.W.mg_of X G a41, b41⟩,
    d__law_kids := ⟨_, _, F42, PySem.W.mg_of X G a42, b42⟩,
    d__law_some := ⟨_, _, F43, PySem.W.mg_of X G a43, b43⟩,
    d__law_kid := ⟨_, _, F44, PySem.W.mg_of X G a44, b44⟩,
    d__law_deed := ⟨_, _, F45, PySem.W.mg_of X G a45, b45⟩,
    d__law_put := ⟨_, _, F46, PySem.W.mg_of X G a46, b46⟩,
    d__law_list_of := ⟨_, _, F47, PySem.W.mg_of X G a47, b47⟩ }
  exact ⟨_, fun s v => .of_eq rfl, fun base _ _ => ok_law (fun_mk (st := s_law) l48 c48 k48) T⟩
theorem walk {l : PySem.W.OpenLaw} {q : Program} {loose : List Str} {XP : (Str → Option Value) → Heap → Prop} {YP : World → Heap → Prop} {d : DefRec} {K : Params → PySem.W.Frag} (hn : l.most = some 63) (hdf : d.params.defaults = [])
    (hY : ∀ (w : World) (h : Heap), YP w h → (K w.params).In h)
    (F : ∀ (w : World) (mg : Str → Option Value) (fa : Addr) (h : Heap), (K w.params).In h → h.Ns mainGlobals mg → mg d.name = some (.ref fa) →
      ∃ fd : FuncData, (∀ (s : Shared) (u : Value), BindsTo s fd ⟨[u], []⟩ [("script", u)]) ∧ ∀ base : Heap, (K w.params).In base → base.Ns mainGlobals mg → FnG l.prog w (K w.params) mg base 100 fa fd ["script"] (spLaw (K w.params))) :
    PySem.W.WalkO q loose XP YP l.row.toRowW d [] (fun f vs => PySem.call f vs) :=
  walk_ofG (n := 63) (k := 100) (x := "script") (sp := fun w => spLaw (K w.params)) hn (by decide) hdf ⟨rfl, by decide, by decide⟩ hY F (fun _ _ a ns hl _ hS => ⟨a, ns, rfl, hS, hl, fun _ => rfl⟩)
end VL

open PySem PySem.W PyProof.Rows in
set_option maxRecDepth 100000 in
set_option maxHeartbeats 0 in
set_option pp.maxSteps 60 in
theorem PySem.Challenge.cw_viewloom_k29_operations_made_holds : PySem.Challenge.rw_viewloom_k29_operations_made.Holds := by
  w_on; o_law; k_head; (case hw => w_witness2)
  k_fill
  refine VL.walk (l := PySem.Challenge.rw_viewloom_k29_operations_made) rfl rfl (fun w h Y => PySem.W.kIn_of Y) ?F
  case F =>
    intro w mg fa h KX G hmg
    refine' VL.all_mk KX G hmg ?z_abs ?z_any ?z_dict ?z_enumerate ?z_int ?z_len ?z_max ?z_min ?z_range ?z_repr ?z_reversed ?z_sorted ?z_tuple ?g_LOWEST_LEVEL ?r_LOWEST_LEVEL ?gT_FAULTS ?lT_FAULTS ?tT_FAULTS ?eT_FAULTS_0 ?eT_FAULTS_1 ?eT_FAULTS_2 ?eT_FAULTS_3 ?eT_FAULTS_4 ?eT_FAULTS_5 ?gT_CHANGES ?lT_CHANGES ?tT_CHANGES ?eT_CHANGES_0 ?eT_CHANGES_1 ?eT_CHANGES_2 ?eT_CHANGES_3 ?eT_CHANGES_4 ?eT_CHANGES_5 ?a1 ?l1 ?c1 ?k1 ?a2 ?l2 ?c2 ?k2 ?a3 ?l3 ?c3 ?k3 ?a4 ?l4 ?c4 ?k4 ?a5 ?l5 ?c5 ?k5 ?a6 ?l6 ?c6 ?k6 ?a7 ?l7 ?c7 ?k7 ?a8 ?l8 ?c8 ?k8 ?a9 ?l9 ?c9 ?k9 ?a10 ?l10 ?c10 ?k10 ?a11 ?l11 ?c11 ?k11 ?a12 ?l12 ?c12 ?k12 ?a13 ?l13 ?c13 ?k13 ?a14 ?l14 ?c14 ?k14 ?a15 ?l15 ?c15 ?k15 ?a16 ?l16 ?c16 ?k16 ?a17 ?l17 ?c17 ?k17 ?a18 ?l18 ?c18 ?k18 ?a19 ?l19 ?c19 ?k19 ?a20 ?l20 ?c20 ?k20 ?a21 ?l21 ?c21 ?k21 ?a22 ?l22 ?c22 ?k22 ?a23 ?l23 ?c23 ?k23 ?a24 ?l24 ?c24 ?k24 ?a25 ?l25 ?c25 ?k25 ?a26 ?l26 ?c26 ?k26 ?a27 ?l27 ?c27 ?k27 ?a28 ?l28 ?c28 ?k28 ?a29 ?l29 ?c29 ?k29 ?a30 ?l30 ?c30 ?k30 ?a31 ?l31 ?c31 ?k31 ?a32 ?l32 ?c32 ?k32 ?a33 ?l33 ?c33 ?k33 ?a34 ?l34 ?c34 ?k34 ?a35 ?l35 ?c35 ?k35 ?a36 ?l36 ?c36 ?k36 ?a37 ?l37 ?c37 ?k37 ?a38 ?l38 ?c38 ?k38 ?a39 ?l39 ?c39 ?k39 ?a40 ?l40 ?c40 ?k40 ?a41 ?l41 ?c41 ?k41 ?a42 ?l42 ?c42 ?k42 ?a43 ?l43 ?c43 ?k43 ?a44 ?l44 ?c44 ?k44 ?a45 ?l45 ?c45 ?k45 ?a46 ?l46 ?c46 ?k46 ?a47 ?l47 ?c47 ?k47 ?a48 ?l48 ?c48 ?k48
    (case z_abs => k_is)
    (case z_any => k_is)
    (case z_dict => k_is)
    (case z_enumerate => k_is)
    (case z_int => k_is)
    (case z_len => k_is)
    (case z_max => k_is)
    (case z_min => k_is)
    (case z_range => k_is)
    (case z_repr => k_is)
    (case z_reversed => k_is)
    (case z_sorted => k_is)
    (case z_tuple => k_is)
    (case g_LOWEST_LEVEL => k_is)
    (case r_LOWEST_LEVEL => exact ⟨_, rfl⟩)
    (case gT_FAULTS => k_is)
    (case lT_FAULTS => k_is)
    (case tT_FAULTS => k_keys)
    (case eT_FAULTS_0 => k_is)
    (case eT_FAULTS_1 => k_is)
    (case eT_FAULTS_2 => k_is)
    (case eT_FAULTS_3 => k_is)
    (case eT_FAULTS_4 => k_is)
    (case eT_FAULTS_5 => k_is)
    (case gT_CHANGES => k_is)
    (case lT_CHANGES => k_is)
    (case tT_CHANGES => k_keys)
    (case eT_CHANGES_0 => k_is)
    (case eT_CHANGES_1 => k_is)
    (case eT_CHANGES_2 => k_is)
    (case eT_CHANGES_3 => k_is)
    (case eT_CHANGES_4 => k_is)
    (case eT_CHANGES_5 => k_is)
    (case a1 => k_is)
    (case l1 => k_is)
    (case c1 => k_is)
    (case k1 => k_is)
    (case a2 => k_is)
    (case l2 => k_is)
    (case c2 => k_is)
    (case k2 => k_is)
    (case a3 => k_is)
    (case l3 => k_is)
    (case c3 => k_is)
    (case k3 => k_is)
    (case a4 => k_is)
    (case l4 => k_is)
    (case c4 => k_is)
    (case k4 => k_is)
    (case a5 => k_is)
    (case l5 => k_is)
    (case c5 => k_is)
    (case k5 => k_is)
    (case a6 => k_is)
    (case l6 => k_is)
    (case c6 => k_is)
    (case k6 => k_is)
    (case a7 => k_is)
    (case l7 => k_is)
    (case c7 => k_is)
    (case k7 => k_is)
    (case a8 => k_is)
    (case l8 => k_is)
    (case c8 => k_is)
    (case k8 => k_is)
    (case a9 => k_is)
    (case l9 => k_is)
    (case c9 => k_is)
    (case k9 => k_is)
    (case a10 => k_is)
    (case l10 => k_is)
    (case c10 => k_is)
    (case k10 => k_is)
    (case a11 => k_is)
    (case l11 => k_is)
    (case c11 => k_is)
    (case k11 => k_is)
    (case a12 => k_is)
    (case l12 => k_is)
    (case c12 => k_is)
    (case k12 => k_is)
    (case a13 => k_is)
    (case l13 => k_is)
    (case c13 => k_is)
    (case k13 => k_is)
    (case a14 => k_is)
    (case l14 => k_is)
    (case c14 => k_is)
    (case k14 => k_is)
    (case a15 => k_is)
    (case l15 => k_is)
    (case c15 => k_is)
    (case k15 => k_is)
    (case a16 => k_is)
    (case l16 => k_is)
    (case c16 => k_is)
    (case k16 => k_is)
    (case a17 => k_is)
    (case l17 => k_is)
    (case c17 => k_is)
    (case k17 => k_is)
    (case a18 => k_is)
    (case l18 => k_is)
    (case c18 => k_is)
    (case k18 => k_is)
    (case a19 => k_is)
    (case l19 => k_is)
    (case c19 => k_is)
    (case k19 => k_is)
    (case a20 => k_is)
    (case l20 => k_is)
    (case c20 => k_is)
    (case k20 => k_is)
    (case a21 => k_is)
    (case l21 => k_is)
    (case c21 => k_is)
    (case k21 => k_is)
    (case a22 => k_is)
    (case l22 => k_is)
    (case c22 => k_is)
    (case k22 => k_is)
    (case a23 => k_is)
    (case l23 => k_is)
    (case c23 => k_is)
    (case k23 => k_is)
    (case a24 => k_is)
    (case l24 => k_is)
    (case c24 => k_is)
    (case k24 => k_is)
    (case a25 => k_is)
    (case l25 => k_is)
    (case c25 => k_is)
    (case k25 => k_is)
    (case a26 => k_is)
    (case l26 => k_is)
    (case c26 => k_is)
    (case k26 => k_is)
    (case a27 => k_is)
    (case l27 => k_is)
    (case c27 => k_is)
    (case k27 => k_is)
    (case a28 => k_is)
    (case l28 => k_is)
    (case c28 => k_is)
    (case k28 => k_is)
    (case a29 => k_is)
    (case l29 => k_is)
    (case c29 => k_is)
    (case k29 => k_is)
    (case a30 => k_is)
    (case l30 => k_is)
    (case c30 => k_is)
    (case k30 => k_is)
    (case a31 => k_is)
    (case l31 => k_is)
    (case c31 => k_is)
    (case k31 => k_is)
    (case a32 => k_is)
    (case l32 => k_is)
    (case c32 => k_is)
    (case k32 => k_is)
    (case a33 => k_is)
    (case l33 => k_is)
    (case c33 => k_is)
    (case k33 => k_is)
    (case a34 => k_is)
    (case l34 => k_is)
    (case c34 => k_is)
    (case k34 => k_is)
    (case a35 => k_is)
    (case l35 => k_is)
    (case c35 => k_is)
    (case k35 => k_is)
    (case a36 => k_is)
    (case l36 => k_is)
    (case c36 => k_is)
    (case k36 => k_is)
    (case a37 => k_is)
    (case l37 => k_is)
    (case c37 => k_is)
    (case k37 => k_is)
    (case a38 => k_is)
    (case l38 => k_is)
    (case c38 => k_is)
    (case k38 => k_is)
    (case a39 => k_is)
    (case l39 => k_is)
    (case c39 => k_is)
    (case k39 => k_is)
    (case a40 => k_is)
    (case l40 => k_is)
    (case c40 => k_is)
    (case k40 => k_is)
    (case a41 => k_is)
    (case l41 => k_is)
    (case c41 => k_is)
    (case k41 => k_is)
    (case a42 => k_is)
    (case l42 => k_is)
    (case c42 => k_is)
    (case k42 => k_is)
    (case a43 => k_is)
    (case l43 => k_is)
    (case c43 => k_is)
    (case k43 => k_is)
    (case a44 => k_is)
    (case l44 => k_is)
    (case c44 => k_is)
    (case k44 => k_is)
    (case a45 => k_is)
    (case l45 => k_is)
    (case c45 => k_is)
    (case k45 => k_is)
    (case a46 => k_is)
    (case l46 => k_is)
    (case c46 => k_is)
    (case k46 => k_is)
    (case a47 => k_is)
    (case l47 => k_is)
    (case c47 => k_is)
    (case k47 => k_is)
    (case a48 => k_is)
    (case l48 => k_is)
    (case c48 => k_is)
    (case k48 => k_is)
#print axioms PySem.Challenge.cw_viewloom_k29_operations_made_holds
