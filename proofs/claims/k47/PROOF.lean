import PyProof.Rows.All
import Wide.All
import OpenK.AllK
import Wide.FinOn
import HandS.ForMost
import HandS.More
import HandS.Codes
import HandS.Ends
import PyProof.ReprRoads
import PyProof.ReprReads
import PyProof.RowDictHeap
import HandS.DictComp
import HandS.Walk
import HandS.Defaults
import HandS.Property
import HandS.ClsMeth
import HandS.ExcIs
import HandS.RaiseMore
import HandS.ForExc
import HandS.IsInst
import HandS.DeepEq
import HandS.Deep
import HandS.StrMore
import PyProof.DictUpdate
import PyProof.DictDisplay
import HandS.OwnEq
import PyProof.InstEq
import KE.DataEq
import KE.KEqNest
import HandS.Steps
import HandS.Style
import HandS.TupLe
import HandS.NoneIn
import HandS.Zip
import HandS.SortInts
import KE.RegKIsAll
import PySem.Challenge.RW_viewloom_k47_cells_and_their_queues
set_option Elab.async false
set_option linter.all false
set_option maxRecDepth 100000
set_option maxHeartbeats 4000000
namespace VL
open PySem PySem.Spec PyProof.Rows L2

/-! ### defs, methods, classes, as callers see them -/
structure Cal (P : Program) (w : World) (K : PySem.W.Frag) (mg : Str → Option Value) (base : Heap) (k : Nat) (x : Str) (sp : Sp) : Prop where
  ex : ∃ (f : Addr) (fd : FuncData) (ps : List Str), FnOk P w K mg base CX0 k f fd ps sp ∧ mg x = some (.ref f) ∧ PySem.W.keepIn K (.ref f) = true ∧ Binds K fd ps []
structure Met (P : Program) (w : World) (K : PySem.W.Frag) (mg : Str → Option Value) (base : Heap) (k : Nat) (C : Addr) (m : Str) (sp : Sp) : Prop where
  ex : ∃ (f : Addr) (fd : FuncData) (ps : List Str), Cls K C ∧ Meth K C m f ∧ FnOk P w K mg base CX0 k f fd ps sp ∧ Binds K fd ps []
structure Mak (P : Program) (w : World) (K : PySem.W.Frag) (mg : Str → Option Value) (base : Heap) (k : Nat) (x : Str) (C : Addr) (sp : Sp) : Prop where
  ex : ∃ (f : Addr) (fd : FuncData) (ps : List Str), Mk K C f ∧ FnOk P w K mg base CX0 k f fd ps sp ∧ mg x = some (.ref C) ∧ Binds K fd ps []
section
variable {X : Cx} {k j : Nat} {C : Addr} {x m : Str} {sp : Sp} {p pos apos : Pos} {e o : Expr} {es : List Expr} {ta : TE} {t : TA}
theorem pe_c (c : Cal X.prog X.w X.K X.mg X.base k x sp) (hr : Room j X.A) (hk : k ≤ j) (hg : Gl X x) (ha : PA X (e :: es) t)
    (hdb : (x == ("__debug__" : Str)) = false := by decide) (he : starEach (e :: es) X.env = (false, eval e X.env) :: starEach es X.env := by rfl) (hpl : (backTo pos (starEach es X.env)).any (·.1) = false := by rfl) :
    PE X (.Call (.Name x p) (e :: es) [] pos) (tCall sp [] E0 t) := by
  obtain ⟨f, fd, ps, F, hm, kp, b⟩ := c.ex
  exact pe_call F (hr.mono hk) hg hm kp b .nil pass0 ha hdb he hpl
theorem pe_mk (c : Mak X.prog X.w X.K X.mg X.base k x C sp) (hr : Room j X.A) (hk : k + 1 ≤ j) (hg : Gl X x) (ha : PA X (e :: es) t)
    (hdb : (x == ("__debug__" : Str)) = false := by decide) (he : starEach (e :: es) X.env = (false, eval e X.env) :: starEach es X.env := by rfl) (hpl : (backTo pos (starEach es X.env)).any (·.1) = false := by rfl) :
    PE X (.Call (.Name x p) (e :: es) [] pos) (tMake C sp [] E0 t) := by
  obtain ⟨f, fd, ps, M, F, hm, b⟩ := c.ex
  exact pe_make M F (hr.mono hk) hg hm b .nil pass0 ha hdb he hpl
theorem pe_mk0 (c : Mak X.prog X.w X.K X.mg X.base k x C sp) (hr : Room j X.A) (hk : k + 1 ≤ j) (hg : Gl X x) (hdb : (x == ("__debug__" : Str)) = false := by decide) :
    PE X (.Call (.Name x p) [] [] pos) (tMake C sp [] E0 tNil) := by
  obtain ⟨f, fd, ps, M, F, hm, b⟩ := c.ex
  exact pe_make0 M F (hr.mono hk) hg hm b .nil pass0 hdb
theorem pe_mt {pl : Sem Bool} (c : Met X.prog X.w X.K X.mg X.base k C m sp) (hr : Room j X.A) (hk : k ≤ j) (he : PE X o ta) (ha : PA X (e :: es) t)
    (hst : starEach (e :: es) X.env = (false, eval e X.env) :: starEach es X.env := by rfl) (hpl : (backTo pos (starEach es X.env)).any (·.1) = false := by rfl)
    (ht : eval (.Call (.Attribute o m apos) (e :: es) [] pos) X.env = (do
      let ov ← eval o X.env
      standAt apos.atName
      let (f, first) ← holding [ov] (getMethod ov m pl)
      callWith pos f first (backTo pos (starEach (e :: es) X.env)) (backToKw pos (keywordEach [] X.env))) := by rfl) :
    PE X (.Call (.Attribute o m apos) (e :: es) [] pos) (tMeth C m sp [] E0 ta t) := by
  obtain ⟨f, fd, ps, hc, hm, F, b⟩ := c.ex
  exact pe_meth (pl := pl) he hc hm F (hr.mono hk) b .nil pass0 ha hst hpl ht
theorem pe_mt0 {pl : Sem Bool} (c : Met X.prog X.w X.K X.mg X.base k C m sp) (hr : Room j X.A) (hk : k ≤ j) (he : PE X o ta)
    (ht : eval (.Call (.Attribute o m apos) [] [] pos) X.env = (do
      let ov ← eval o X.env
      standAt apos.atName
      let (f, first) ← holding [ov] (getMethod ov m pl)
      callWith pos f first (backTo pos (starEach [] X.env)) (backToKw pos (keywordEach [] X.env))) := by rfl) :
    PE X (.Call (.Attribute o m apos) [] [] pos) (tMeth C m sp [] E0 ta tNil) := by
  obtain ⟨f, fd, ps, hc, hm, F, b⟩ := c.ex
  exact pe_meth0 (pl := pl) he hc hm F (hr.mono hk) b .nil pass0 ht
end

/-! ### what the text has -/
def DefE (K : PySem.W.Frag) (mg : Str → Option Value) (x : Str) (st : Stmt) (ps : List Str) : Prop := ∃ (f : Addr) (fd : FuncData), Fun K x x st f fd ∧ mg x = some (.ref f) ∧ Binds K fd ps []
def MethE (K : PySem.W.Frag) (C : Addr) (x qual : Str) (st : Stmt) (ps : List Str) : Prop := ∃ (f : Addr) (fd : FuncData), Fun K x qual st f fd ∧ Meth K C x f ∧ Binds K fd ps []
def InitE (K : PySem.W.Frag) (mg : Str → Option Value) (cn : Str) (C : Addr) (qual : Str) (st : Stmt) (ps : List Str) : Prop := ∃ (f : Addr) (fd : FuncData), Fun K "__init__" qual st f fd ∧ Mk K C f ∧ mg cn = some (.ref C) ∧ Binds K fd ps []
/-- a global name of the module has the value v -/
abbrev GV (mg : Str → Option Value) (x : Str) (v : V) : Prop := ∃ u, mg x = some u ∧ RelV v u
section
variable {P : Program} {w : World} {K : PySem.W.Frag} {mg : Str → Option Value} {base : Heap}
theorem cal_of {x : Str} {st : Stmt} {ps N : List Str} {k : Nat} {sp : Sp} (D : DefE K mg x st ps) (S : FnScope N ps (defScope st)) (len : ∀ vs H Q E, sp vs H Q E → vs.length = ps.length)
    (hbody : ∀ (f : Addr) (cdv : Value) (A : Around) (outer : List Env) (s : Shared) (H : Hp) (vs : List V) (Q : VK) (E : XK), Room k (A.deeper (envOfC x (defScope st) s.heap.objs.size f cdv)) → sp vs H Q E →
      ∃ t, PSs (cxOf CX0 P w K mg base N x (defScope st) f cdv A outer s H E).nox (defBody st) t ∧ t { nx := fun _ H' => Q .non H', rt := Q } (start N vs) H) : Cal P w K mg base (k + 1) x sp := by
  obtain ⟨f, fd, F, hm, b⟩ := D
  exact ⟨f, fd, ps, F.ok S len (hbody f), hm, F.kp, b⟩
theorem met_of {C : Addr} {x qual : Str} {st : Stmt} {ps N : List Str} {k : Nat} {sp : Sp} (D : MethE K C x qual st ps) (c : Cls K C) (S : FnScope N ps (defScope st)) (len : ∀ vs H Q E, sp vs H Q E → vs.length = ps.length)
    (hbody : ∀ (f : Addr) (cdv : Value) (A : Around) (outer : List Env) (s : Shared) (H : Hp) (vs : List V) (Q : VK) (E : XK), Room k (A.deeper (envOfC qual (defScope st) s.heap.objs.size f cdv)) → sp vs H Q E →
      ∃ t, PSs (cxOf CX0 P w K mg base N qual (defScope st) f cdv A outer s H E).nox (defBody st) t ∧ t { nx := fun _ H' => Q .non H', rt := Q } (start N vs) H) : Met P w K mg base (k + 1) C x sp := by
  obtain ⟨f, fd, F, hm, b⟩ := D
  exact ⟨f, fd, ps, c, hm, F.ok S len (hbody f), b⟩
theorem mak_of {C : Addr} {cn qual : Str} {st : Stmt} {ps N : List Str} {k : Nat} {sp : Sp} (D : InitE K mg cn C qual st ps) (S : FnScope N ps (defScope st)) (len : ∀ vs H Q E, sp vs H Q E → vs.length = ps.length)
    (hbody : ∀ (f : Addr) (cdv : Value) (A : Around) (outer : List Env) (s : Shared) (H : Hp) (vs : List V) (Q : VK) (E : XK), Room k (A.deeper (envOfC qual (defScope st) s.heap.objs.size f cdv)) → sp vs H Q E →
      ∃ t, PSs (cxOf CX0 P w K mg base N qual (defScope st) f cdv A outer s H E).nox (defBody st) t ∧ t { nx := fun _ H' => Q .non H', rt := Q } (start N vs) H) : Mak P w K mg base (k + 1) cn C sp := by
  obtain ⟨f, fd, F, M, hm, b⟩ := D
  exact ⟨f, fd, ps, M, F.ok S len (hbody f), hm, b⟩
end
theorem ps_str_loc : True := trivial
end VL

set_option Elab.async false
set_option linter.all false
set_option maxRecDepth 100000
set_option maxHeartbeats 4000000
namespace VL
open PySem PySem.Spec PyProof.Rows L2

/-! ### a def that is called where nothing is being shown: the law's own; repr of nested data there -/
structure FnG (P : Program) (w : World) (K : PySem.W.Frag) (mg : Str → Option Value) (base : Heap) (k : Nat) (f : Addr) (fd : FuncData) (ps : List Str) (sp : Sp) : Prop where
  run : ∀ (A : Around) (outer : List Env) (s : Shared) (H : Hp) (args : Args) (us : List Value) (vs : List V) (Q : VK) (E : XK), A.guards = some [] → Room k A → Env0 P w K mg base A outer s H → BindsTo s fd args (ps.zip us) → Vals vs us → sp vs H Q E →
    codeAny (model P w) A (.call (.ref f) args) (CR CX0 outer P w H s Q E) s
theorem fnG_of {P : Program} {w : World} {K : PySem.W.Frag} {mg : Str → Option Value} {base : Heap} {x qual : Str} {st : Stmt} {f : Addr} {fd : FuncData} {N ps : List Str} {k : Nat} {sp : Sp} (F : Fun K x qual st f fd) (S : FnScope N ps (defScope st)) (len : ∀ vs H Q E, sp vs H Q E → vs.length = ps.length)
    (hb0 : ∀ (cdv : Value) (A : Around) (outer : List Env) (s : Shared) (H : Hp) (vs : List V) (Q : VK) (E : XK), A.guards = some [] → Room k (A.deeper (envOfC qual (defScope st) s.heap.objs.size f cdv)) → sp vs H Q E →
      ∃ t, PSs (cxOf CX0 P w K mg base N qual (defScope st) f cdv A outer s H E).nox (defBody st) t ∧ t { nx := fun _ H' => Q .non H', rt := Q } (start N vs) H) : FnG P w K mg base (k + 1) f fd ps sp := by
  obtain ⟨oc, od, kV, doc, pm, an, cdv, ct, osl, rfl, lk, hcd⟩ := F.ex
  refine ⟨fun A outer s H args us vs Q E gd hr en hb rv hsp => ?_⟩
  have hlen := len _ _ _ _ hsp
  have kin : K.In s.heap := en.mod.kin.keeps fun b o e => (en.bs b o e).1
  have nl : s.heap.NoLimit := en.mod.nolimit.keeps fun b o e => (en.bs b o e).1
  have kinds : ∀ y ∈ ps.zip us, (defScope st).names.lookup y.1 = some .local ∨ ((defScope st).names.lookup y.1 = some .cell ∧ ((cellsFrom (s.heap.objs.size + 1) (defScope st).names []).lookup y.1).isSome = true) := fun ⟨n, v⟩ hy => by
    rcases S.par n (List.of_mem_zip hy).1 with c | c
    · exact .inl c
    · exact .inr ⟨c, PySem.W.cellsFrom_some _ _ _ (.inl c)⟩
  refine codeAny_call_function hr.depth (kin _ _ lk) rfl S.co S.gen rfl (PySem.W.codeRec_of kin hcd) (hb _ _ _ _ ?_)
  refine wpAny_newFunctionEnv_cells S.kind kinds fun env he s1 ic => ?_
  subst he
  refine ⟨nl.keeps ic.toInCall.keep, codeAny_func ?_⟩
  obtain ⟨t, hd, hq⟩ := hb0 cdv A outer s H vs Q E gd (hr.deeper _) hsp
  have J0 : Inv (cxOf CX0 P w K mg base N qual (defScope st) f cdv A outer s H E) [] (start N vs) H s1 := inv_start S hr.hd en hlen rv ic
  refine wpAny_mono (hd.nox.run [] s1 (start N vs) H _ J0 hq) (fun fl s2 hs => ?_) fun e s2 hs => hs
  have done : ∀ {σ2 : L2.St} {H2 : Hp} {v : V} {u : Value}, Inv (cxOf CX0 P w K mg base N qual (defScope st) f cdv A outer s H E) [] σ2 H2 s2 → RelV v u → Q v H2 → CE outer P w H s Q u s2 :=
    fun {σ2 H2 v u} J rw q => ⟨v, H2, J.os, J.bare, J.base, J.hok, rw, q⟩
  cases fl with
  | ret u =>
    obtain ⟨v, σ2, H2, J, rw, q⟩ := hs
    exact done J rw q
  | next =>
    obtain ⟨σ2, H2, J, q⟩ := hs
    exact done (v := V.non) (u := Value.none) J rfl q
  | brk => exact hs.elim fun _ z => z.elim fun _ z => z.2.elim
  | cont => exact hs.elim fun _ z => z.elim fun _ z => z.2.elim
/-- the law's call, where nothing is being shown -/
theorem law_callG {P : Program} {w : World} {K : PySem.W.Frag} {mg mb : Str → Option Value} {k : Nat} {fa a : Addr} {fd : FuncData} {x : Str} {sp : Sp} {s₁ : Shared} {vs : List Value} {ns : List Int}
    (kin : K.In s₁.heap) (ng : s₁.heap.Ns mainGlobals mg) (nb : s₁.heap.Ns builtinsNs mb) (bb : ∀ x : Str, x ≠ "__name__" → mb x = bootBuiltins x) (nl : s₁.heap.NoLimit) (hgen : s₁.gens = #[])
    (ea : s₁.heap.get? a = some { cls := .type "list", data := .seq vs.toArray }) (hi : IntsAre vs ns) (hz : ns.length ≤ sizeLine) (hr : Room k callerA)
    (F : ∀ base : Heap, K.In base → base.Ns mainGlobals mg → FnG P w K mg base k fa fd [x] sp) (hbind : ∀ (s : Shared) (u : Value), BindsTo s fd ⟨[u], []⟩ [(x, u)])
    (hsp : ∀ H : Hp, Only H → SqL K H a (ns.map V.int) → sp [.ref a] H (fun v _ => v = .bl true) fun _ _ _ => False) :
    codeAny (model P w) callerA (.call (.ref fa) ⟨[.ref a], []⟩) (fun r s2 => r = .ok (.ret (.bool true)) ∧ OldK s₁.heap s2.heap ∧ s2.os = s₁.os ∧ AllBare s2.gens) s₁ := by
  have rel := vals_ints hi
  have lv := hi.length
  have go : ∀ H : Hp, Only H → SqL K H a (ns.map V.int) → HOk P w H s₁.heap → (∀ b, H b ≠ none → b = a) → (H a ≠ none → K.lookup a = none) →
      codeAny (model P w) callerA (.call (.ref fa) ⟨[.ref a], []⟩) (fun r s2 => r = .ok (.ret (.bool true)) ∧ OldK s₁.heap s2.heap ∧ s2.os = s₁.os ∧ AllBare s2.gens) s₁ := by
    intro H ho hq ok only out
    have low : ∀ {b : Addr} {o : Obj}, s₁.heap.get? b = some o → H b = none → (hidT s₁.heap H).get? b = some o := fun e n => hidT_get e n
    have nod : ∀ {b : Addr} {o : Obj} {es : Array DictEntry} {ep : Nat}, s₁.heap.get? b = some o → o.data = .dict es ep → H b = none := fun {b o es ep} e d => by
      cases c : H b with
      | none => rfl
      | some u =>
        obtain rfl : b = a := only b (by rw [c]; simp)
        rw [ea] at e
        cases e
        exact nomatch (show Data.seq vs.toArray _ = Data.dict es ep from d)
    have nsl : ∀ {b : Addr} {m : Str → Option Value}, s₁.heap.Ns b m → (hidT s₁.heap H).Ns b m := fun {b m} ⟨o, es, ep, e, d, r⟩ => ⟨o, es, ep, low e (nod e d), d, r⟩
    have kl : K.In (hidT s₁.heap H) := fun b o e => low (kin b o e) (by
      cases c : H b with
      | none => rfl
      | some u =>
        obtain rfl : b = a := only b (by rw [c]; simp)
        rw [out (by rw [c]; simp)] at e
        exact nomatch e)
    have md : Mod K mg (hidT s₁.heap H) := ⟨kl, nsl ng, ⟨mb, nsl nb, bb⟩, let ⟨mc, h1, h2⟩ := nl; ⟨mc, nsl h1, h2⟩⟩
    have en : Env0 P w K mg (hidT s₁.heap H) callerA [] s₁ H := ⟨rfl, md, fun b o e => of_hidT e, Nat.le_of_eq (hidT_size _ _), trivial, fun b hb => absurd (show b ∈ ([] : List Addr) from hb) (by simp), ok, .of_eq hgen⟩
    refine codeAny_mono ((F _ kl (nsl ng)).run callerA [] s₁ H ⟨[.ref a], []⟩ [.ref a] [.ref a] _ _ rfl hr en (hbind s₁ (.ref a)) (.cons rfl .nil) (hsp H ho hq)) fun r s2 h => ?_
    cases r with
    | error e => exact False.elim h
    | ok fl =>
      cases fl with
      | next => exact h.elim
      | brk => exact h.elim
      | cont => exact h.elim
      | ret u =>
        obtain ⟨v, H2, os, bare, un, ok2, r2, q⟩ := h
        obtain rfl : v = .bl true := q
        obtain rfl : u = Value.bool true := r2
        refine ⟨rfl, OldK.of_keep fun b o e => ?_, os, bare⟩
        cases c : H b with
        | none => exact un.keep b o e c (by intro z; exact absurd (show b ∈ ([] : List Addr) from z) (by simp)) (by simp)
        | some u =>
          rcases ho b with z | ⟨ob, xs, z⟩
          · exact nomatch c.symm.trans z
          · obtain ⟨e1, _⟩ := ok b _ z
            obtain ⟨e2, _⟩ := ok2 b _ (un.frzs b ob _ z)
            rw [e] at e1
            cases e1
            exact e2
  cases hk : K.lookup a with
  | some o =>
    have e := kin a o hk
    rw [ea] at e
    cases e
    exact go (fun _ => none) (fun _ => .inl rfl) (.inr ⟨_, vs.toArray, _, hk, rfl, rfl, rfl, by rw [List.size_toArray, lv]; exact hz, by simpa using rel⟩) (fun b u z => nomatch (show (none : Option HO) = some u from z)) (fun b z => absurd rfl z) fun z => absurd rfl z
  | none =>
    refine go (fun b => if b = a then some (.frz { cls := .type "list", data := .seq vs.toArray } (.lst (ns.map V.int))) else none) (fun b => ?_) (.inl (.inr ⟨{ cls := .type "list", data := .seq vs.toArray }, if_pos rfl⟩)) (fun b u z => ?_) (fun b z => ?_) fun _ => hk
    · by_cases hb : b = a
      · exact Or.inr ⟨_, _, if_pos hb⟩
      · exact Or.inl (if_neg hb)
    · by_cases hb : b = a
      · cases (if_pos hb).symm.trans z
        subst hb
        exact ⟨ea, by rw [List.length_map]; exact hz, vs, _, rel, ea⟩
      · exact nomatch (if_neg hb).symm.trans z
    · by_cases hb : b = a
      · exact hb
      · exact absurd (if_neg hb) z
theorem walk_ofG {l : PySem.W.OpenLaw} {n k : Nat} {q : Program} {loose : List Str} {XP : (Str → Option Value) → Heap → Prop} {YP : World → Heap → Prop} {d : DefRec} {K : Params → PySem.W.Frag} {sp : World → Sp} {x : Str}
    (hn : l.most = some n) (hn2 : n ≤ sizeLine) (hdf : d.params.defaults = []) (hr : Room k callerA) (hY : ∀ (w : World) (h : Heap), YP w h → (K w.params).In h)
    (F : ∀ (w : World) (mg : Str → Option Value) (fa : Addr) (h : Heap), (K w.params).In h → h.Ns mainGlobals mg → mg d.name = some (.ref fa) →
      ∃ fd : FuncData, (∀ (s : Shared) (u : Value), BindsTo s fd ⟨[u], []⟩ [(x, u)]) ∧ ∀ base : Heap, (K w.params).In base → base.Ns mainGlobals mg → FnG l.prog w (K w.params) mg base k fa fd [x] (sp w))
    (hsp : ∀ (w : World) (H : Hp) (a : Addr) (ns : List Int), ns.length ≤ n → Only H → SqL (K w.params) H a (ns.map V.int) → sp w [.ref a] H (fun v _ => v = .bl true) fun _ _ _ => False) :
    PySem.W.WalkO q loose XP YP l.row.toRowW d [] (fun f vs => PySem.call f vs) := by
  refine Att.attach_call hn hdf fun w s₀ s₁ mg mb fa o pm cd doc a vs ns G Y ho hd hcd hmg hobj hints hlen hgen => ?_
  have kin := hY w _ Y
  obtain ⟨fd, hb, hF⟩ := F w mg fa _ kin G.T.g hmg
  exact law_callG kin G.T.g G.T.b G.T.builtins G.T.nolimit hgen hobj hints (Nat.le_trans hlen hn2) hr hF hb fun H ho hq => hsp w H a ns hlen ho hq
end VL

set_option Elab.async false
set_option linter.all false
set_option maxRecDepth 100000
set_option maxHeartbeats 4000000
namespace VL
open PySem PySem.Spec PyProof.Rows L2 PyProof.V

/-! ### repr of a dict of nested data, where nothing is being shown -/
def enK : Key → PyData
  | .inl i => .int i
  | .inr x => .str x
def zipK : List (Key × V) → List PyData → List (PyData × PyData)
  | p :: ks, d :: ds => (enK p.1, d) :: zipK ks ds
  | _, _ => []
theorem zipK_vals : ∀ {ks : List (Key × V)} {ds : List PyData}, ks.length = ds.length → (zipK ks ds).map (·.2) = ds
  | [], [], _ => rfl
  | p :: ks, d :: ds, h => by
    show d :: (zipK ks ds).map (·.2) = d :: ds
    rw [zipK_vals (Nat.succ.inj h)]
theorem dpAll_len {K : PySem.W.Frag} {H : Hp} : ∀ {vs : List V} {ds : List PyData}, DpAll K H vs ds → vs.length = ds.length
  | _, _, .nil => rfl
  | _, _, .cons _ h => by simp [dpAll_len h]
section
variable {X : Cx} {pins : List (Addr × Obj)} {σ : L2.St} {H : Hp} {s : Shared}
theorem enK_reads {h : Heap} {P : Program} {w : World} (k : Key) (key : Value) (e : (mixKind P w).is k key = true) : Reads h key (enK k) [] := by
  rcases keyIs_shape (show keyIs k key = true from e) with ⟨i, t, rfl, rfl⟩ | ⟨x, t, rfl, rfl⟩
  · exact Reads.int i t
  · exact Reads.str x t
theorem pairs_read (I : Inv X pins σ H s) : ∀ {ks : List (Key × V)} {vs : List (Key × Value)} {ds : List PyData}, KV ks vs → DpAll X.K H (ks.map (·.2)) ds → ∃ bs, PairsRead s.heap enK vs (zipK ks ds) bs
  | [], _, _, r, h => by
    cases r
    exact ⟨[], by unfold zipK; exact .nil⟩
  | p :: ks, _, _, r, h => by
    cases r with
    | @cons _ q _ qs h1 h2 =>
      cases h with
      | @cons _ _ d ds g1 g2 =>
        obtain ⟨k, v⟩ := q
        obtain ⟨kp, vp⟩ := p
        obtain ⟨rfl, rv⟩ := h1
        obtain ⟨as, r1⟩ := Dp.reads I d _ _ g1 rv
        obtain ⟨bs, r2⟩ := pairs_read I h2 g2
        exact ⟨as ++ bs, .cons r1 r2⟩
def rRepD (K : PySem.W.Frag) : List V → Hp → VK → Prop := fun xs H Q => ∃ (a : Addr) (ks : List (Key × V)) (ds : List PyData), xs = [.ref a] ∧ H a = some (.dK ks) ∧ DpAll K H (ks.map (·.2)) ds ∧ PyData.showableKv (zipK ks ds) = true ∧ PyData.hasDictAll ds = false ∧
  PyData.depthKv (zipK ks ds) ≤ 40 ∧ (dictText (PyData.shownKv (zipK ks ds))).length ≤ sizeLine ∧ Q (.str (dictText (PyData.shownKv (zipK ks ds)))) H
theorem call_repD (gd : X.A.guards = some []) (hu : X.A.units + 64 < cLine) : CallR X (.builtin "repr") (rRepD X.K) := by
  intro pins s σ H xs us Q I r h
  obtain ⟨a, ks, ds, rfl, ha, hd, sh, nd, dep, len, q⟩ := h
  obtain ⟨u, rfl, ru⟩ := vals1 r
  cases (show u = Value.ref a from ru)
  obtain ⟨_, hsys, vs, rk, dic⟩ := (show ObjOk X.prog X.w H s.heap a (.dK ks) from I.hok a _ ha)
  obtain ⟨bs, pr⟩ := pairs_read I rk hd
  have rd := reads_dictOf (fun k key e => enK_reads k key e) dic pr
  obtain ⟨o, es, ep, ho, hx, hdat, _, hp, _⟩ := dic
  obtain ⟨rk1, rk2⟩ := readsAll_of_pairs (fun k key e => enK_reads k key e) hp pr
  obtain ⟨sh1, sh2⟩ := PyData.showableKv_split _ sh
  have vv : (zipK ks ds).map (·.2) = ds := zipK_vals (by have := dpAll_len hd; rw [List.length_map] at this; exact this)
  obtain ⟨b1, hb1, k1⟩ := ReprAllK.of_readsAll (prog := X.prog) (w := X.w) rk1 sh1 (fun _ z => nomatch z) (fun t ht => let ⟨p, hp, hl⟩ := PyData.shownKv_key_le _ t ht; Nat.le_trans hl (Nat.le_trans (dictText_mem_le hp) len))
  obtain ⟨b2, hb2, k2⟩ := ReprAllK.of_readsAll (prog := X.prog) (w := X.w) rk2 sh2 (fun z => by rw [vv, nd] at z; exact nomatch z) (fun t ht => let ⟨p, hp, hl⟩ := PyData.shownKv_val_le _ t ht; Nat.le_trans hl (Nat.le_trans (dictText_mem_le hp) len))
  have rm : ReadAtMost s.heap (PyData.depthKv (zipK ks ds)) (b1 ++ b2) := (hb1.mono (PyData.depthAll_keys_le _)).append (hb2.mono (PyData.depthAll_vals_le _))
  have na : a ∉ b1 ++ b2 := not_mem_of_deeper rd (by simp only [PyData.depth]; omega) rm
  have EK := ReprEntriesK.of_two es.toList _ _ (k1.more_le (fun b z => List.mem_append_left b2 z) (PyData.depthAll_keys_le (zipK ks ds))) (k2.more_le (fun b z => List.mem_append_right b1 z) (PyData.depthAll_vals_le (zipK ks ds)))
  rw [← PyData.shownKv_eq] at EK
  refine call_repr_slot (T := "dict") (idr := "dict.__repr__") (by omega) ⟨o, ho, hx.1⟩ F.slot_dict_repr (call_dict_reprK (h₀ := s.heap) ho hx.1 hdat hsys na EK gd (fun b _ => Clear.nil b) (by show X.A.units + 1 + (PyData.depthKv (zipK ks ds) + 1) < cLine; omega) (fun _ _ e => e) (fun h2 u tk hk => ?_) len)
  exact ⟨_, _, rfl, .str _, H, I.kept hk, ⟨u, rfl⟩, q⟩
end
theorem strApp (x y : Str) : (x ++ y).length = x.length + y.length := strLen_append x y
theorem textFrom_le : ∀ (ts : List Str) (k : Nat) (acc : Str), (textFrom k acc ts).length ≤ acc.length + piled ts
  | [], k, acc => by show acc.length ≤ _; omega
  | t :: ts, k, acc => by
    have ih := textFrom_le ts (k + 1) (acc ++ (if k > 0 then ", " else "" : String) ++ t)
    have e : (acc ++ (if k > 0 then ", " else "" : String) ++ t).length ≤ acc.length + 2 + t.length := by
      rw [strApp, strApp]
      split
      · exact Nat.le_of_eq rfl
      · show acc.length + 0 + t.length ≤ _
        omega
    show (textFrom (k + 1) (acc ++ (if k > 0 then ", " else "" : String) ++ t) ts).length ≤ _
    have : piled (t :: ts) = t.length + 2 + piled ts := by simp [piled]
    omega
theorem listText_le (ts : List Str) : (listText ts).length ≤ 2 + piled ts := by
  have := textFrom_le ts 0 "["
  have e1 : (("[" : String) : Str).length = 1 := rfl
  have e2 : (("]" : String) : Str).length = 1 := rfl
  unfold listText
  rw [strApp, e2]
  omega
theorem dictText_le (ts : List Str) : (dictText ts).length ≤ 2 + piled ts := by
  have e1 : (("{" : String) : Str).length = 1 := rfl
  have e2 : (("}" : String) : Str).length = 1 := rfl
  unfold dictText
  rw [strApp, strApp, e1, e2]
  by_cases h : ts = []
  · subst h
    show 1 + 0 + 1 ≤ _
    omega
  · have := join_length_add ts h
    omega
theorem piled_le {c : Nat} : ∀ {ts : List Str}, (∀ t ∈ ts, t.length ≤ c) → piled ts ≤ ts.length * (c + 2)
  | [], _ => by simp [piled]
  | t :: ts, h => by
    have ih := piled_le (ts := ts) fun x hx => h x (List.mem_cons_of_mem _ hx)
    have := h t List.mem_cons_self
    have e : piled (t :: ts) = t.length + 2 + piled ts := by simp [piled]
    have e2 : (t :: ts).length * (c + 2) = ts.length * (c + 2) + (c + 2) := by rw [List.length_cons, Nat.succ_mul]
    omega
end VL

set_option Elab.async false
set_option linter.all false
set_option maxRecDepth 100000
set_option maxHeartbeats 4000000
namespace VL
open PySem PySem.Spec PyProof.Rows L2 PyProof.V

/-! ### nested data with dicts: what stands there; repr of it, where nothing is being shown -/
mutual
inductive Dq (H : Hp) : V → PyData → Prop
  | non : Dq H .non .none
  | bl (b : Bool) : Dq H (.bl b) (.bool b)
  | int (i : Int) : Dq H (.int i) (.int i)
  | str (x : Str) : Dq H (.str x) (.str x)
  | lst {a : Addr} {xs : List V} {ds : List PyData} : H a = some (.lst xs) → DqAll H xs ds → Dq H (.ref a) (.list ds)
  | tup {a : Addr} {xs : List V} {ds : List PyData} : H a = some (.tup xs) → DqAll H xs ds → Dq H (.ref a) (.tuple ds)
  | dic {a : Addr} {ks : List (Key × V)} {ds : List PyData} : H a = some (.dK ks) → (ks.map (·.1)).Nodup → DqAll H (ks.map (·.2)) ds → Dq H (.ref a) (.dict (zipK ks ds))
inductive DqAll (H : Hp) : List V → List PyData → Prop
  | nil : DqAll H [] []
  | cons {v : V} {vs : List V} {d : PyData} {ds : List PyData} : Dq H v d → DqAll H vs ds → DqAll H (v :: vs) (d :: ds)
end
theorem DqAll.len {H : Hp} : ∀ {vs : List V} {ds : List PyData}, DqAll H vs ds → vs.length = ds.length
  | _, _, .nil => rfl
  | _, _, .cons _ h => by simp [DqAll.len h]
theorem DqAll.of_each {H : Hp} {P : V → PyData → Prop} : ∀ {vs : List V} {ds : List PyData}, DqAll H vs ds → (∀ v d, Dq H v d → P v d) → Paired P vs ds
  | _, _, .nil, _ => .nil
  | _, _, .cons a b, f => .cons (f _ _ a) (DqAll.of_each b f)
theorem DqAll.paired {H : Hp} : ∀ {vs : List V} {ds : List PyData}, DqAll H vs ds → Paired (Dq H) vs ds
  | _, _, .nil => .nil
  | _, _, .cons a b => .cons a (DqAll.paired b)
theorem DqAll.of_paired {H : Hp} : ∀ {vs : List V} {ds : List PyData}, Paired (Dq H) vs ds → DqAll H vs ds
  | _, _, .nil => .nil
  | _, _, .cons a b => .cons a (DqAll.of_paired b)
theorem dKv_le : ∀ (ks : List (Key × V)) (ds : List PyData), ks.length = ds.length → PyData.depthAll ds ≤ PyData.depthKv (zipK ks ds)
  | [], [], _ => Nat.le_refl _
  | p :: ks, d :: ds, h => by
    have ih := dKv_le ks ds (Nat.succ.inj h)
    show max (PyData.depth d) (PyData.depthAll ds) ≤ max (max (PyData.depth (enK p.1)) (PyData.depth d)) (PyData.depthKv (zipK ks ds))
    omega
theorem dq_mono_n {H H' : Hp} (s : Same H H') : ∀ (n : Nat) (d : PyData) (v : V), PyData.depth d ≤ n → Dq H v d → Dq H' v d := by
  intro n
  induction n with
  | zero =>
    intro d v hn h
    cases h with
    | non => exact .non
    | bl b => exact .bl b
    | int i => exact .int i
    | str x => exact .str x
    | lst _ _ => exact absurd hn (by simp [PyData.depth])
    | tup _ _ => exact absurd hn (by simp [PyData.depth])
    | dic _ _ _ => exact absurd hn (by simp [PyData.depth])
  | succ n ih =>
    have all : ∀ {vs : List V} {ds : List PyData}, DqAll H vs ds → PyData.depthAll ds ≤ n → DqAll H' vs ds := by
      intro vs
      induction vs with
      | nil => intro ds h _; cases h; exact .nil
      | cons v vs iv =>
        intro ds h hd
        cases h with
        | @cons _ _ d ds a b =>
          have hd' : max (PyData.depth d) (PyData.depthAll ds) ≤ n := hd
          exact .cons (ih d v (by omega) a) (iv b (by omega))
    intro d v hn h
    cases h with
    | non => exact .non
    | bl b => exact .bl b
    | int i => exact .int i
    | str x => exact .str x
    | lst h1 h2 => exact .lst (s _ _ h1) (all h2 (by simp only [PyData.depth] at hn; omega))
    | tup h1 h2 => exact .tup (s _ _ h1) (all h2 (by simp only [PyData.depth] at hn; omega))
    | @dic a ks ds h1 nd h2 =>
      have := dKv_le ks ds (by have := h2.len; rwa [List.length_map] at this)
      exact .dic (s _ _ h1) nd (all h2 (by simp only [PyData.depth] at hn; omega))
theorem Dq.same {H H' : Hp} {v : V} {d : PyData} (h : Dq H v d) (s : Same H H') : Dq H' v d := dq_mono_n s _ d v (Nat.le_refl _) h
theorem DqAll.same {H H' : Hp} (s : Same H H') : ∀ {vs : List V} {ds : List PyData}, DqAll H vs ds → DqAll H' vs ds
  | _, _, .nil => .nil
  | _, _, .cons a b => .cons (a.same s) (DqAll.same s b)
section
variable {X : Cx} {pins : List (Addr × Obj)} {σ : L2.St} {H : Hp} {s : Shared}
/-- what repr asks of a value that reads as d -/
def RpOk (X : Cx) (s : Shared) (u : Value) (d : PyData) : Prop := ∃ as bs, Reads s.heap u d as ∧ ReadAtMost s.heap (PyData.depth d) bs ∧ ReprK X.prog X.w bs s.heap (PyData.depth d) u (PyData.shown d)
def RpAll (X : Cx) (s : Shared) (us : List Value) (ds : List PyData) : Prop := ∃ as bs, ReadsAll s.heap us ds as ∧ ReadAtMost s.heap (PyData.depthAll ds) bs ∧ ReprAllK X.prog X.w bs s.heap (PyData.depthAll ds) us (PyData.shownAll ds)
theorem rp_all {n : Nat} (ih : ∀ (d : PyData) (v : V) (u : Value), PyData.depth d ≤ n → Dq H v d → RelV v u → PyData.showable d = true → (PyData.shown d).length ≤ sizeLine → RpOk X s u d) :
    ∀ {vs : List V} {us : List Value} {ds : List PyData}, DqAll H vs ds → PyData.depthAll ds ≤ n → Vals vs us → PyData.showableAll ds = true → (∀ t ∈ PyData.shownAll ds, t.length ≤ sizeLine) → RpAll X s us ds
  | [], us, ds, h, _, r, _, _ => by
    cases h
    cases r
    exact ⟨[], [], .nil, (fun _ h => nomatch h), .nil⟩
  | v :: vs, us, ds, h, hd, r, hs, hz => by
    cases h with
    | @cons _ _ d ds a b =>
      cases r with
      | @cons _ u _ us r1 r2 =>
        have hd' : max (PyData.depth d) (PyData.depthAll ds) ≤ n := hd
        have hs' : PyData.showable d = true ∧ PyData.showableAll ds = true := by simpa [PyData.showableAll] using hs
        obtain ⟨as1, bs1, x1, y1, z1⟩ := ih d v u (by omega) a r1 hs'.1 (hz _ (by simp only [PyData.shownAll]; exact List.mem_cons_self))
        obtain ⟨as2, bs2, x2, y2, z2⟩ := rp_all ih b (by omega) r2 hs'.2 (fun t ht => hz t (by simp only [PyData.shownAll]; exact List.mem_cons_of_mem _ ht))
        refine ⟨as1 ++ as2, bs1 ++ bs2, .cons x1 x2, fun b hm => ?_, ?_⟩
        · show ∃ d' as', Reads s.heap (.ref b) d' as' ∧ PyData.depth d' ≤ max (PyData.depth d) (PyData.depthAll ds)
          rcases List.mem_append.mp hm with hm | hm
          · obtain ⟨d', as', r', hd'⟩ := y1 b hm
            exact ⟨d', as', r', by omega⟩
          · obtain ⟨d', as', r', hd'⟩ := y2 b hm
            exact ⟨d', as', r', by omega⟩
        · simp only [PyData.depthAll, PyData.shownAll]
          exact .cons ((z1.more fun b hb => List.mem_append_left bs2 hb).level_le (Nat.le_max_left _ _)) (z2.more_le (fun b hb => List.mem_append_right bs1 hb) (Nat.le_max_right _ _))
theorem pairs_vals {P : Program} {w : World} : ∀ {es : List DictEntry} {kvs : List (Key × Value)}, Pairs (mixKind P w) es kvs → es.map (·.val) = kvs.map (·.2)
  | _, _, .nil => rfl
  | _, _, .cons _ hv hp => by rw [List.map_cons, List.map_cons, hv, pairs_vals hp]
theorem pairs_keys {h : Heap} {P : Program} {w : World} : ∀ {es : List DictEntry} {vs : List (Key × Value)} {ks : List (Key × V)} {ds : List PyData}, Pairs (mixKind P w) es vs → KV ks vs → ks.length = ds.length → ReadsAll h (es.map (·.key)) ((zipK ks ds).map (·.1)) []
  | _, _, [], [], .nil, _, _ => .nil
  | _, _, p :: ks, d :: ds, .cons (kv := q) hk hv hp, r, hl => by
    cases r with
    | cons r1 r2 =>
      have hk' := hk
      rw [← r1.1] at hk'
      exact ReadsAll.cons (enK_reads _ _ hk') (pairs_keys hp r2 (Nat.succ.inj hl))
  | _, _, p :: ks, d :: ds, .nil, r, hl => by cases r
  | _, _, [], [], .cons _ _ _, r, _ => by cases r
  | _, _, [], d :: ds, _, _, hl => nomatch hl
  | _, _, p :: ks, [], _, _, hl => nomatch hl
theorem kv_vals : ∀ {ks : List (Key × V)} {vs : List (Key × Value)}, KV ks vs → Vals (ks.map (·.2)) (vs.map (·.2))
  | _, _, .nil => .nil
  | _, _, .cons r rs => .cons r.2 (kv_vals rs)
theorem dq_rp (I : Inv X pins σ H s) : ∀ (n : Nat) (d : PyData) (v : V) (u : Value), PyData.depth d ≤ n → Dq H v d → RelV v u → PyData.showable d = true → (PyData.shown d).length ≤ sizeLine → RpOk X s u d := by
  intro n
  induction n with
  | zero =>
    intro d v u hn h r hs hz
    cases h with
    | non => cases r; exact ⟨_, [], .none, (fun _ h => nomatch h), by simp only [PyData.shown]; exact .of_is ReprIs.none _ _ _⟩
    | bl b => cases r; exact ⟨_, [], .bool b, (fun _ h => nomatch h), by simp only [PyData.shown]; exact .of_is (ReprIs.bool b) _ _ _⟩
    | int i =>
      obtain ⟨t, rfl⟩ := r
      exact ⟨_, [], .int i t, (fun _ h => nomatch h), by simp only [PyData.shown]; exact .of_is (ReprIs.int t (by simpa [PyData.showable] using hs)) _ _ _⟩
    | str x =>
      obtain ⟨t, rfl⟩ := r
      exact ⟨_, [], .str x t, (fun _ h => nomatch h), by simp only [PyData.shown]; exact .of_is (ReprIs.str x t (by simpa only [PyData.shown] using hz)) _ _ _⟩
    | lst _ _ => exact absurd hn (by simp [PyData.depth])
    | tup _ _ => exact absurd hn (by simp [PyData.depth])
    | dic _ _ _ => exact absurd hn (by simp [PyData.depth])
  | succ n ih =>
    intro d v u hn h r hs hz
    cases h with
    | non => exact ih _ _ _ (Nat.zero_le _) .non r hs hz
    | bl b => exact ih _ _ _ (Nat.zero_le _) (.bl b) r hs hz
    | int i => exact ih _ _ _ (Nat.zero_le _) (.int i) r hs hz
    | str x => exact ih _ _ _ (Nat.zero_le _) (.str x) r hs hz
    | @lst a xs ds h1 h2 =>
      cases (show u = Value.ref a from r)
      obtain ⟨_, its, m, rv, ho⟩ := (show ObjOk X.prog X.w H s.heap a (.lst xs) from I.hok a _ h1)
      have zz : (listText (PyData.shownAll ds)).length ≤ sizeLine := by simpa only [PyData.shown] using hz
      obtain ⟨as, bs, ra, rm, rk⟩ := rp_all ih h2 (by simp only [PyData.depth] at hn; omega) rv (by simpa [PyData.showable] using hs) (fun t ht => Nat.le_trans (listText_mem_le ht) zz)
      have rd : Reads s.heap (.ref a) (.list ds) (a :: as) := .list ho rfl rfl ra
      have na : a ∉ bs := not_mem_of_deeper rd (by simp only [PyData.depth]; omega) rm
      refine ⟨_, a :: bs, rd, ReadAtMost.cons rd (by simp only [PyData.depth]; omega) rm, ?_⟩
      simp only [PyData.depth, PyData.shown]
      cases its with
      | nil =>
        cases ra
        simp only [PyData.shownAll, listText_nil]
        exact ReprK.listEmpty ho rfl rfl
      | cons x l => exact ReprK.list ho rfl rfl na (by simpa using rk.length_eq) (fun i y e => rk.item i y (by simpa using e))
    | @tup a xs ds h1 h2 =>
      cases (show u = Value.ref a from r)
      obtain ⟨_, its, rv, o, ho, oc, m, od⟩ := (show ObjOk X.prog X.w H s.heap a (.tup xs) from I.hok a _ h1)
      have zz : (tupleText (PyData.shownAll ds)).length ≤ sizeLine := by simpa only [PyData.shown] using hz
      obtain ⟨as, bs, ra, rm, rk⟩ := rp_all ih h2 (by simp only [PyData.depth] at hn; omega) rv (by simpa [PyData.showable] using hs) (fun t ht => Nat.le_trans (tupleText_mem_le ht) zz)
      have rd : Reads s.heap (.ref a) (.tuple ds) as := .tuple ho oc od ra
      have na : a ∉ bs := not_mem_of_deeper rd (by simp only [PyData.depth]; omega) rm
      refine ⟨_, a :: bs, rd, ReadAtMost.cons rd (by simp only [PyData.depth]; omega) rm, ?_⟩
      simp only [PyData.depth, PyData.shown]
      exact ReprK.tuple ho oc od na rk
    | @dic a ks ds h1 nd h2 =>
      cases (show u = Value.ref a from r)
      obtain ⟨_, hsys, vs, rkv, dof⟩ := (show ObjOk X.prog X.w H s.heap a (.dK ks) from I.hok a _ h1)
      have kl : ks.length = ds.length := by have := h2.len; rwa [List.length_map] at this
      have zz : (dictText (PyData.shownKv (zipK ks ds))).length ≤ sizeLine := by simpa only [PyData.shown] using hz
      obtain ⟨o, es, ep, ho, hx, hdat, _, hp, _⟩ := dof
      have vv : (zipK ks ds).map (·.2) = ds := zipK_vals kl
      obtain ⟨sh1, sh2⟩ := PyData.showableKv_split _ (show PyData.showableKv (zipK ks ds) = true by simpa [PyData.showable] using hs)
      rw [vv] at sh2
      have rk1 : ReadsAll s.heap (es.toList.map (·.key)) ((zipK ks ds).map (·.1)) [] := pairs_keys hp rkv kl
      have dle := dKv_le ks ds kl
      obtain ⟨as2, b2, ra2, hb2, k2⟩ := rp_all ih h2 (by simp only [PyData.depth] at hn; omega) (kv_vals rkv) sh2 (fun t ht => by
        rw [← vv] at ht
        obtain ⟨p, hp, hl⟩ := PyData.shownKv_val_le _ t ht
        exact Nat.le_trans hl (Nat.le_trans (dictText_mem_le hp) zz))
      obtain ⟨b1, hb1, k1⟩ := ReprAllK.of_readsAll (prog := X.prog) (w := X.w) rk1 sh1 (fun _ z => nomatch z) (fun t ht => let ⟨p, hp, hl⟩ := PyData.shownKv_key_le _ t ht; Nat.le_trans hl (Nat.le_trans (dictText_mem_le hp) zz))
      have ev : es.toList.map (·.val) = vs.map (·.2) := pairs_vals hp
      rw [← ev] at ra2 k2
      have ra2' : ReadsAll s.heap (es.toList.map (·.val)) ((zipK ks ds).map (·.2)) as2 := by rw [vv]; exact ra2
      have rd : Reads s.heap (.ref a) (.dict (zipK ks ds)) (a :: [] ++ as2) := .dict ho hx.1 hdat rk1 ra2'
      have rm : ReadAtMost s.heap (PyData.depthKv (zipK ks ds)) (b1 ++ b2) := (hb1.mono (PyData.depthAll_keys_le _)).append (hb2.mono dle)
      have na : a ∉ b1 ++ b2 := not_mem_of_deeper rd (by simp only [PyData.depth]; omega) rm
      refine ⟨_, a :: (b1 ++ b2), rd, ReadAtMost.cons rd (by simp only [PyData.depth]; omega) rm, ?_⟩
      have EK := ReprEntriesK.of_two es.toList _ _ (k1.more_le (fun b z => List.mem_append_left b2 z) (PyData.depthAll_keys_le (zipK ks ds))) (k2.more_le (fun b z => List.mem_append_right b1 z) dle)
      rw [show PyData.shownAll ds = PyData.shownAll ((zipK ks ds).map (·.2)) by rw [vv], ← PyData.shownKv_eq] at EK
      simp only [PyData.depth, PyData.shown]
      exact ReprK.dict ho hx.1 hdat hsys na EK
theorem rp_list (I : Inv X pins σ H s) {vs : List V} {us : List Value} {ds : List PyData} (h : DqAll H vs ds) (r : Vals vs us) (hs : PyData.showableAll ds = true) (hz : ∀ t ∈ PyData.shownAll ds, t.length ≤ sizeLine) : RpAll X s us ds :=
  rp_all (fun d v u hn => dq_rp I _ d v u hn) h (Nat.le_refl _) r hs hz
def rRepQ : List V → Hp → VK → Prop := fun xs H Q => ∃ (a : Addr) (d : PyData), xs = [.ref a] ∧ Dq H (.ref a) d ∧ PyData.showable d = true ∧ PyData.depth d ≤ 40 ∧ (PyData.shown d).length ≤ sizeLine ∧ Q (.str (PyData.shown d)) H
theorem call_repQ (gd : X.A.guards = some []) (hu : X.A.units + 64 < cLine) : CallR X (.builtin "repr") rRepQ := by
  intro pins s σ H xs us Q I r h
  obtain ⟨a, d, rfl, hd, hs, dep, hz, q⟩ := h
  obtain ⟨u, rfl, ru⟩ := vals1 r
  cases (show u = Value.ref a from ru)
  have fin : ∀ (h' : Heap) (v : Tok) (tk : Nat), (∀ b o, s.heap.get? b = some o → h'.get? b = some o) → EP X pins σ Q (.str (PyData.shown d) v) { s with heap := h', toks := tk } := fun h' v tk hk => ⟨.str _, H, I.kept hk, ⟨v, rfl⟩, q⟩
  cases hd with
  | @lst _ xs ds h1 h2 =>
    obtain ⟨_, its, m, rv, ho⟩ := (show ObjOk X.prog X.w H s.heap a (.lst xs) from I.hok a _ h1)
    have zz : (listText (PyData.shownAll ds)).length ≤ sizeLine := by simpa only [PyData.shown] using hz
    obtain ⟨as, bs, ra, rm, rk⟩ := rp_list I h2 rv (by simpa [PyData.showable] using hs) (fun t ht => Nat.le_trans (listText_mem_le ht) zz)
    have rd : Reads s.heap (.ref a) (.list ds) (a :: as) := .list ho rfl rfl ra
    have na : a ∉ bs := not_mem_of_deeper rd (by simp only [PyData.depth]; omega) rm
    simp only [PyData.depth] at dep
    simp only [PyData.shown] at fin
    cases its with
    | nil =>
      cases ra
      simp only [PyData.shownAll, listText_nil] at fin
      exact call_repr_slot (T := "list") (by omega) ⟨_, ho, rfl⟩ F.slot_list_repr.toG (call_list_repr_empty ⟨_, ho, rfl⟩ ho rfl ⟨_, _, rfl, fin s.heap _ _ fun _ _ e => e⟩)
    | cons x l =>
      exact call_repr_slot (T := "list") (by omega) ⟨_, ho, rfl⟩ F.slot_list_repr.toG (call_list_reprK (h₀ := s.heap) ho rfl rfl na (by simpa using rk.length_eq) (fun i y e => rk.item i y (by simpa using e)) gd (fun b _ => Clear.nil b) (by show X.A.units + 1 + _ < cLine; omega) (fun _ _ e => e) (fun h' v tk hk => ⟨_, _, rfl, fin h' v tk hk⟩) zz)
  | @tup _ xs ds h1 h2 =>
    obtain ⟨_, its, rv, o, ho, oc, m, od⟩ := (show ObjOk X.prog X.w H s.heap a (.tup xs) from I.hok a _ h1)
    have zz : (tupleText (PyData.shownAll ds)).length ≤ sizeLine := by simpa only [PyData.shown] using hz
    obtain ⟨as, bs, ra, rm, rk⟩ := rp_list I h2 rv (by simpa [PyData.showable] using hs) (fun t ht => Nat.le_trans (tupleText_mem_le ht) zz)
    have rd : Reads s.heap (.ref a) (.tuple ds) as := .tuple ho oc od ra
    have na : a ∉ bs := not_mem_of_deeper rd (by simp only [PyData.depth]; omega) rm
    simp only [PyData.depth] at dep
    simp only [PyData.shown] at fin
    exact call_repr_slot (T := "tuple") (by omega) ⟨_, ho, oc⟩ F.slot_tuple_repr (call_tuple_reprK (h₀ := s.heap) ho oc od na rk gd (fun b _ => Clear.nil b) (by show X.A.units + 1 + _ < cLine; omega) (fun _ _ e => e) (fun h' v tk hk => ⟨_, _, rfl, fin h' v tk hk⟩) zz)
  | @dic _ ks ds h1 nd h2 =>
    obtain ⟨_, hsys, vs, rkv, dof⟩ := (show ObjOk X.prog X.w H s.heap a (.dK ks) from I.hok a _ h1)
    have kl : ks.length = ds.length := by have := h2.len; rwa [List.length_map] at this
    have zz : (dictText (PyData.shownKv (zipK ks ds))).length ≤ sizeLine := by simpa only [PyData.shown] using hz
    obtain ⟨o, es, ep, ho, hx, hdat, _, hp, _⟩ := dof
    have vv : (zipK ks ds).map (·.2) = ds := zipK_vals kl
    obtain ⟨sh1, sh2⟩ := PyData.showableKv_split _ (show PyData.showableKv (zipK ks ds) = true by simpa [PyData.showable] using hs)
    rw [vv] at sh2
    have rk1 : ReadsAll s.heap (es.toList.map (·.key)) ((zipK ks ds).map (·.1)) [] := pairs_keys hp rkv kl
    have dle := dKv_le ks ds kl
    obtain ⟨as2, b2, ra2, hb2, k2⟩ := rp_list I h2 (kv_vals rkv) sh2 (fun t ht => by
      rw [← vv] at ht
      obtain ⟨p, hp, hl⟩ := PyData.shownKv_val_le _ t ht
      exact Nat.le_trans hl (Nat.le_trans (dictText_mem_le hp) zz))
    obtain ⟨b1, hb1, k1⟩ := ReprAllK.of_readsAll (prog := X.prog) (w := X.w) rk1 sh1 (fun _ z => nomatch z) (fun t ht => let ⟨p, hp, hl⟩ := PyData.shownKv_key_le _ t ht; Nat.le_trans hl (Nat.le_trans (dictText_mem_le hp) zz))
    have ev : es.toList.map (·.val) = vs.map (·.2) := pairs_vals hp
    rw [← ev] at ra2 k2
    have ra2' : ReadsAll s.heap (es.toList.map (·.val)) ((zipK ks ds).map (·.2)) as2 := by rw [vv]; exact ra2
    have rd : Reads s.heap (.ref a) (.dict (zipK ks ds)) (a :: [] ++ as2) := .dict ho hx.1 hdat rk1 ra2'
    have rm : ReadAtMost s.heap (PyData.depthKv (zipK ks ds)) (b1 ++ b2) := (hb1.mono (PyData.depthAll_keys_le _)).append (hb2.mono dle)
    have na : a ∉ b1 ++ b2 := not_mem_of_deeper rd (by simp only [PyData.depth]; omega) rm
    have EK := ReprEntriesK.of_two es.toList _ _ (k1.more_le (fun b z => List.mem_append_left b2 z) (PyData.depthAll_keys_le (zipK ks ds))) (k2.more_le (fun b z => List.mem_append_right b1 z) dle)
    rw [show PyData.shownAll ds = PyData.shownAll ((zipK ks ds).map (·.2)) by rw [vv], ← PyData.shownKv_eq] at EK
    simp only [PyData.depth] at dep
    simp only [PyData.shown] at fin
    exact call_repr_slot (T := "dict") (idr := "dict.__repr__") (by omega) ⟨o, ho, hx.1⟩ F.slot_dict_repr (call_dict_reprK (h₀ := s.heap) ho hx.1 hdat hsys na EK gd (fun b _ => Clear.nil b) (by show X.A.units + 1 + _ < cLine; omega) (fun _ _ e => e) (fun h' v tk hk => ⟨_, _, rfl, fin h' v tk hk⟩) zz)
end
end VL

set_option Elab.async false
set_option linter.all false
set_option maxRecDepth 100000
set_option maxHeartbeats 4000000
namespace VL
open PySem PySem.Spec PyProof.Rows L2
/-! ### dict comprehensions over any walk; dicts read while locked -/
theorem dc_itQ {J : It} {n : Nat} {G : Hp → Prop} {Y : Nat → Hp → V → Hp → Prop} (w : Walk J n G Y) {g : TG} {tt : TT} {tk tv : TE} {vs : List Nat} {σ : L2.St} {H1 : Hp} {D : Addr} {Qd : Hp → Prop} (Pv : Nat → Hp → Prop) (h0 : Pv 0 (upd H1 D (.dK []))) (hG : ∀ i H, i ≤ n → Pv i H → G H)
    (hs : ∀ i x H H', i < n → Pv i H → Y i H x H' → g x (wipe σ vs) H' fun σ2 H2 => wipe σ2 vs = wipe σ vs ∧ tt σ2 H2 fun b H3 =>
      if b = true then tk σ2 H3 fun y H4 => tv σ2 H4 fun z H5 => ∃ kvs k, y = kV k ∧ H5 D = some (.dK kvs) ∧ kvs.length < sizeLine ∧ Pv (i + 1) (upd H5 D (.dK (putK kvs k z))) else Pv (i + 1) H3) (hd : ∀ H, Pv n H → Qd H) :
    ∃ W : Nat → Nat → Hp → Prop, (∃ m, W 0 m (upd H1 D (.dK []))) ∧ ∀ i m H, W i m H →
      (J.stop i H ∧ Qd H) ∨ (J.go i H ∧ ∃ Nx : Hp → Prop, (∀ H', Nx H' → ∃ m', m' < m ∧ W (i + 1) m' H') ∧ ∀ x H', J.yld i H x H' → g x (wipe σ vs) H' fun σ2 H2 => wipe σ2 vs = wipe σ vs ∧ tt σ2 H2 fun b H3 =>
        if b = true then tk σ2 H3 fun y H4 => tv σ2 H4 fun z H5 => ∃ kvs k, y = kV k ∧ H5 D = some (.dK kvs) ∧ kvs.length < sizeLine ∧ Nx (upd H5 D (.dK (putK kvs k z))) else Nx H3) := by
  refine ⟨fun i m H => m = n - i ∧ i ≤ n ∧ Pv i H, ⟨n, by simp, Nat.zero_le _, h0⟩, ?_⟩
  rintro i m H ⟨rfl, hi, p⟩
  have q := hG i H hi p
  by_cases hlt : i < n
  · refine .inr ⟨w.goes i H hlt q, Pv (i + 1), fun H' p' => ⟨n - (i + 1), by omega, rfl, hlt, p'⟩, fun x H' y => hs i x H H' hlt p (w.yields i H x H' hlt q y)⟩
  · have e : i = n := by omega
    subst e
    exact .inl ⟨w.stops H q, hd H p⟩
theorem dget_fz {H : Hp} {a : Addr} {o : Obj} {kvs : List (Key × V)} {k : Key} (e : H a = some (.frz o (.dK kvs))) : DGet H a (kV k) (valV kvs k) := .inl ⟨kvs, k, .inr ⟨o, e⟩, rfl, rfl⟩
theorem putK_nw {ks : List (Key × V)} {k : Key} {v : V} (h : valV ks k = none) : putK ks k v = ks ++ [(k, v)] := by
  unfold putK
  rw [valV_any, h]
  rfl
theorem valV_out {ks : List (Key × V)} {k : Key} (h : k ∉ ks.map (·.1)) : valV ks k = none := by
  induction ks with
  | nil => rfl
  | cons p ks ih =>
    rw [valV_neg (fun z => h (by rw [List.map_cons, ← z]; exact List.mem_cons_self))]
    exact ih fun z => h (List.mem_cons_of_mem _ z)
theorem valV_nd : ∀ {ks : List (Key × V)} {i : Nat} {k : Key} {v : V}, (ks.map (·.1)).Nodup → ks[i]? = some (k, v) → valV ks k = some v
  | [], _, _, _, _, h => by simp at h
  | p :: ks, 0, k, v, nd, h => by
    simp at h
    subst h
    exact valV_pos rfl
  | p :: ks, i + 1, k, v, nd, h => by
    simp at h
    rw [List.map_cons, List.nodup_cons] at nd
    have hm : k ∈ ks.map (·.1) := List.mem_map.mpr ⟨_, List.mem_of_getElem? h, rfl⟩
    rw [valV_neg (fun z => nd.1 (by rw [z]; exact hm))]
    exact valV_nd nd.2 h
theorem zipK_keys : ∀ {ks ls : List (Key × V)} {ds : List PyData}, ks.map (·.1) = ls.map (·.1) → zipK ks ds = zipK ls ds
  | [], [], _, _ => by unfold zipK; rfl
  | p :: ks, q :: ls, [], h => by unfold zipK; rfl
  | p :: ks, q :: ls, d :: ds, h => by
    rw [List.map_cons, List.map_cons] at h
    injection h with h1 h2
    show (enK p.1, d) :: zipK ks ds = (enK q.1, d) :: zipK ls ds
    rw [h1, zipK_keys h2]
  | [], q :: ls, _, h => nomatch h
  | p :: ks, [], _, h => nomatch h
theorem zipK_app : ∀ {ks ls : List (Key × V)} {ds es : List PyData}, ks.length = ds.length → zipK (ks ++ ls) (ds ++ es) = zipK ks ds ++ zipK ls es
  | [], ls, [], es, _ => rfl
  | p :: ks, ls, d :: ds, es, h => by
    show (enK p.1, d) :: zipK (ks ++ ls) (ds ++ es) = (enK p.1, d) :: zipK ks ds ++ zipK ls es
    rw [zipK_app (Nat.succ.inj h)]
    rfl
theorem enK_inj {a b : Key} (h : enK a = enK b) : a = b := by
  cases a with
  | inl i => cases b with
    | inl j => injection h with h; rw [h]
    | inr y => exact nomatch h
  | inr x => cases b with
    | inl j => exact nomatch h
    | inr y => injection h with h; rw [h]
/-! ### what stands there is one thing -/
theorem dq_det_n {H : Hp} : ∀ (n : Nat) (d d' : PyData) (v : V), PyData.depth d ≤ n → Dq H v d → Dq H v d' → d = d' := by
  intro n
  induction n with
  | zero =>
    intro d d' v hn h h'
    cases h with
    | non => cases h'; rfl
    | bl b => cases h'; rfl
    | int i => cases h'; rfl
    | str x => cases h'; rfl
    | lst _ _ => exact absurd hn (by simp [PyData.depth])
    | tup _ _ => exact absurd hn (by simp [PyData.depth])
    | dic _ _ _ => exact absurd hn (by simp [PyData.depth])
  | succ n ih =>
    have all : ∀ {vs : List V} {ds es : List PyData}, DqAll H vs ds → DqAll H vs es → PyData.depthAll ds ≤ n → ds = es := by
      intro vs
      induction vs with
      | nil => intro ds es h h' _; cases h; cases h'; rfl
      | cons v vs iv =>
        intro ds es h h' hd
        cases h with
        | @cons _ _ d ds a b =>
          cases h' with
          | @cons _ _ e es a' b' =>
            have hd' : max (PyData.depth d) (PyData.depthAll ds) ≤ n := hd
            rw [ih d e v (by omega) a a', iv b b' (by omega)]
    intro d d' v hn h h'
    cases h with
    | non => cases h'; rfl
    | bl b => cases h'; rfl
    | int i => cases h'; rfl
    | str x => cases h'; rfl
    | lst h1 h2 =>
      simp only [PyData.depth] at hn
      cases h' with
      | lst g1 g2 => rw [h1] at g1; cases g1; rw [all h2 g2 (by omega)]
      | tup g1 g2 => rw [h1] at g1; cases g1
      | dic g1 _ g2 => rw [h1] at g1; cases g1
    | tup h1 h2 =>
      simp only [PyData.depth] at hn
      cases h' with
      | lst g1 g2 => rw [h1] at g1; cases g1
      | tup g1 g2 => rw [h1] at g1; cases g1; rw [all h2 g2 (by omega)]
      | dic g1 _ g2 => rw [h1] at g1; cases g1
    | @dic a ks ds h1 nd h2 =>
      have := dKv_le ks ds (by have := h2.len; rwa [List.length_map] at this)
      simp only [PyData.depth] at hn
      cases h' with
      | lst g1 g2 => rw [h1] at g1; cases g1
      | tup g1 g2 => rw [h1] at g1; cases g1
      | dic g1 _ g2 => rw [h1] at g1; cases g1; rw [all h2 g2 (by omega)]
theorem Dq.det {H : Hp} {v : V} {d d' : PyData} (h : Dq H v d) (h' : Dq H v d') : d = d' := dq_det_n _ d d' v (Nat.le_refl _) h h'
/-- a store at what is deeper changes nothing -/
theorem dq_upd_n {H : Hp} {a : Addr} {da : PyData} {o : HO} (ha : Dq H (.ref a) da) : ∀ (n : Nat) (d : PyData) (v : V), PyData.depth d ≤ n → PyData.depth d < PyData.depth da → Dq H v d → Dq (upd H a o) v d := by
  intro n
  induction n with
  | zero =>
    intro d v hn _ h
    cases h with
    | non => exact .non
    | bl b => exact .bl b
    | int i => exact .int i
    | str x => exact .str x
    | lst _ _ => exact absurd hn (by simp [PyData.depth])
    | tup _ _ => exact absurd hn (by simp [PyData.depth])
    | dic _ _ _ => exact absurd hn (by simp [PyData.depth])
  | succ n ih =>
    have all : ∀ {vs : List V} {ds : List PyData}, DqAll H vs ds → PyData.depthAll ds ≤ n → PyData.depthAll ds < PyData.depth da → DqAll (upd H a o) vs ds := by
      intro vs
      induction vs with
      | nil => intro ds h _ _; cases h; exact .nil
      | cons v vs iv =>
        intro ds h hd hl
        cases h with
        | @cons _ _ d ds b c =>
          have hd' : max (PyData.depth d) (PyData.depthAll ds) ≤ n := hd
          have hl' : max (PyData.depth d) (PyData.depthAll ds) < PyData.depth da := hl
          exact .cons (ih d v (by omega) (by omega) b) (iv c (by omega) (by omega))
    intro d v hn hl h
    have ne : ∀ b : Addr, v = .ref b → b ≠ a := fun b e z => by
      subst e
      subst z
      rw [h.det ha] at hl
      exact Nat.lt_irrefl _ hl
    cases h with
    | non => exact .non
    | bl b => exact .bl b
    | int i => exact .int i
    | str x => exact .str x
    | lst h1 h2 =>
      simp only [PyData.depth] at hn hl
      exact .lst (by rw [upd_ne (ne _ rfl)]; exact h1) (all h2 (by omega) (by omega))
    | tup h1 h2 =>
      simp only [PyData.depth] at hn hl
      exact .tup (by rw [upd_ne (ne _ rfl)]; exact h1) (all h2 (by omega) (by omega))
    | @dic b ks ds h1 nd h2 =>
      have := dKv_le ks ds (by have := h2.len; rwa [List.length_map] at this)
      simp only [PyData.depth] at hn hl
      exact .dic (by rw [upd_ne (ne _ rfl)]; exact h1) nd (all h2 (by omega) (by omega))
theorem Dq.upd {H : Hp} {a : Addr} {da d : PyData} {v : V} {o : HO} (h : Dq H v d) (ha : Dq H (.ref a) da) (hl : PyData.depth d < PyData.depth da) : Dq (upd H a o) v d := dq_upd_n ha _ d v (Nat.le_refl _) hl h
theorem mem_depth {d : PyData} : ∀ {ds : List PyData}, d ∈ ds → PyData.depth d ≤ PyData.depthAll ds
  | e :: ds, h => by
    show _ ≤ max (PyData.depth e) (PyData.depthAll ds)
    rcases List.mem_cons.mp h with rfl | h
    · omega
    · have := mem_depth h
      omega
/-! ### reading a dict's data -/
def keyB : PyData → Key → Bool
  | .int i, .inl j => decide (i = j)
  | .str x, .inr y => decide (x = y)
  | _, _ => false
theorem keyB_en (a b : Key) : keyB (enK a) b = decide (a = b) := by
  cases a with
  | inl i => cases b with
    | inl j => show decide (i = j) = decide (Sum.inl i = Sum.inl j); by_cases e : i = j <;> simp [e]
    | inr y => show false = decide (Sum.inl i = Sum.inr y); simp
  | inr x => cases b with
    | inl j => show false = decide (Sum.inr x = Sum.inl j); simp
    | inr y => show decide (x = y) = decide (Sum.inr x = Sum.inr y); by_cases e : x = y <;> simp [e]
def lkp : List (PyData × PyData) → Key → Option PyData
  | [], _ => none
  | p :: r, k => if keyB p.1 k = true then some p.2 else lkp r k
theorem lkp_at {H : Hp} {k : Key} : ∀ {ks : List (Key × V)} {ds : List PyData}, DqAll H (ks.map (·.2)) ds → (lkp (zipK ks ds) k = none ∧ valV ks k = none) ∨ ∃ d v, lkp (zipK ks ds) k = some d ∧ valV ks k = some v ∧ Dq H v d
  | [], ds, h => by
    cases h
    exact .inl ⟨rfl, rfl⟩
  | p :: ks, _, .cons (d := d) (ds := ds) a b => by
    have e : lkp (zipK (p :: ks) (d :: ds)) k = if keyB (enK p.1) k = true then some d else lkp (zipK ks ds) k := rfl
    rw [e, keyB_en]
    by_cases q : p.1 = k
    · rw [if_pos (decide_eq_true q), valV_pos q]
      exact .inr ⟨d, p.2, rfl, rfl, a⟩
    · rw [if_neg (by simp [q]), valV_neg q]
      exact lkp_at b
theorem dq_dict {H : Hp} {v : V} {kvs : List (PyData × PyData)} (h : Dq H v (.dict kvs)) : ∃ a ks, v = .ref a ∧ H a = some (.dK ks) ∧ (ks.map (·.1)).Nodup ∧ ks.length = kvs.length ∧
    ∀ k, (lkp kvs k = none ∧ valV ks k = none) ∨ ∃ d v, lkp kvs k = some d ∧ valV ks k = some v ∧ Dq H v d := by
  cases h with
  | @dic a ks ds h1 nd h2 =>
    refine ⟨a, ks, rfl, h1, nd, ?_, fun k => lkp_at h2⟩
    have e : ks.length = ds.length := by have := h2.len; rwa [List.length_map] at this
    have : ((zipK ks ds).map (·.2)).length = ds.length := by rw [zipK_vals e]
    rw [List.length_map] at this
    omega
theorem dq_list {H : Hp} {v : V} {ds : List PyData} (h : Dq H v (.list ds)) : ∃ a xs, v = .ref a ∧ H a = some (.lst xs) ∧ DqAll H xs ds := by
  cases h with
  | @lst a xs _ h1 h2 => exact ⟨a, xs, rfl, h1, h2⟩
theorem dq_tup {H : Hp} {v : V} {ds : List PyData} (h : Dq H v (.tuple ds)) : ∃ a xs, v = .ref a ∧ H a = some (.tup xs) ∧ DqAll H xs ds := by
  cases h with
  | @tup a xs _ h1 h2 => exact ⟨a, xs, rfl, h1, h2⟩
theorem dqAll_at {H : Hp} : ∀ {vs : List V} {ds : List PyData}, DqAll H vs ds → ∀ {i : Nat} {d : PyData}, ds[i]? = some d → ∃ v, vs[i]? = some v ∧ Dq H v d
  | _, _, .nil, i, d, h => by simp at h
  | _, _, .cons a b, 0, d, h => by
    simp at h
    subst h
    exact ⟨_, rfl, a⟩
  | _, _, .cons a b, i + 1, d, h => by
    simp at h
    obtain ⟨v, h1, h2⟩ := dqAll_at b h
    exact ⟨v, by simpa using h1, h2⟩
theorem dqAll_ap {H : Hp} : ∀ {vs ws : List V} {ds es : List PyData}, DqAll H vs ds → DqAll H ws es → DqAll H (vs ++ ws) (ds ++ es)
  | _, _, _, _, .nil, q => q
  | _, _, _, _, .cons a b, q => .cons a (dqAll_ap b q)
/-! ### small data -/
structure Small (c k : Nat) (d : PyData) : Prop where
  sh : PyData.showable d = true
  dp : PyData.depth d ≤ k
  ln : (PyData.shown d).length ≤ c
theorem Small.mono {c k c' k' : Nat} {d : PyData} (h : Small c k d) (h1 : c ≤ c') (h2 : k ≤ k') : Small c' k' d := ⟨h.sh, Nat.le_trans h.dp h2, Nat.le_trans h.ln h1⟩
theorem tupText_le (ts : List Str) : (tupleText ts).length ≤ 3 + piled ts := by
  have e1 : ((("(" : String) : Str)).length = 1 := rfl
  have e3 : (((if ts.length == 1 then ",)" else ")" : String) : Str)).length ≤ 2 := by split <;> decide
  unfold tupleText
  rw [strApp, strApp, e1]
  by_cases h : ts = []
  · subst h
    have : (Str.join ", " ([] : List Str)).length = 0 := rfl
    omega
  · have := join_length_add ts h
    omega
theorem shAll_mem : ∀ {ds : List PyData}, (∀ d ∈ ds, PyData.showable d = true) → PyData.showableAll ds = true
  | [], _ => rfl
  | d :: ds, h => by
    show (PyData.showable d && PyData.showableAll ds) = true
    rw [h d List.mem_cons_self, shAll_mem fun x hx => h x (List.mem_cons_of_mem _ hx)]
    rfl
theorem dpAll_mem {k : Nat} : ∀ {ds : List PyData}, (∀ d ∈ ds, PyData.depth d ≤ k) → PyData.depthAll ds ≤ k
  | [], _ => Nat.zero_le _
  | d :: ds, h => by
    show max (PyData.depth d) (PyData.depthAll ds) ≤ k
    have := h d List.mem_cons_self
    have := dpAll_mem fun x hx => h x (List.mem_cons_of_mem _ hx)
    omega
theorem shownAll_len : ∀ ds : List PyData, (PyData.shownAll ds).length = ds.length
  | [] => rfl
  | d :: ds => by
    show (PyData.shownAll ds).length + 1 = _
    rw [shownAll_len ds]
    rfl
theorem shownAll_mem : ∀ {ds : List PyData} {t : Str}, t ∈ PyData.shownAll ds → ∃ d ∈ ds, t = PyData.shown d
  | d :: ds, t, h => by
    rcases List.mem_cons.mp (show t ∈ PyData.shown d :: PyData.shownAll ds from h) with rfl | h
    · exact ⟨d, List.mem_cons_self, rfl⟩
    · obtain ⟨e, h1, h2⟩ := shownAll_mem h
      exact ⟨e, List.mem_cons_of_mem _ h1, h2⟩
theorem piledAll {c k : Nat} {ds : List PyData} (h : ∀ d ∈ ds, Small c k d) : piled (PyData.shownAll ds) ≤ ds.length * (c + 2) := by
  have := piled_le (c := c) (ts := PyData.shownAll ds) fun t ht => by
    obtain ⟨d, hd, rfl⟩ := shownAll_mem ht
    exact (h d hd).ln
  rwa [shownAll_len] at this
theorem small_list {c k n : Nat} {ds : List PyData} (h : ∀ d ∈ ds, Small c k d) (hl : ds.length ≤ n) : Small (2 + n * (c + 2)) (k + 1) (.list ds) := by
  refine ⟨?_, ?_, ?_⟩
  · show PyData.showableAll ds = true
    exact shAll_mem fun d hd => (h d hd).sh
  · show PyData.depthAll ds + 1 ≤ k + 1
    have := dpAll_mem fun d hd => (h d hd).dp
    omega
  · show (listText (PyData.shownAll ds)).length ≤ _
    have h1 := listText_le (PyData.shownAll ds)
    have h2 := piledAll h
    have h3 := Nat.mul_le_mul_right (c + 2) hl
    omega
theorem small_tup {c k n : Nat} {ds : List PyData} (h : ∀ d ∈ ds, Small c k d) (hl : ds.length ≤ n) : Small (3 + n * (c + 2)) (k + 1) (.tuple ds) := by
  refine ⟨?_, ?_, ?_⟩
  · show PyData.showableAll ds = true
    exact shAll_mem fun d hd => (h d hd).sh
  · show PyData.depthAll ds + 1 ≤ k + 1
    have := dpAll_mem fun d hd => (h d hd).dp
    omega
  · show (tupleText (PyData.shownAll ds)).length ≤ _
    have h1 := tupText_le (PyData.shownAll ds)
    have h2 := piledAll h
    have h3 := Nat.mul_le_mul_right (c + 2) hl
    omega
theorem small_dict {c k n : Nat} {kvs : List (PyData × PyData)} (h : ∀ p ∈ kvs, Small c k p.1 ∧ Small c k p.2) (hl : kvs.length ≤ n) : Small (2 + n * (2 * c + 4)) (k + 1) (.dict kvs) := by
  have sh : ∀ L : List (PyData × PyData), (∀ p ∈ L, Small c k p.1 ∧ Small c k p.2) → PyData.showableKv L = true ∧ PyData.depthKv L ≤ k ∧ piled (PyData.shownKv L) ≤ L.length * (2 * c + 4) := by
    intro L
    induction L with
    | nil => exact fun _ => ⟨rfl, Nat.zero_le _, by simp [PyData.shownKv, piled]⟩
    | cons p L ih =>
      intro hp
      obtain ⟨i1, i2, i3⟩ := ih fun x hx => hp x (List.mem_cons_of_mem _ hx)
      obtain ⟨a, b⟩ := hp p List.mem_cons_self
      refine ⟨?_, ?_, ?_⟩
      · show (PyData.showable p.1 && PyData.showable p.2 && PyData.showableKv L) = true
        rw [a.sh, b.sh, i1]
        rfl
      · show max (max (PyData.depth p.1) (PyData.depth p.2)) (PyData.depthKv L) ≤ k
        have := a.dp
        have := b.dp
        omega
      · have e : PyData.shownKv (p :: L) = (PyData.shown p.1 ++ (": " : Str) ++ PyData.shown p.2) :: PyData.shownKv L := rfl
        have e2 : piled (PyData.shownKv (p :: L)) = (PyData.shown p.1 ++ (": " : Str) ++ PyData.shown p.2).length + 2 + piled (PyData.shownKv L) := by rw [e]; simp [piled]
        have e3 : ((": " : String) : Str).length = 2 := rfl
        have := a.ln
        have := b.ln
        have e4 : (p :: L).length * (2 * c + 4) = L.length * (2 * c + 4) + (2 * c + 4) := by rw [List.length_cons, Nat.succ_mul]
        rw [e2, strApp, strApp]
        omega
  obtain ⟨i1, i2, i3⟩ := sh kvs h
  refine ⟨i1, ?_, ?_⟩
  · show PyData.depthKv kvs + 1 ≤ k + 1
    omega
  · show (dictText (PyData.shownKv kvs)).length ≤ _
    have h1 := dictText_le (PyData.shownKv kvs)
    have h3 := Nat.mul_le_mul_right (2 * c + 4) hl
    omega
end VL

set_option Elab.async false
set_option linter.all false
set_option maxRecDepth 100000
set_option maxHeartbeats 4000000
namespace VL
open PySem PySem.Spec PyProof.Rows L2
/-! ### copies of values: what may be copied, what is new -/
mutual
def cpy : PyData → Bool
  | .list ds => decide (ds.length ≤ 1000) && cpyAll ds
  | .dict kvs => decide (kvs.length ≤ 1000) && cpyKv kvs
  | .tuple _ => false
  | .none | .bool _ | .int _ | .str _ => true
def cpyAll : List PyData → Bool
  | [] => true
  | d :: ds => cpy d && cpyAll ds
def cpyKv : List (PyData × PyData) → Bool
  | [] => true
  | (_, d) :: r => cpy d && cpyKv r
end
theorem cpyAll_mem : ∀ {ds : List PyData}, cpyAll ds = true → ∀ d ∈ ds, cpy d = true
  | e :: ds, h, d, hd => by
    have h' : cpy e = true ∧ cpyAll ds = true := by simpa [cpyAll] using h
    rcases List.mem_cons.mp hd with rfl | hd
    · exact h'.1
    · exact cpyAll_mem h'.2 d hd
theorem cpyKv_zip : ∀ {ks : List (Key × V)} {ds : List PyData}, ks.length = ds.length → cpyKv (zipK ks ds) = true → cpyAll ds = true
  | [], [], _, _ => rfl
  | p :: ks, d :: ds, hl, h => by
    have h' : cpy d = true ∧ cpyKv (zipK ks ds) = true := by
      have e : cpyKv (zipK (p :: ks) (d :: ds)) = (cpy d && cpyKv (zipK ks ds)) := rfl
      rw [e] at h
      simpa using h
    show (cpy d && cpyAll ds) = true
    rw [h'.1, cpyKv_zip (Nat.succ.inj hl) h'.2]
    rfl
/-- what has come since H -/
def newer (H H' : Hp) : Hp := fun b => match H b with
  | none => H' b
  | some _ => none
theorem newer_some {H H' : Hp} {b : Addr} {o : HO} (h : newer H H' b = some o) : H b = none ∧ H' b = some o := by
  unfold newer at h
  cases e : H b with
  | none => rw [e] at h; exact ⟨rfl, h⟩
  | some u => rw [e] at h; exact nomatch h
theorem newer_mk {H H' : Hp} {b : Addr} {o : HO} (h1 : H b = none) (h2 : H' b = some o) : newer H H' b = some o := by
  unfold newer
  rw [h1]
  exact h2
theorem newer_same (H H' : Hp) : Same (newer H H') H' := fun b o h => (newer_some h).2
def spCopy (n : Nat) : Sp := fun vs H Q _ => ∃ (v : V) (d : PyData), vs = [v] ∧ Dq H v d ∧ cpy d = true ∧ PyData.depth d ≤ n ∧ ∀ v' H', Same H H' → Dq (newer H H') v' d → Q v' H'
end VL

set_option Elab.async false
set_option linter.all false
set_option maxRecDepth 100000
set_option maxHeartbeats 4000000
namespace VL
open PySem PySem.Spec PyProof.Rows L2

/-! ### what the text has: methods with keyword-only parameters, properties, written tuples, own exceptions without a text of their own -/
def WrT (K : PySem.W.Frag) (a : Addr) (xs : List V) : Prop := ∃ (o : Obj) (its : Array Value) (n : Nat), K.lookup a = some o ∧ o.cls = .type "tuple" ∧ o.data = .seq its n ∧ its.size ≤ sizeLine ∧ Vals xs its.toList ∧ o.dict = none
abbrev catG {α : Type} (us ws : List α) : List α := us ++ ws
def MethKE (K : PySem.W.Frag) (C : Addr) (x qual : Str) (st : Stmt) (ps : List Str) (n : Nat) (ks : List Str) : Prop :=
  ∃ (f : Addr) (fd : FuncData), Fun K x qual st f fd ∧ Meth K C x f ∧ KBn K fd ps n ks catG catG
def PropE (K : PySem.W.Frag) (C : Addr) (x qual : Str) (st : Stmt) : Prop := ∃ (p g : Addr) (fd : FuncData), PropOf K C x p g ∧ Fun K x qual st g fd ∧ Binds K fd ["self"] []
structure ExT (K : PySem.W.Frag) (mg : Str → Option Value) (x : Str) (D : Addr) : Prop where
  g : mg x = some (.ref D)
  xx : PySem.W.excIn K D [.type "ValueError", .type "Exception", .type "BaseException", .type "object"] "ValueError.__new__" = true
  kp : PySem.W.keepIn K (.ref D) = true
  bP : PySem.W.subIn K (.ref D) (.type "BaseException") = some true
  tP : PySem.W.typeIn K (.ref D) = some (.type "type")
  em : PySem.W.exmOne K (.ref D) (.ref D) = some true
  ec : ExcC K D
theorem fun_kbn {K : PySem.W.Frag} {x qual : Str} {st : Stmt} {f : Addr} {fd : FuncData} {ps : List Str} (F : Fun K x qual st f fd) (n : Nat) (ks : List Str)
    (h : ∀ (kV doc pm : Value) (an : Option Addr) (cdv ct : Value) (us ws : List Value), us.length = n → ws.length = ks.length → bindArgs (PySem.W.fnOf x qual (defArgs st) (defBody st) (defScope st) .none kV doc pm an cdv ct) ⟨us, ks.zip ws⟩ = pure (ps.zip (us ++ ws))) :
    KBn K fd ps n ks catG catG := by
  obtain ⟨oc, od, kV, doc, pm, an, cdv, ct, osl, rfl, lk, hcd⟩ := F.ex
  exact ⟨fun s us ws X l1 l2 => .of_eq (h kV doc pm an cdv ct us ws l1 l2), fun r1 r2 => r1.append r2⟩
/-! ### as callers see them -/
structure MetK (P : Program) (w : World) (K : PySem.W.Frag) (mg : Str → Option Value) (base : Heap) (k : Nat) (C : Addr) (m : Str) (sp : Sp) (n : Nat) (ks : List Str) (gV : List V → List V → List V) : Prop where
  ex : ∃ (f : Addr) (fd : FuncData) (ps : List Str) (g : List Value → List Value → List Value), Cls K C ∧ Meth K C m f ∧ FnOk P w K mg base CX0 k f fd ps sp ∧ KBn K fd ps n ks g gV
structure Pro (P : Program) (w : World) (K : PySem.W.Frag) (mg : Str → Option Value) (base : Heap) (k : Nat) (C : Addr) (x : Str) (sp : Sp) : Prop where
  ex : ∃ (p g : Addr) (fd : FuncData), Cls K C ∧ PropOf K C x p g ∧ FnOk P w K mg base CX0 k g fd ["self"] sp ∧ Binds K fd ["self"] []
/-- o.m(.., k = v, ..): n is one more than the values written -/
def tMethK (C : Addr) (m : Str) (sp : Sp) (n kn : Nat) (gV : List V → List V → List V) (ta : TE) (t tk : TA) : TE := fun σ H Q => ta σ H fun x H1 => ∃ a dx fs, x = .ref a ∧ H1 a = some (.ins C dx fs) ∧ fs.lookup m = none ∧ t σ H1 fun vs H2 => tk σ H2 fun zs H3 => vs.length + 1 = n ∧ zs.length = kn ∧ sp (gV (.ref a :: vs) zs) H3 Q E0
section
variable {X : Cx} {k j n : Nat} {C : Addr} {m x : Str} {ks : List Str} {sp : Sp} {pos apos : Pos} {e o : Expr} {es : List Expr} {kws : List Keyword} {ta : TE} {t tk : TA} {gV : List V → List V → List V}
theorem pe_mtK {pl : Sem Bool} (c : MetK X.prog X.w X.K X.mg X.base k C m sp n ks gV) (hr : Room j X.A) (hk : k ≤ j) (he : PE X o ta) (ha : PA X (e :: es) t) (hkw : PK X kws tk)
    (hall : (backToKw pos (keywordEach kws X.env)).all (·.1.isSome) = true := by rfl) (hks : (backToKw pos (keywordEach kws X.env)).filterMap (·.1) = ks := by rfl)
    (hst : starEach (e :: es) X.env = (false, eval e X.env) :: starEach es X.env := by rfl)
    (hpl : ((backTo pos (starEach (e :: es) X.env)).any (·.1) || (backToKw pos (keywordEach kws X.env)).any (·.1.isNone)) = false := by rfl)
    (ht : eval (.Call (.Attribute o m apos) (e :: es) kws pos) X.env = (do
      let ov ← eval o X.env
      standAt apos.atName
      let (f, first) ← holding [ov] (getMethod ov m pl)
      callWith pos f first (backTo pos (starEach (e :: es) X.env)) (backToKw pos (keywordEach kws X.env))) := by rfl) :
    PE X (.Call (.Attribute o m apos) (e :: es) kws pos) (tMethK C m sp n ks.length gV ta t tk) := by
  obtain ⟨f, fd, ps, g, hc, hm, F, b⟩ := c.ex
  refine ⟨fun pins s σ H Q I h => ?_⟩
  refine PySem.W.methodCall_KW (pl := pl) (thn (he.run pins s σ H _ I h) fun u s1 ⟨x, H1, I1, rx, a, dx, fs, ex, ea, l, q⟩ => ?_) ht
  subst ex
  obtain rfl : u = Value.ref a := rx
  refine getmeth_ok I1 ea hc hm l ?_
  refine PySem.W.callWith_KW (first := [.ref a]) (h₀ := X.base) I.ok.mod.kin hm.kp hall (thn (ha.run pos pins s1 σ H1 _ I1 q) fun us s2 ⟨vs, H2, I2, r, q2⟩ => ?_) hpl hst
  refine thn (hkw.run pos pins s2 σ H2 _ I2 q2) fun ws s3 ⟨zs, H3, I3, rz, l1, l2, q3⟩ => ⟨I3.kIn, ?_⟩
  rw [hks]
  exact run_fnN (us := .ref a :: us) (vs := .ref a :: vs) F (hr.mono hk) b pass0 I3 (.cons rfl r) rz l1 l2 q3
theorem pe_mtK0 {pl : Sem Bool} (c : MetK X.prog X.w X.K X.mg X.base k C m sp n ks gV) (hr : Room j X.A) (hk : k ≤ j) (he : PE X o ta) (hkw : PK X kws tk)
    (hall : (backToKw pos (keywordEach kws X.env)).all (·.1.isSome) = true := by rfl) (hks : (backToKw pos (keywordEach kws X.env)).filterMap (·.1) = ks := by rfl)
    (hpl : ((backTo pos (starEach [] X.env)).any (·.1) || (backToKw pos (keywordEach kws X.env)).any (·.1.isNone)) = false := by rfl)
    (ht : eval (.Call (.Attribute o m apos) [] kws pos) X.env = (do
      let ov ← eval o X.env
      standAt apos.atName
      let (f, first) ← holding [ov] (getMethod ov m pl)
      callWith pos f first (backTo pos (starEach [] X.env)) (backToKw pos (keywordEach kws X.env))) := by rfl) :
    PE X (.Call (.Attribute o m apos) [] kws pos) (tMethK C m sp n ks.length gV ta tNil tk) := by
  obtain ⟨f, fd, ps, g, hc, hm, F, b⟩ := c.ex
  refine ⟨fun pins s σ H Q I h => ?_⟩
  refine PySem.W.methodCall_KW (pl := pl) (thn (he.run pins s σ H _ I h) fun u s1 ⟨x, H1, I1, rx, a, dx, fs, ex, ea, l, q⟩ => ?_) ht
  subst ex
  obtain rfl : u = Value.ref a := rx
  refine getmeth_ok I1 ea hc hm l ?_
  refine PySem.W.callWith_KW0 (first := [.ref a]) (h₀ := X.base) I.ok.mod.kin hm.kp hall ?_ hpl
  refine thn (hkw.run pos pins s1 σ H1 _ I1 q) fun ws s3 ⟨zs, H3, I3, rz, l1, l2, q3⟩ => ⟨I3.kIn, ?_⟩
  rw [hks]
  exact run_fnN (us := [.ref a]) (vs := [.ref a]) F (hr.mono hk) b pass0 I3 (.cons rfl .nil) rz l1 l2 q3
theorem pe_pr (c : Pro X.prog X.w X.K X.mg X.base k C x sp) (hr : Room j X.A) (hk : k + 1 ≤ j) (he : PE X e ta) (hab : attributeBase e x X.env (eval e X.env) = eval e X.env := by rfl) : PE X (.Attribute e x pos) (tProp C sp [] E0 ta) := by
  obtain ⟨p, g, fd, hc, hp, F, b⟩ := c.ex
  exact pe_prop he hc hp F (hr.mono hk) b .nil pass0 hab
end
section
variable {P : Program} {w : World} {K : PySem.W.Frag} {mg : Str → Option Value} {base : Heap}
theorem metK_of {C : Addr} {x qual : Str} {st : Stmt} {ps ks N : List Str} {k n : Nat} {sp : Sp} (D : MethKE K C x qual st ps n ks) (c : Cls K C) (S : FnScope N ps (defScope st)) (len : ∀ vs H Q E, sp vs H Q E → vs.length = ps.length)
    (hbody : ∀ (f : Addr) (cdv : Value) (A : Around) (outer : List Env) (s : Shared) (H : Hp) (vs : List V) (Q : VK) (E : XK), Room k (A.deeper (envOfC qual (defScope st) s.heap.objs.size f cdv)) → sp vs H Q E →
      ∃ t, PSs (cxOf CX0 P w K mg base N qual (defScope st) f cdv A outer s H E).nox (defBody st) t ∧ t { nx := fun _ H' => Q .non H', rt := Q } (start N vs) H) : MetK P w K mg base (k + 1) C x sp n ks catG := by
  obtain ⟨f, fd, F, hm, b⟩ := D
  exact ⟨f, fd, ps, _, c, hm, F.ok S len (hbody f), b⟩
theorem pro_of {C : Addr} {x qual : Str} {st : Stmt} {N : List Str} {k : Nat} {sp : Sp} (D : PropE K C x qual st) (c : Cls K C) (S : FnScope N ["self"] (defScope st)) (len : ∀ vs H Q E, sp vs H Q E → vs.length = 1)
    (hbody : ∀ (f : Addr) (cdv : Value) (A : Around) (outer : List Env) (s : Shared) (H : Hp) (vs : List V) (Q : VK) (E : XK), Room k (A.deeper (envOfC qual (defScope st) s.heap.objs.size f cdv)) → sp vs H Q E →
      ∃ t, PSs (cxOf CX0 P w K mg base N qual (defScope st) f cdv A outer s H E).nox (defBody st) t ∧ t { nx := fun _ H' => Q .non H', rt := Q } (start N vs) H) : Pro P w K mg base (k + 1) C x sp := by
  obtain ⟨p, g, fd, hp, F, b⟩ := D
  exact ⟨p, g, fd, c, hp, F.ok S len (hbody g), b⟩
end
end VL

set_option Elab.async false
set_option linter.all false
set_option maxRecDepth 100000
set_option maxHeartbeats 4000000
namespace VL
open PySem PySem.Spec PyProof.Rows L2
/-! ### rules whose readings speak of K, with K told: within comprehensions and except suites -/
theorem u65 {A : Around} {k : Nat} (r : Room k A) : A.units + 65 < cLine := by have := r.un; omega
section
variable {X : Cx} {K : PySem.W.Frag} {e o : Expr} {f : Str} {pos : Pos} {ta : TE}
theorem pe_fldS (hK : X.K = K) (he : PE X e ta) (hb : attributeBase e f X.env (eval e X.env) = eval e X.env) : PE X (.Attribute e f pos) (tFld K ta f) := by subst hK; exact pe_fld he hb
theorem pe_conS (hK : X.K = K) (he : PE X e ta) (hb : attributeBase e f X.env (eval e X.env) = eval e X.env) : PE X (.Attribute e f pos) (tCon K ta f) := by subst hK; exact pe_con he hb
theorem pe_cvalS (hK : X.K = K) (he : PE X e ta) (hb : attributeBase e f X.env (eval e X.env) = eval e X.env := by rfl) : PE X (.Attribute e f pos) (ClX.tCVal K ta f) := by subst hK; exact ClX.pe_cval he hb
theorem ix_listS (hK : X.K = K) : IxR X (rIxL K) := by subst hK; exact ix_list
theorem ix_tupS (hK : X.K = K) : IxR X (rIxT K) := by subst hK; exact ix_tup
theorem sl_listS (hK : X.K = K) : SlR X (rSlL K) := by subst hK; exact sl_list
theorem sl_tupS (hK : X.K = K) : SlR X (rSlT K) := by subst hK; exact sl_tup
theorem op_in_seqS (hK : X.K = K) : OpR X (compareOp .In) (rIn K false) := by subst hK; exact op_in_seq
theorem op_notIn_seqS (hK : X.K = K) : OpR X (compareOp .NotIn) (rIn K true) := by subst hK; exact op_notIn_seq
theorem call_len_seqS (hK : X.K = K) : CallR X (.builtin "len") (fun xs H Q => ∃ p ys, xs = [.ref p] ∧ (SqL K H p ys ∨ SqT K H p ys) ∧ Q (.int ys.length) H) := by subst hK; exact call_len_seq
theorem call_list_ofS (hK : X.K = K) : CallR X (.type "list") (fun xs H Q => ∃ p ys, xs = [.ref p] ∧ (SqL K H p ys ∨ SqT K H p ys) ∧ ∀ l, H l = none → Q (.ref l) (upd H l (.lst ys))) := by subst hK; exact call_list_of
theorem call_isiS (hK : X.K = K) : CallR X (.builtin "isinstance") (rIsi K) := by subst hK; exact call_isi
theorem op_eqDS (hK : X.K = K) (hu : X.A.units + 64 < cLine) : OpR X (compareOp .Eq) (rEqD K) := by subst hK; exact op_eqD hu
theorem op_neDS (hK : X.K = K) (hu : X.A.units + 64 < cLine) : OpR X (compareOp .NotEq) (rNeD K) := by subst hK; exact op_neD hu
theorem cr_maxS (hK : X.K = K) (hc : X.calm = true) : CallR X (.builtin "max") (rMax K) := by subst hK; exact cr_max hc
theorem cr_minS (hK : X.K = K) (hc : X.calm = true) : CallR X (.builtin "min") (rMin K) := by subst hK; exact cr_min hc
theorem op_inDS (hK : X.K = K) (hu : X.A.units + 65 < cLine) : OpR X (compareOp .In) (rInD K) := by subst hK; exact op_inD hu
theorem pt_truthS (hK : X.K = K) (ha : PE X e ta) (he : ∀ whole, isTrue e X.env whole = (do let v ← whole; standAt e.pos; holding [v] (truthy v))) :
    PT X e (fun σ H Q => ta σ H fun x H' => ∃ k, TruV K x H' k ∧ Q k H') := by subst hK; exact pt_truth ha he
theorem pi_listS {tg : Expr} (hK : X.K = K) (hl : PE X e ta) : PI X tg e (iList K ta) := by subst hK; exact pi_list hl
theorem pi_tupS {tg : Expr} (hK : X.K = K) (hl : PE X e ta) : PI X tg e (iTup K ta) := by subst hK; exact pi_tup hl
theorem pg_tupS {es : List Expr} {k : Nat} {t : TGs} {n : Nat} (hK : X.K = K) (hc : X.calm = true) (h : PGs X es t)
    (hn : (assignEach es X.env).length = n := by rfl) (hst : (assignEach es X.env).findIdx? (·.1) = none := by rfl) : PG X (.Tuple es k pos) (gTup K n t) := by subst hK; exact pg_tup hc h hn hst
end
end VL

set_option Elab.async false
set_option linter.all false
set_option maxRecDepth 100000
set_option maxHeartbeats 4000000
namespace VL
open PySem PySem.Spec PyProof.Rows L2

/-! ### texts as lists of signs -/
abbrev TX (l : List Nat) : Str := ⟨l.toArray⟩
theorem TX_tl (l : List Nat) : (TX l).cps.toList = l := by simp
theorem TX_len (l : List Nat) : (TX l).length = l.length := by simp [Str.length]
theorem TX_cat (a b : List Nat) : TX a ++ TX b = TX (a ++ b) := SX.S_cat a b
theorem TX_inj {a b : List Nat} (h : TX a = TX b) : a = b := SX.S_inj h
theorem vstr_TX {a b : List Nat} : decide (V.str (TX a) = V.str (TX b)) = decide (a = b) := by
  by_cases e : a = b
  · subst e; simp
  · have : ¬ V.str (TX a) = V.str (TX b) := fun q => e (TX_inj (V.str.inj q))
    rw [decide_eq_false this, decide_eq_false e]
theorem one_eq {c d : Nat} : decide (V.str (TX [c]) = V.str (TX [d])) = decide (c = d) := by
  rw [vstr_TX]
  by_cases e : c = d
  · subst e; simp
  · simp [e]
/-- the sign at a place -/
theorem at_mid {pre r : List Nat} {c : Nat} {i : Int} (hi : i = (pre.length : Int)) : atI (TX (pre ++ c :: r)).cps.toList i = some c := by
  subst hi
  rw [TX_tl]
  unfold atI ixN
  rw [if_pos (by omega), if_pos (by simp; omega)]
  show (pre ++ c :: r)[(pre.length : Int).toNat]? = _
  rw [Int.toNat_natCast]
  simp
theorem getD_TX (l : List Nat) (v : Nat) : (TX l).cps.getD v 0 = l.getD v 0 := by
  simp only [Array.getD, List.getD_eq_getElem?_getD]
  by_cases h : v < l.length
  · rw [dif_pos (by simpa using h)]
    simp [h]
  · rw [dif_neg (by simpa using h), List.getElem?_eq_none (by omega)]
    rfl
theorem lt_one {c d : Nat} : ([c] < [d]) ↔ c < d := by
  constructor
  · intro h
    cases h with
    | rel h => exact h
    | cons h => cases h
  · intro h
    exact .rel h
/-- s.startswith(y, i) -/
theorem starts_at {pre R y : List Nat} {i : Int} (hi : i = (pre.length : Int)) : Txt.startswith3 (TX (pre ++ R)) (TX y) i = (R.take y.length == y) := by
  subst hi
  have e : fromIndex (TX (pre ++ R)).length (pre.length : Int) = pre.length := by
    unfold fromIndex
    rw [if_neg (by omega)]
    omega
  unfold Txt.startswith3
  rw [e, StrLaws.subAt_eq]
  have h1 : (TX (pre ++ R)).cps.toList.drop pre.length = R := by simp
  rw [h1, TX_len, TX_len]
  show (decide (pre.length + y.length ≤ (pre ++ R).length) && (R.take y.length == (TX y).cps.toList)) = _
  rw [TX_tl, List.length_append]
  by_cases h : y.length ≤ R.length
  · rw [decide_eq_true (by omega)]
    rfl
  · rw [decide_eq_false (by omega)]
    have : (R.take y.length == y) = false := by
      refine beq_eq_false_iff_ne.mpr fun q => h ?_
      have := congrArg List.length q
      rw [List.length_take] at this
      omega
    rw [this]
    rfl
/-- s.find("\n", i) -/
theorem find_nl {pre c r : List Nat} {d : Nat} {i : Int} (hi : i = (pre.length : Int)) (hc : d ∉ c) : Txt.find3 (TX (pre ++ (c ++ d :: r))) (TX [d]) i = ((pre.length + c.length : Nat) : Int) := by
  subst hi
  have e : fromIndex (TX (pre ++ (c ++ d :: r))).length (pre.length : Int) = pre.length := by
    unfold fromIndex
    rw [if_neg (by omega)]
    omega
  have hg : ∀ v, v < (pre ++ (c ++ d :: r)).length → (TX (pre ++ (c ++ d :: r))).cps.getD v 0 = (pre ++ (c ++ d :: r)).getD v 0 := fun v _ => getD_TX _ v
  have hat : (pre ++ (c ++ d :: r)).getD (pre.length + c.length) 0 = d := by simp [List.getD_eq_getElem?_getD]
  have hlt : pre.length + c.length < (pre ++ (c ++ d :: r)).length := by rw [List.length_append, List.length_append, List.length_cons]; omega
  rcases StrLaws.find3_spec (TX (pre ++ (c ++ d :: r))) d (pre.length : Int) with ⟨_, h2⟩ | ⟨k, h1, h2, h3, h4, h5⟩
  · rw [e, TX_len] at h2
    exact absurd (by rw [hg _ hlt]; exact hat) (h2 (pre.length + c.length) (by omega) hlt)
  · rw [e] at h2 h5
    rw [TX_len] at h3
    rw [h1]
    have hk : k = pre.length + c.length := by
      rcases Nat.lt_trichotomy k (pre.length + c.length) with q | q | q
      · exfalso
        rw [hg k h3] at h4
        have e3 : (pre ++ (c ++ d :: r)).getD k 0 = c.getD (k - pre.length) 0 := by
          rw [List.getD_eq_getElem?_getD, List.getD_eq_getElem?_getD, List.getElem?_append_right h2, List.getElem?_append_left (by omega)]
        rw [e3] at h4
        apply hc
        have hlt2 : k - pre.length < c.length := by omega
        rw [List.getD_eq_getElem?_getD, List.getElem?_eq_getElem hlt2] at h4
        have h4 : c[k - pre.length] = d := h4
        rw [← h4]
        exact List.getElem_mem hlt2
      · exact q
      · exfalso
        exact h5 (pre.length + c.length) (by omega) q (by rw [hg _ hlt]; exact hat)
    rw [hk]
/-- s[i:j] -/
theorem cut_mid {pre m r : List Nat} {i j : Int} (hi : i = (pre.length : Int)) (hj : j = ((pre.length + m.length : Nat) : Int)) : cutS (TX (pre ++ (m ++ r))) (some i) (some j) = TX m := by
  subst hi hj
  unfold cutS
  rw [TX_len, HT.sIx_nat, HT.sIx_nat, TX_tl]
  have e1 : min pre.length (pre ++ (m ++ r)).length = pre.length := by simp
  have e2 : min (pre.length + m.length) (pre ++ (m ++ r)).length = pre.length + m.length := by simp
  rw [e1, e2]
  refine congrArg TX ?_
  rw [List.drop_left, Nat.add_sub_cancel_left, List.take_left]

/-! ### rows -/
def rws : List Nat → List Nat → List (List Nat)
  | acc, [] => [acc]
  | acc, c :: r => if c = 10 then acc :: rws [] r else rws (acc ++ [c]) r
theorem spl_rws : ∀ (l acc : List Nat), TL.spl [10] 0 acc l = rws acc l
  | [], acc => by rw [TL.spl_nil]; rfl
  | c :: r, acc => by
    unfold rws
    by_cases h : c = 10
    · subst h
      rw [if_pos rfl, TL.spl_hit (by rfl)]
      exact congrArg (acc :: ·) (spl_rws r [])
    · rw [if_neg h, TL.spl_miss (by
        show TL.pre [10] (c :: r) = false
        unfold TL.pre
        simp [h])]
      exact spl_rws r _
theorem rws_ne : ∀ (l acc : List Nat), rws acc l ≠ []
  | [], acc => by unfold rws; simp
  | c :: r, acc => by
    unfold rws
    split
    · simp
    · exact rws_ne r _
def lnOf (l : List Nat) : Nat := (rws [] l).length
def clOf (l : List Nat) : Nat := ((rws [] l).getLast (rws_ne _ _)).length
theorem rws_plain : ∀ (l acc m : List Nat), 10 ∉ m → ∃ fr la, rws acc l = fr ++ [la] ∧ rws acc (l ++ m) = fr ++ [la ++ m]
  | [], acc, m, h => by
    refine ⟨[], acc, rfl, ?_⟩
    show rws acc m = [acc ++ m]
    induction m generalizing acc with
    | nil => rw [List.append_nil]; rfl
    | cons c m ih =>
      have hc : c ≠ 10 := fun e => h (by rw [e]; exact List.mem_cons_self)
      unfold rws
      rw [if_neg hc, ih _ fun e => h (List.mem_cons_of_mem _ e), List.append_assoc]
      rfl
  | c :: r, acc, m, h => by
    rw [List.cons_append]
    unfold rws
    by_cases hc : c = 10
    · rw [if_pos hc, if_pos hc]
      obtain ⟨fr, la, e1, e2⟩ := rws_plain r [] m h
      exact ⟨acc :: fr, la, by rw [e1]; rfl, by rw [e2]; rfl⟩
    · rw [if_neg hc, if_neg hc]
      exact rws_plain r _ m h
theorem rws_nl : ∀ (l acc : List Nat), rws acc (l ++ [10]) = rws acc l ++ [[]]
  | [], acc => by
    show rws acc [10] = [acc] ++ [[]]
    unfold rws
    rw [if_pos rfl]
    rfl
  | c :: r, acc => by
    rw [List.cons_append]
    unfold rws
    split
    · rw [rws_nl r []]; rfl
    · exact rws_nl r _
theorem getLast_of {α : Type} {l fr : List α} {la : α} (h : l ≠ []) (e : l = fr ++ [la]) : l.getLast h = la := by
  subst e
  simp
theorem ln_plain (l m : List Nat) (h : 10 ∉ m) : lnOf (l ++ m) = lnOf l := by
  obtain ⟨fr, la, e1, e2⟩ := rws_plain l [] m h
  unfold lnOf
  rw [e1, e2]
  simp
theorem cl_plain (l m : List Nat) (h : 10 ∉ m) : clOf (l ++ m) = clOf l + m.length := by
  obtain ⟨fr, la, e1, e2⟩ := rws_plain l [] m h
  unfold clOf
  rw [getLast_of _ e1, getLast_of _ e2, List.length_append]
theorem ln_nl (l : List Nat) : lnOf (l ++ [10]) = lnOf l + 1 := by
  unfold lnOf
  rw [rws_nl]
  simp
theorem cl_nl (l : List Nat) : clOf (l ++ [10]) = 0 := by
  unfold clOf
  rw [getLast_of _ (rws_nl l [])]
  rfl
theorem cl_le : ∀ l : List Nat, clOf l ≤ l.length := by
  intro l
  have : ∀ (l acc : List Nat), ((rws acc l).getLast (rws_ne _ _)).length ≤ acc.length + l.length := by
    intro l
    induction l with
    | nil => intro acc; simp [rws]
    | cons c r ih =>
      intro acc
      by_cases hc : c = 10
      · have e : rws acc (c :: r) = acc :: rws [] r := by
          show (if c = 10 then _ else _) = _
          rw [if_pos hc]
        have e2 : (rws acc (c :: r)).getLast (rws_ne _ _) = (rws [] r).getLast (rws_ne _ _) := by
          simp only [e]
          exact List.getLast_cons (rws_ne _ _)
        rw [e2]
        have := ih []
        simp at this ⊢
        omega
      · have e : rws acc (c :: r) = rws (acc ++ [c]) r := by
          show (if c = 10 then _ else _) = _
          rw [if_neg hc]
        have e2 : (rws acc (c :: r)).getLast (rws_ne _ _) = (rws (acc ++ [c]) r).getLast (rws_ne _ _) := by simp only [e]
        rw [e2]
        have := ih (acc ++ [c])
        simp at this ⊢
        omega
  have := this l []
  simpa [clOf] using this
/-- row = source.split("\n"): how many, and the last one's length -/
theorem split_rows (l : List Nat) : Txt.split (TX l) (TX [10]) = (rws [] l).map TX := by
  have := SX.split_S (a := l) (b := [10]) (by simp) (by decide)
  rw [spl_rws] at this
  exact this
theorem rows_last (l : List Nat) : ∃ la : List Nat, atI ((rws [] l).map fun r => V.str (TX r)) (-1) = some (.str (TX la)) ∧ la.length = clOf l := by
  refine ⟨(rws [] l).getLast (rws_ne _ _), ?_, rfl⟩
  have hp : 0 < (rws [] l).length := List.length_pos_iff.mpr (rws_ne _ _)
  unfold atI ixN
  rw [if_neg (by decide), if_pos (by rw [List.length_map]; omega)]
  show ((rws [] l).map fun r => V.str (TX r))[_]? = _
  have e : (-1 + (((rws [] l).map fun r => V.str (TX r)).length : Int)).toNat = (rws [] l).length - 1 := by rw [List.length_map]; omega
  rw [e, List.getElem?_map, List.getElem?_eq_getElem (by omega), List.getLast_eq_getElem]
  rfl

/-! ### signs -/
def isLet (c : Nat) : Bool := (decide (97 ≤ c) && decide (c ≤ 122)) || (decide (65 ≤ c) && decide (c ≤ 90))
def isDig (c : Nat) : Bool := decide (48 ≤ c) && decide (c ≤ 57)
def isWs (c : Nat) : Bool := isLet c || isDig c || decide (c = 95)
end VL

set_option Elab.async false
set_option linter.all false
set_option maxRecDepth 100000
set_option maxHeartbeats 4000000
namespace PySem
section
variable {prog : Program} {w : World} {K : Type} [DecidableEq K] {knd : KeyKind prog w K} {A : Around} {E : Value → Shared → Prop} {s : Shared}
theorem wpAny_dictPut_pairs {d : Addr} {kvs : List (K × Value)} {k : K} {key v : Value} {Q : Unit → Shared → Prop} (hkey : knd.is k key = true) (hm : s.heap.DictOf knd d kvs)
    (hQ : ∀ h', h'.DictOf knd d (stored kvs k v) → Heap.SameBut d s.heap h' → Q () { s with heap := h' })
    (hsz : kvs.length ≤ sizeLine := by size_fits) :
    wpAny (model prog w) A (dictPut d (knd.hash k) key v) Q E s := by
  obtain ⟨o, es, ep, ho, hc, hd, hk, hp, hn⟩ := hm
  have hes : es.size ≤ sizeLine := by have e1 := hp.length; have e2 : es.toList.length = es.size := by simp
                                      omega
  unfold dictPut
  refine wpAny_bind (wpAny_dictFind_of hkey ho hd hk ?_)
  have hidx : (es.findIdx? fun e => knd.is k e.key) = kvs.findIdx? fun kv => decide (kv.1 = k) := by
    rw [← hp.findIdx k]; obtain ⟨l⟩ := es; simp
  cases hi : es.findIdx? fun e => knd.is k e.key with
  | some i =>
    refine wpAny_updateDict ho hd (hQ _ ⟨_, _, ep, Heap.get?_update_self _ ho (Obj.isFreed_of_dict (Obj.data_mapDict hd _)),
      hc.mapDict _, Obj.data_mapDict hd _, hk.modify _ _, ?_, ?_⟩ (Heap.SameBut.update ..))
    · rw [stored, if_pos (any_of_findIdx_some (hidx ▸ hi))]
      have hl : (es.toList.findIdx? fun e => knd.is k e.key) = some i := by rw [← hi]; obtain ⟨l⟩ := es; simp
      have := hp.modify hn hl v
      obtain ⟨l⟩ := es
      simpa using this
    · rw [stored, if_pos (any_of_findIdx_some (hidx ▸ hi)), keys_map_store]; exact hn
  | none =>
    have hnot : k ∉ kvs.map (·.1) := not_mem_of_findIdx_none (hidx ▸ hi)
    have hany : ¬ (kvs.any fun kv => decide (kv.1 = k)) = true := by
      rw [List.any_eq_true]; rintro ⟨kv, hkv, he⟩
      exact hnot (List.mem_map.mpr ⟨kv, hkv, of_decide_eq_true he⟩)
    refine wpAny_updateDictKeys (hz := hes) ho hd (hQ _ ⟨_, _, ep + 1, Heap.get?_update_self _ ho (Obj.isFreed_of_dict (Obj.data_mapDictKeys hd _)),
      hc.mapDictKeys _, Obj.data_mapDictKeys hd _, hk.push hkey _, ?_, ?_⟩ (Heap.SameBut.update ..))
    · rw [stored, if_neg hany]
      have := hp.append hkey (knd.hash k) v
      obtain ⟨l⟩ := es
      simpa using this
    · rw [stored, if_neg hany, List.map_append, List.nodup_append]
      refine ⟨hn, by simp, ?_⟩
      intro a ha b hb
      simp only [List.map_cons, List.map_nil, List.mem_singleton] at hb
      subst hb
      exact fun e => hnot (e ▸ ha)

/-- {**a, ..}: the entries of a dict put into another one -/
theorem wpAny_mergeMapping {d o : Addr} {kvs more : List (K × Value)} {Q : Unit → Shared → Prop} (hnr : ∀ k a, knd.is k (.ref a) = false) (hdo : d ≠ o) (hoS : (o == sysModules) = false)
    (hd : s.heap.DictOf knd d kvs) (ho : s.heap.DictOf knd o more)
    (hQ : ∀ h', h'.DictOf knd d (merged kvs more) → h'.DictOf knd o more → Heap.SameBut d s.heap h' → Q () { s with heap := h' })
    (hsz : kvs.length + more.length ≤ sizeLine := by size_fits) :
    wpAny (model prog w) A (mergeMapping d (.ref o) false) Q E s := by
  obtain ⟨od, esd, epd, hod, hcd, hdd, hkd, hpd, hnd⟩ := id hd
  obtain ⟨oo, eso, epo, hoo, hco, hdo', hko, hpo, hno⟩ := id ho
  have hlen : more.length = eso.size := by rw [← hpo.length]; simp
  unfold mergeMapping
  refine wpAny_bind (wpAny_isInstance ho.typeIs isSubtype_dict_dict ?_)
  dsimp only
  rw [if_pos rfl]
  refine wpAny_bind (wpAny_specialOf ho.typeIs F.slot_dict_iter.lookup ?_)
  refine wpAny_bind (wpAny_pure ?_)
  have e0 : (some (Value.builtin "dict.__iter__") == some (Value.builtin "dict.__iter__")) = true := by simp
  rw [e0]
  dsimp only
  rw [if_neg (by rw [hoS]; exact Bool.false_ne_true)]
  have loop : wpAny (model prog w) A (do
      let l0 ← dictEntries o
      let epoch ← dictEpoch o
      forIn (List.range l0.size) PUnit.unit fun i (_ : PUnit) => (do
          let l' ← dictEntries o
          match l'[i]? with
            | some e => do
              holding [e.key, e.val] (if false = true then do
                      let r ← dictFind d e.key e.hash
                      if r.isSome = true then do
                          rule "dict.merge.duplicate-key"
                          let x ← newExc (Value.type "KeyError") [e.key]
                          raiseNew x
                          dictPut d e.hash e.key e.val
                        else dictPut d e.hash e.key e.val
                    else dictPut d e.hash e.key e.val)
              let ep' ← dictEpoch o
              if (ep' != epoch) = true then do
                  (unsupported "dict.changed-during-merge" : Sem PUnit)
                  pure (ForInStep.yield PUnit.unit)
                else pure (ForInStep.yield PUnit.unit)
            | _ => do
              (unsupported "dict.changed-during-merge" : Sem PUnit)
              pure (ForInStep.yield PUnit.unit) : Sem (ForInStep PUnit))
      pure ()) Q E s := by
    refine wpAny_bind (wpAny_dictEntries hoo hdo' ?_)
    refine wpAny_bind (wpAny_dictEpoch hoo hdo' ?_)
    refine wpAny_bind ?_
    refine wpAny_forIn_list _
      (fun rest _ s' => ∃ h' i, s' = { s with heap := h' } ∧ rest = List.range' i (eso.size - i) ∧ i ≤ eso.size ∧ h'.DictOf knd d (merged kvs (more.take i)) ∧ h'.get? o = some oo ∧ Heap.SameBut d s.heap h')
      _ ?_ ?_ _ _ ⟨s.heap, 0, rfl, by simp [List.range_eq_range'], Nat.zero_le _, by simpa [merged] using hd, hoo, Heap.SameBut.refl _ _⟩
    · rintro x rest b s' ⟨h', i, rfl, hr, hi, hd', hoo', hs'⟩
      have hlt : i < eso.size := by
        rcases Nat.lt_or_ge i eso.size with h | h
        · exact h
        · rw [Nat.sub_eq_zero_of_le h] at hr; simp at hr
      obtain ⟨rfl, hrest⟩ : x = i ∧ rest = List.range' (i + 1) (eso.size - (i + 1)) := by
        have e : eso.size - i = (eso.size - (i + 1)) + 1 := by omega
        rw [e, List.range'_succ] at hr
        injection hr with h1 h2
        exact ⟨h1, h2⟩
      refine wpAny_bind (wpAny_dictEntries hoo' hdo' ?_)
      rw [Array.getElem?_eq_getElem hlt]
      obtain ⟨kv, hkv⟩ : ∃ kv, more[x]? = some kv := ⟨more[x]'(by rw [hlen]; exact hlt), List.getElem?_eq_getElem _⟩
      obtain ⟨k, v⟩ := kv
      obtain ⟨hkey, hval⟩ := hpo.get? (e := eso[x]) (by simp [hlt]) hkv
      obtain ⟨k', hkey', hhash⟩ := hko eso[x] (Array.getElem_mem hlt)
      obtain rfl : k' = k := knd.inj _ _ _ hkey' hkey
      have hmx : (merged kvs (more.take x)).length ≤ sizeLine := by
        have e1 := merged_length_le kvs (more.take x)
        have e2 : (more.take x).length ≤ more.length := by rw [List.length_take]; omega
        omega
      refine wpAny_bind (wpAny_holding ?_)
      rw [if_neg (by decide), hhash, hval]
      refine wpAny_dictPut_pairs (hsz := hmx) hkey hd' fun h'' hd'' hs'' => ?_
      have hoo'' : h''.get? o = some oo := (hs''.2 o (Ne.symm hdo)).trans hoo'
      refine wpAny_bind (wpAny_dictEpoch hoo'' hdo' ?_)
      rw [if_neg (by simp)]
      exact wpAny_pure ⟨h'', x + 1, rfl, hrest, hlt, by rw [merged_take_succ kvs more x (k', v) hkv]; exact hd'', hoo'', hs'.trans hs''⟩
    · rintro b s' ⟨h', i, rfl, hr, hi, hd', hoo', hs'⟩
      have hin : i = eso.size := by
        rcases Nat.lt_or_ge i eso.size with h | h
        · have e : eso.size - i = (eso.size - (i + 1)) + 1 := by omega
          rw [e, List.range'_succ] at hr; exact nomatch hr
        · exact Nat.le_antisymm hi h
      refine wpAny_pure (hQ h' ?_ ⟨oo, eso, epo, hoo', hco, hdo', hko, hpo, hno⟩ hs')
      rw [hin, ← hlen, List.take_length] at hd'; exact hd'
  refine wpAny_bind (wpAny_dictEntries hod hdd ?_)
  split
  · refine wpAny_bind (wpAny_dictEntries hoo hdo' ?_)
    refine wpAny_bind ?_
    rw [← Array.forIn_toList]
    refine wpAny_forIn_list _ (fun rest _ s' => s' = s ∧ ∀ e ∈ rest, e ∈ eso) _ ?_ ?_ _ _ ⟨rfl, fun e he => by simpa using he⟩
    · rintro x rest b s' ⟨rfl, hr⟩
      obtain ⟨k, hk, _⟩ := hko x (hr x List.mem_cons_self)
      have hx : ∀ a, x.key ≠ .ref a := fun a e => by rw [e, hnr] at hk; exact nomatch hk
      cases hkey : x.key with
      | ref a => exact absurd hkey (hx a)
      | _ => exact wpAny_pure ⟨rfl, fun e he => hr e (List.mem_cons_of_mem _ he)⟩
    · rintro b s' ⟨rfl, _⟩
      exact loop
  · exact loop
end
end PySem
namespace VL
open PySem PySem.Spec PyProof.Rows L2
/-- {**e, k: v} -/
def tStar (te tk tv : TE) : TE := fun σ H Q => ∀ p, H p = none → te σ (upd H p (.dK [])) fun x H1 => ∃ (a : Addr) (ks : List (Key × V)), x = .ref a ∧ a ≠ p ∧ H1 a = some (.dK ks) ∧ H1 p = some (.dK []) ∧ ks.length ≤ 1000 ∧
  ∀ q, (upd H1 p (.dK (mergeK [] ks))) q = none → tk σ (upd (upd H1 p (.dK (mergeK [] ks))) q (.dK [])) fun y H2 => tv σ H2 fun z H3 => ∃ (k : Key) (ks1 : List (Key × V)), y = kV k ∧ H3 q = some (.dK []) ∧ H3 p = some (.dK ks1) ∧ ks1.length ≤ 1000 ∧
    Q (.ref p) (upd (upd H3 q (.dK [(k, z)])) p (.dK (putK ks1 k z)))
theorem mix_ref (P : Program) (w : World) : ∀ (k : Key) (a : Addr), (mixKind P w).is k (.ref a) = false := fun k a => by
  cases e : (mixKind P w).is k (.ref a) with
  | false => rfl
  | true => rcases keyIs_shape e with ⟨i, t, _, h⟩ | ⟨x, t, _, h⟩ <;> exact nomatch h
theorem pe_star {X : Cx} {pos : Pos} {e k v : Expr} {te tk tv : TE} (he : PE X e te) (hk : PE X k tk) (hv : PE X v tv) : PE X (.Dict [none, some k] [e, v] pos) (tStar te tk tv) := by
  refine ⟨fun pins s σ H Q I h => ?_⟩
  have hn := I.hok.fresh (Nat.le_refl s.heap.objs.size)
  have I1 := I.laid (a := s.heap.objs.size) (o := .dK []) (h' := s.heap.push { cls := .type "dict", data := .dict #[] }) (t' := s.toks) (fun _ _ q => Heap.get?_push_of_some _ q) (Nat.le_refl _) (dk_empty s.heap I.big)
  rw [arm_eval_Dict]
  refine wpAny_bind (wpAny_standAt ?_)
  show wpAny _ _ (dictDisplay [(none, do let x ← eval e X.env; standAt pos; pure x), (some (eval k X.env), do let x ← eval v X.env; standAt pos; pure x)]) _ _ _
  unfold dictDisplay
  dsimp only
  rw [List.forIn_cons]
  dsimp only
  refine wpAny_bind (wpAny_bind (wpAny_bind ?_))
  rw [if_pos (show ([] : List (Sem Value × Sem Value)).isEmpty = true from rfl)]
  refine wpAny_pure ?_
  dsimp only
  refine wpAny_bind (wpAny_alloc ?_)
  refine wpAny_bind (wpAny_holding (wpAny_bind (thn (he.run pins _ σ _ _ I1 (h _ hn)) fun u s1 ⟨x, H1, I2, rx, a, ks, ex, hap, ha, hp, hl, q1⟩ => ?_)))
  subst ex
  obtain rfl : u = Value.ref a := rx
  refine wpAny_bind (wpAny_standAt (wpAny_pure ?_))
  obtain ⟨_, hsP, vp, rp, dp⟩ := dk_of I2.hok hp
  obtain ⟨_, hsA, va, ra, da⟩ := dk_of I2.hok ha
  cases rp
  have la : va.length ≤ 1000 := by rw [← ra.length]; exact hl
  refine wpAny_bind (wpAny_onRaise (wpAny_tryCatch (wpAny_onRaise (wpAny_holding (wpAny_mergeMapping (mix_ref X.prog X.w) (Ne.symm hap) hsA dp da (fun h' dd' oo' hs => ?_) (by rw [sizeLine_eq, List.length_nil]; omega))))))
  refine wpAny_pure ?_
  have hm1 : (mergeK [] ks).length ≤ sizeLine := by
    have := length_mergeK ks []
    rw [List.length_nil] at this
    rw [sizeLine_eq]; omega
  have I3 : Inv X pins σ (upd H1 s.heap.objs.size (.dK (mergeK [] ks))) { s1 with heap := h' } := by
    have hex : ∃ q, h'.get? s.heap.objs.size = some q := let ⟨q, _, _, hq, _⟩ := dd'; ⟨q, hq⟩
    exact d_write (t' := s1.toks) I2 (by rw [hp]; exact True.intro) hs hex (dk_new hm1 hsP (KV.merge ra .nil) dd')
  dsimp only
  rw [List.forIn_cons]
  dsimp only
  rw [if_neg (by simp)]
  refine wpAny_bind (wpAny_bind (wpAny_pure ?_))
  refine wpAny_pure ?_
  dsimp only
  rw [List.forIn_nil]
  refine wpAny_pure ?_
  dsimp only
  rw [if_neg (by simp)]
  have hn2 := I3.hok.fresh (Nat.le_refl h'.objs.size)
  have I4 := I3.laid (a := h'.objs.size) (o := .dK []) (h' := h'.push { cls := .type "dict", data := .dict #[] }) (t' := s1.toks) (fun _ _ q => Heap.get?_push_of_some _ q) (Nat.le_refl _) (dk_empty h' I3.big)
  refine wpAny_bind (wpAny_bind (wpAny_holding (wpAny_subDict (knd := mixKind X.prog X.w) (by simp) ?_)))
  refine wpAny_mono ((pps_cons (pos := pos) hk hv pps_nil).run pins _ σ _ (fun ps H3 => match ps with
    | [(y, z)] => ∃ (kk : Key) (ks1 : List (Key × V)), y = kV kk ∧ H3 h'.objs.size = some (.dK []) ∧ H3 s.heap.objs.size = some (.dK ks1) ∧ ks1.length ≤ 1000 ∧
        Q (.ref s.heap.objs.size) (upd (upd H3 h'.objs.size (.dK [(kk, z)])) s.heap.objs.size (.dK (putK ks1 kk z)))
    | _ => False) I4 (q1 _ hn2)) (fun ws s3 ⟨ps, H3, I5, rel, q3⟩ => ?_) fun _ _ e => e
  match ps, rel, q3 with
  | [(y, z)], rel, ⟨kk, ks1, ey, hq3, hp3, hl3, q3⟩ =>
    subst ey
    obtain ⟨rs, c, rk⟩ := carries_of (P := X.prog) (w := X.w) (kvs := [(kk, z)]) rel
    obtain ⟨_, hsQ, vq, rq, dq⟩ := dk_of I5.hok hq3
    cases rq
    refine ⟨rs, c, dq, fun h2 dd2 hs2 => ?_⟩
    have hex2 : ∃ q, h2.get? h'.objs.size = some q := let ⟨q, _, _, hq, _⟩ := dd2; ⟨q, hq⟩
    have I6 := d_write (t' := s3.toks + ws.length) I5 (by rw [hq3]; exact True.intro) hs2 hex2 (dk_new (kvs := mergeK [] [(kk, z)]) (by show 1 ≤ sizeLine; decide) hsQ (KV.merge rk .nil) dd2)
    have eM : mergeK [] [(kk, z)] = [(kk, z)] := rfl
    rw [eM] at I6
    have hne : s.heap.objs.size ≠ h'.objs.size := fun e => by
      rw [← e, upd_same] at hn2
      exact nomatch hn2
    have hp4 : upd H3 h'.objs.size (.dK [(kk, z)]) s.heap.objs.size = some (.dK ks1) := by rw [upd_ne hne]; exact hp3
    have hq4 : upd H3 h'.objs.size (.dK [(kk, z)]) h'.objs.size = some (.dK [(kk, z)]) := upd_same
    obtain ⟨_, _, v1, r1, d1⟩ := dk_of I6.hok hp4
    obtain ⟨_, _, v2, r2, d2⟩ := dk_of I6.hok hq4
    have l1 : v1.length ≤ 1000 := by rw [← r1.length]; exact hl3
    have l2 : v2.length = 1 := by rw [← r2.length]; rfl
    refine wpAny_bind (wpAny_onRaise (wpAny_holding (wpAny_mergeMapping (mix_ref X.prog X.w) hne hsQ d1 d2 (fun h3 dd3 oo3 hs3 => ?_) (by rw [sizeLine_eq]; omega))))
    refine wpAny_pure ?_
    have hex3 : ∃ q, h3.get? s.heap.objs.size = some q := let ⟨q, _, _, hq, _⟩ := dd3; ⟨q, hq⟩
    have hm3 : (mergeK ks1 [(kk, z)]).length ≤ sizeLine := by
      have := length_mergeK [(kk, z)] ks1
      have e1 : [(kk, z)].length = 1 := rfl
      rw [sizeLine_eq]; omega
    have I7 := d_write (t' := s3.toks + ws.length) I6 (by rw [hp4]; exact True.intro) hs3 hex3 (dk_new hm3 hsP (KV.merge r2 r1) dd3)
    exact wpAny_pure ⟨.ref s.heap.objs.size, _, I7, rfl, q3⟩
  | [], _, q3 => exact q3.elim
  | _ :: _ :: _, _, q3 => exact q3.elim
/-- a local name that holds one of the text's defs, called -/
def tCallT (P : Program) (w : World) (K : PySem.W.Frag) (mg : Str → Option Value) (base : Heap) (j i : Nat) (t : TA) : TE := fun σ H Q => ∃ (x : Str) (k : Nat) (sp : Sp) (f : Addr), k ≤ j ∧ Cal P w K mg base k x sp ∧ mg x = some (.ref f) ∧
  σ[i]? = some (some (.ref f)) ∧ t σ H fun vs H1 => sp vs H1 Q E0
section
variable {X : Cx} {j i : Nat} {x : Str} {p pos : Pos} {e : Expr} {es : List Expr} {t : TA}
theorem pe_callT (hr : Room j X.A) (hN : X.N[i]? = some x) (hv : Vis X.env.scope x) (ha : PA X (e :: es) t)
    (hd : (x == ("__debug__" : Str)) = false := by decide) (hcd : (x == ("__classdict__" : Str)) = false := by decide)
    (he : starEach (e :: es) X.env = (false, eval e X.env) :: starEach es X.env := by rfl) (hpl : (backTo pos (starEach es X.env)).any (·.1) = false := by rfl) :
    PE X (.Call (.Name x p) (e :: es) [] pos) (tCallT X.prog X.w X.K X.mg X.base j i t) := by
  refine ⟨fun pins s σ H Q I h => ?_⟩
  obtain ⟨y, k, sp, f, hk, c, hm, hs, ht⟩ := h
  obtain ⟨f2, fd, ps, F, hm2, kp, b⟩ := c.ex
  obtain rfl : f = f2 := by
    rw [hm] at hm2
    injection hm2 with e1
    injection e1
  refine wpAny_Call_Name_kw (thn ((pe_var (pos := p) hN hv hd hcd).run pins s σ H (fun v H1 => v = .ref f ∧ H1 = H) I ⟨.ref f, hs, rfl, rfl⟩) fun u s1 ⟨v, H1, I1, r1, q1⟩ => ?_)
  obtain ⟨rfl, rfl⟩ := q1
  cases r1
  refine PySem.W.callWith_K (h₀ := X.base) I.ok.mod.kin kp (thn (ha.run pos pins s1 σ _ _ I1 ht) fun us s2 ⟨vs, H2, I2, r, q⟩ => ⟨I2.kIn, ?_⟩) he hpl
  exact run_fn F (hr.mono hk) b .nil pass0 I2 r (by rw [List.append_nil]; exact q)
end
/-- an entry of a dict of the module that holds a def -/
def EntT (K : PySem.W.Frag) (w : World) (mg : Str → Option Value) (a : Addr) (key x : Str) : Prop := ∃ f, mg x = some (.ref f) ∧ KDct K w a key (.ref f)
end VL

set_option Elab.async false
set_option linter.all false
set_option maxRecDepth 100000
set_option maxHeartbeats 4000000
namespace VL
open PySem PySem.Spec PyProof.Rows L2
/-! ### a part of a heap, and a few objects beside it that change -/
structure Sb (G H : Hp) (M : List (Addr × HO)) : Prop where
  s : Same G H
  m : ∀ p ∈ M, G p.1 = none ∧ H p.1 = some p.2
  nd : (M.map (·.1)).Nodup
def joinH (G N : Hp) : Hp := fun b => match G b with
  | some o => some o
  | none => N b
theorem joinH_l {G N : Hp} : Same G (joinH G N) := fun b o e => by
  unfold joinH
  rw [e]
theorem joinH_r {G H H' : Hp} (s : Same G H) : Same (newer H H') (joinH G (newer H H')) := fun b o e => by
  obtain ⟨z, _⟩ := newer_some e
  unfold joinH
  cases g : G b with
  | none => exact e
  | some u => rw [s _ _ g] at z; exact nomatch z
theorem Sb.alloc {G H : Hp} {M : List (Addr × HO)} {t : Addr} {o : HO} (S : Sb G H M) (h : H t = none) : Sb (upd G t o) (upd H t o) M := by
  refine ⟨fun b u e => ?_, fun p hp => ?_, S.nd⟩
  · by_cases z : b = t
    · subst z
      rw [upd_same] at e ⊢
      exact e
    · rw [upd_ne z] at e ⊢
      exact S.s _ _ e
  · obtain ⟨h1, h2⟩ := S.m p hp
    have n : p.1 ≠ t := ne_of_none h2 h
    rw [upd_ne n, upd_ne n]
    exact ⟨h1, h2⟩
theorem Sb.gnone {G H : Hp} {M : List (Addr × HO)} {t : Addr} (S : Sb G H M) (h : H t = none) : G t = none := Same.free S.s h
theorem Sb.grow {G H : Hp} {M : List (Addr × HO)} {t : Addr} {o : HO} (S : Sb G H M) (h : H t = none) : Same G (upd G t o) := fun b u e => by rw [upd_ne (ne_of_none e (S.gnone h))]; exact e
theorem Sb.call {G H H' : Hp} {M : List (Addr × HO)} (S : Sb G H M) (s : Same H H') : Sb (joinH G (newer H H')) H' M := by
  refine ⟨fun b u e => ?_, fun p hp => ?_, S.nd⟩
  · unfold joinH at e
    cases g : G b with
    | some o => rw [g] at e; rw [← e]; exact s _ _ (S.s _ _ g)
    | none => rw [g] at e; exact (newer_some e).2
  · obtain ⟨h1, h2⟩ := S.m p hp
    refine ⟨?_, s _ _ h2⟩
    unfold joinH
    rw [h1]
    show newer H H' p.1 = none
    unfold newer
    rw [h2]
theorem Sb.add {G H : Hp} {M : List (Addr × HO)} {t : Addr} {o : HO} (S : Sb G H M) (h : H t = none) : Sb G (upd H t o) ((t, o) :: M) := by
  refine ⟨fun b u e => by rw [upd_ne (ne_of_none (S.s _ _ e) h)]; exact S.s _ _ e, fun p hp => ?_, ?_⟩
  · rcases List.mem_cons.mp hp with rfl | hp
    · exact ⟨S.gnone h, upd_same⟩
    · obtain ⟨h1, h2⟩ := S.m p hp
      exact ⟨h1, by rw [upd_ne (ne_of_none h2 h)]; exact h2⟩
  · rw [List.map_cons, List.nodup_cons]
    refine ⟨fun hm => ?_, S.nd⟩
    obtain ⟨p, hp, e⟩ := List.mem_map.mp hm
    have := (S.m p hp).2
    rw [e] at this
    rw [show H (t, o).1 = none from h] at this
    exact nomatch this
theorem Sb.put {G H : Hp} {M : List (Addr × HO)} {t : Addr} {o : HO} {u : HO} (S : Sb G H ((t, o) :: M)) : Sb G (upd H t u) ((t, u) :: M) := by
  have nd := S.nd
  rw [List.map_cons, List.nodup_cons] at nd
  have gt := (S.m (t, o) List.mem_cons_self).1
  refine ⟨fun b v e => by rw [upd_ne (ne_of_none e gt)]; exact S.s _ _ e, fun p hp => ?_, ?_⟩
  · rcases List.mem_cons.mp hp with rfl | hp
    · exact ⟨gt, upd_same⟩
    · obtain ⟨h1, h2⟩ := S.m p (List.mem_cons_of_mem _ hp)
      have n : p.1 ≠ t := fun z => nd.1 (List.mem_map.mpr ⟨p, hp, z⟩)
      exact ⟨h1, by rw [upd_ne n]; exact h2⟩
  · rw [List.map_cons, List.nodup_cons]
    exact nd
theorem Sb.swap {G H : Hp} {M : List (Addr × HO)} {p q : Addr × HO} (S : Sb G H (p :: q :: M)) : Sb G H (q :: p :: M) := by
  have nd := S.nd
  refine ⟨S.s, fun r hr => S.m r ?_, ?_⟩
  · rcases List.mem_cons.mp hr with rfl | hr
    · exact List.mem_cons_of_mem _ List.mem_cons_self
    · rcases List.mem_cons.mp hr with rfl | hr
      · exact List.mem_cons_self
      · exact List.mem_cons_of_mem _ (List.mem_cons_of_mem _ hr)
  · simp only [List.map_cons, List.nodup_cons, List.mem_cons] at nd ⊢
    refine ⟨fun z => ?_, fun z => nd.1 (.inr z), nd.2.2⟩
    rcases z with z | z
    · exact nd.1 (.inl z.symm)
    · exact nd.2.1 z
theorem Sb.drop {G H : Hp} {M : List (Addr × HO)} {t : Addr} {o : HO} (S : Sb G H ((t, o) :: M)) : Sb (upd G t o) H M ∧ Same G (upd G t o) := by
  have nd := S.nd
  rw [List.map_cons, List.nodup_cons] at nd
  obtain ⟨gt, ht⟩ := S.m (t, o) List.mem_cons_self
  refine ⟨⟨fun b u e => ?_, fun p hp => ?_, nd.2⟩, fun b u e => by rw [upd_ne (ne_of_none e gt)]; exact e⟩
  · by_cases z : b = t
    · subst z
      rw [upd_same] at e
      rw [← e]
      exact ht
    · rw [upd_ne z] at e
      exact S.s _ _ e
  · obtain ⟨h1, h2⟩ := S.m p (List.mem_cons_of_mem _ hp)
    have n : p.1 ≠ t := fun z => nd.1 (List.mem_map.mpr ⟨p, hp, z⟩)
    exact ⟨by rw [upd_ne n]; exact h1, h2⟩
theorem Sb.hd {G H : Hp} {M : List (Addr × HO)} {p : Addr × HO} (S : Sb G H (p :: M)) : H p.1 = some p.2 := (S.m p List.mem_cons_self).2
theorem Sb.hd2 {G H : Hp} {M : List (Addr × HO)} {p q : Addr × HO} (S : Sb G H (q :: p :: M)) : H p.1 = some p.2 := (S.m p (List.mem_cons_of_mem _ List.mem_cons_self)).2
theorem Sb.nil {H : Hp} : Sb H H [] := ⟨Same.refl _, (fun _ h => nomatch h), List.nodup_nil⟩
end VL

set_option Elab.async false
set_option linter.all false
set_option maxRecDepth 100000
set_option maxHeartbeats 4000000
namespace VL
open PySem PySem.Spec PyProof.Rows L2
theorem Sb.put2 {G H : Hp} {M : List (Addr × HO)} {p : Addr × HO} {t : Addr} {o u : HO} (S : Sb G H (p :: (t, o) :: M)) : Sb G (upd H t u) (p :: (t, u) :: M) := S.swap.put.swap
theorem Sb.more {G H H' : Hp} {M : List (Addr × HO)} (S : Sb G H M) (s : Same H H') : ∃ G', Sb G' H' M ∧ Same G G' := ⟨_, S.call s, joinH_l⟩
theorem flat_one {α : Type} (l : List α) : (l.map fun c => [c]).flatten = l := by
  induction l with
  | nil => rfl
  | cons c cs ih => simp [ih]
theorem valV_in2 {k : Key} : ∀ {ks : List (Key × V)}, k ∈ ks.map (·.1) → (valV ks k).isSome = true
  | p :: ks, h => by
    by_cases e : p.1 = k
    · rw [valV_pos e]
      rfl
    · rw [valV_neg e]
      refine valV_in2 ?_
      rcases List.mem_cons.mp (show k ∈ p.1 :: ks.map (·.1) from h) with z | z
      · exact absurd z.symm e
      · exact z
end VL

set_option Elab.async false
set_option linter.all false
set_option maxRecDepth 100000
set_option maxHeartbeats 4000000
namespace PySem.W
open PySem PyProof.Rows
section
variable {prog : Program} {w : World} {A A₀ : Around} {E : Value → Shared → Prop} {s : Shared} {K : Frag} {x C L f : Addr} {h₀ : Heap} {m : Str → Option Value} {ox : Obj} {od : Option Obj} {name : Str} {b tb : Value}
theorem ifBound_B {M : Model} {id : String} {T : String} {nm : Str} {args : List Value} {Q : Option Value → Shared → Prop} (X : K.In s.heap) (I : InstAt s.heap x ox C od) (hs : findIn K (.ref C) name = some (some (.builtin id))) (S : Slot T nm id)
    (h : wpAny M A (call (.builtin id) (.ref x :: args)) (fun v => Q (some v)) E s) : wpAny M A (callSpecialIfBound? (.ref x) name args) Q E s := by
  simp only [callSpecialIfBound?, bindSpecialIfBound?]
  refine wpAny_holding (wpAny_bind (wpAny_bind (wpAny_bind (I.type.here ((looks_findIn X hs).here ?_)))))
  simp only [S.bind]
  refine wpAny_bind (wpAny_askSetting (wpAny_ite ?_))
  have fin : wpAny M A (call (.builtin id) ([.ref x] ++ args) >>= fun v => pure (some v)) Q E s := wpAny_bind (wpAny_mono h (fun v s' h' => wpAny_pure h') fun _ _ h' => h')
  split
  · exact wpAny_bind (wpAny_pure (wpAny_pure (by exact fin)))
  · exact wpAny_tryCatch (wpAny_bind (wpAny_pure (wpAny_pure (by exact fin))))
theorem objNe_K {Q : Fin → Shared → Prop} (X : K.In s.heap) (I : InstAt s.heap x ox C od) (hs : findIn K (.ref C) "__eq__" = some (some (.ref f))) (hf : isFn K (.ref f) = true) (hu : A.units < cLine)
    (hcall : wpAny (model prog w) A (call (.ref f) [.ref x, b]) (fun v s' => ∃ r, v = .bool r ∧ Q (.done (.ret (.bool (!r)))) s') E s) :
    wpAny (model prog w) A (Builtin.«object.__ne__» ⟨[.ref x, b], []⟩) Q E s := by
  obtain ⟨hp, g, d, t, os⟩ := s
  unfold Builtin.«object.__ne__»
  repeat (first
    | with_reducible refine wpAny_cRoomFor hu ?_
    | (refine wpAny_bind (m := callSpecialIfBound? (.ref x) (Str.ofString "__eq__") [b])
        (ifBound_K X I hs hf (wpAny_mono hcall (fun r s' hr => by
          obtain ⟨z, rfl, hq⟩ := hr
          repeat (first | exact hq | exact wpAny_pure hq | exact wpAny_truthy_bool hq | (refine wpAny_bind (m := truthy (.bool _)) (wpAny_truthy_bool ?_)) | wp_step)) fun _ _ e => e)))
    | wp_step)
/-- x != b by the own == of x's class -/
theorem ne_K {Q : Value → Shared → Prop} (hu : A.units + 1 < cLine) (F : Fr h₀ L s.heap m) (X₀ : K.In h₀) (I : InstAt s.heap x ox C od) (hb : Looks (model prog w) s.heap (typeOf b) tb) (hn : notFirst K C tb = true)
    (hN : findIn K (.ref C) "__ne__" = some (some (.builtin "object.__ne__"))) (hob : mroIn K C (.type "object") = some true) (hs : findIn K (.ref C) "__eq__" = some (some (.ref f))) (hf : isFn K (.ref f) = true)
    (h : wpAny (model prog w) A.in1 (call (.ref f) [.ref x, b]) (fun v s' => ∃ r, v = .bool r ∧ Q (.bool (!r)) s') E s) : wpAny (model prog w) A (richCompare .NotEq (.ref x) b) Q E s := by
  have X := X₀.keeps F.keep
  have S : Slot "zip" "__ne__" "object.__ne__" := PySem.F.slot_zip_ne
  have sub : Looks (model prog w) s.heap (isInstance (.ref x) (.type "object")) true := I.type.andThen (looks_mroIn X hob)
  have one : wpAny (model prog w) A (tryCompare (.ref x) "__ne__" b) (fun r s' => ∃ v, r = some v ∧ Q v s') E s := by
    unfold tryCompare
    refine wpAny_bind (ifBound_B X I hN S (wpAny_call (codeAny_call_builtin S.plain PySem.F.cmpEntry_ne
      (@check_slot (model prog w) _ _ s "object.__ne__" "object" "__ne__" (.ref x) [b] [] _ PySem.F.cmpKind_ne PySem.F.cmpSplit_ne sub (PySem.F.cmpArgs_ne _ _)
        (objNe_K (A := A.in1) X I hs hf hu (wpAny_mono h (fun v s' hv => ?_) fun _ _ e => e))))))
    obtain ⟨r, rfl, hq⟩ := hv
    exact ⟨r, rfl, wpAny_pure ⟨_, rfl, hq⟩⟩
  unfold richCompare
  simp only [oneThing_ref]
  refine wpAny_holding (wpAny_bind (wpAny_cRoomFor (Nat.lt_of_succ_lt hu) ?_))
  rw [show (cmpInfo .NotEq).2.1 = "__ne__" from rfl]
  refine wpAny_bind (I.type.here (wpAny_bind (hb.here ?_)))
  split
  · rename_i q
    have e : subIn K tb (.ref C) = some false := by
      rcases Bool.or_eq_true_iff.mp hn with e | e
      · rw [beq_iff_eq.mp e] at q; simp at q
      · exact beq_iff_eq.mp e
    refine wpAny_bind ((looks_subIn X e).here ?_)
    simp only [Bool.false_eq_true, if_false]
    refine wpAny_bind (wpAny_mono one (fun r s' z => ?_) fun _ _ e => e)
    obtain ⟨v, rfl, hq⟩ := z
    exact wpAny_pure hq
  · refine wpAny_bind (wpAny_pure ?_)
    simp only [Bool.false_eq_true, if_false]
    refine wpAny_bind (wpAny_mono one (fun r s' z => ?_) fun _ _ e => e)
    obtain ⟨v, rfl, hq⟩ := z
    exact wpAny_pure hq
end
end PySem.W
namespace L2
open PySem PySem.Spec PyProof.Rows
def rNeG (D : Eqv) : R2 := fun x y H Q => D x y H ∧ ∀ H', Ext H H' → Q (.bl false) H'
section
variable {X : Cx} {n : Nat}
theorem op_neIns {CX : CXT} {C f : Addr} {fd : FuncData} {ps : List Str} {R : Addr → Addr → Hp → Prop} {E : XK} (F : FnOk X.prog X.w X.K X.mg X.base CX n f fd ps (spEq R))
    (hN : PySem.W.findIn X.K (.ref C) "__ne__" = some (some (.builtin "object.__ne__"))) (hob : PySem.W.mroIn X.K C (.type "object") = some true)
    (hs : PySem.W.findIn X.K (.ref C) "__eq__" = some (some (.ref f))) (hf : PySem.W.isFn X.K (.ref f) = true) (hb : Binds X.K fd ps []) (hx : Passes CX X E) (hr : Room (n + 1) X.A) : OpR X (compareOp .NotEq) (rNeG (DIns C R)) := by
  intro pins s σ H x y v u Q I rx ry hq
  obtain ⟨⟨a, b, dx, dy, fs, gs, rfl, rfl, ha, hb', hR⟩, q⟩ := hq
  cases rx
  cases ry
  show wpAny (model X.prog X.w) X.A (richCompare .NotEq (.ref a) (.ref b)) (EP X pins σ Q) X.xe s
  obtain ⟨mA, J, _⟩ := ins_get I.hok ha
  obtain ⟨mB, J', _⟩ := ins_get I.hok hb'
  obtain ⟨od, J, _⟩ := J.look
  obtain ⟨od', J', _⟩ := J'.look
  obtain ⟨m, hF⟩ := I.fr
  refine PySem.W.ne_K (tb := .ref C) (by have := hr.units; omega) hF I.ok.mod.kin J J'.type (by simp [PySem.W.notFirst]) hN hob hs hf ?_
  have hsp : spEq R [.ref a, .ref b] H (fun v H' => v = .bl true ∧ Ext H H') E := ⟨a, b, rfl, hR, fun H' e => ⟨rfl, e⟩⟩
  have e0 : Env0 X.prog X.w X.K X.mg X.base X.A.in1 X.stack s H := by
    have e := I.env0
    exact ⟨e.frames, e.mod, e.bs, e.bsz, e.funs, e.frf, e.hok, e.bare⟩
  have hl := F.len _ _ _ _ hsp
  have r2 : Vals [V.ref a, V.ref b] [Value.ref a, Value.ref b] := .cons rfl (.cons rfl .nil)
  refine wpAny_call (codeAny_mono (F.run X.A.in1 X.stack s H ⟨[.ref a, .ref b], []⟩ [.ref a, .ref b] [.ref a, .ref b] _ E hr.in1 e0 (by
    have := hb s [.ref a, .ref b] I.kIn (by simpa using hl)
    simpa using this) r2 hsp) fun r s' hq => ?_)
  cases r with
  | error e => exact hx pins σ H s e s' I hq
  | ok fl =>
    cases fl with
    | ret w =>
      obtain ⟨z, H', I', rz, ez, ex⟩ := I.after hq
      subst ez
      cases rz
      exact ⟨true, rfl, .bl false, H', I', rfl, q H' ex⟩
    | next => exact False.elim hq
    | brk => exact False.elim hq
    | cont => exact False.elim hq
end
end L2

set_option Elab.async false
set_option linter.all false
set_option maxRecDepth 100000
namespace VL
open PySem PySem.Spec PyProof.Rows L2
/-! ### != of lists of any texts; repr of a truth value or None -/
section
variable {X : Cx}
def rNeP (K : PySem.W.Frag) : R2 := fun x y H Q => ∃ d e, Dp K H x d ∧ Dp K H y e ∧ d.plain = true ∧ e.plain = true ∧ PyData.depth d ≤ 60 ∧ Q (.bl (!PyData.eqv d e)) H
theorem op_neP (hu : X.A.units + 64 < cLine) : OpR X (compareOp .NotEq) (rNeP X.K) := by
  intro pins s σ H x y v u Q I rx ry h
  obtain ⟨d, e, hd, he, sd, se, dp, q⟩ := h
  obtain ⟨as, r1⟩ := Dp.reads I d x v hd rx
  obtain ⟨bs, r2⟩ := Dp.reads I e y u he ry
  exact SeqAt.ne_plain r1 r2 sd se (by have := Nat.min_le_left d.depth e.depth; omega) ⟨.bl _, H, I, rfl, q⟩
def rEqP (K : PySem.W.Frag) : R2 := fun x y H Q => ∃ d e, Dp K H x d ∧ Dp K H y e ∧ d.plain = true ∧ e.plain = true ∧ PyData.depth d ≤ 60 ∧ Q (.bl (PyData.eqv d e)) H
theorem op_eqP {K : PySem.W.Frag} (hK : X.K = K) (hu : X.A.units + 64 < cLine) : OpR X (compareOp .Eq) (rEqP K) := by
  subst hK
  intro pins s σ H x y v u Q I rx ry h
  obtain ⟨d, e, hd, he, sd, se, dp, q⟩ := h
  obtain ⟨as, r1⟩ := Dp.reads I d x v hd rx
  obtain ⟨bs, r2⟩ := Dp.reads I e y u he ry
  exact SeqAt.eq_plain r1 r2 sd se (by have := Nat.min_le_left d.depth e.depth; omega) ⟨.bl _, H, I, rfl, q⟩
def rRepB : List V → Hp → VK → Prop := fun xs H Q => ∃ x : Str, (xs = [.non] ∧ x = "None" ∨ ∃ b : Bool, xs = [.bl b] ∧ x = if b then "True" else "False") ∧ Q (.str x) H
theorem call_repB : CallR X (.builtin "repr") rRepB := by
  intro pins s σ H xs us Q I r h
  obtain ⟨x, h, q⟩ := h
  have fin : ∀ (t : Tok) (tk : Nat), EP X pins σ Q (.str x t) { s with toks := tk } := fun t tk => ⟨.str _, H, I.kept (h' := s.heap) (fun _ _ e => e), ⟨t, rfl⟩, q⟩
  rcases h with ⟨rfl, rfl⟩ | ⟨b, rfl, rfl⟩
  · obtain ⟨u, rfl, ru⟩ := vals1 r
    cases (show u = Value.none from ru)
    exact P.repr_of_none (fin _ _)
  · obtain ⟨u, rfl, ru⟩ := vals1 r
    cases (show u = Value.bool b from ru)
    refine P.repr_of_bool ?_
    cases b
    · exact fin _ _
    · exact fin _ _
theorem dpAll_strT {K : PySem.W.Frag} {H : Hp} : ∀ ns : List Str, DpAll K H (ns.map V.str) (ns.map PyData.str)
  | [] => .nil
  | a :: ns => .cons (.str a) (dpAll_strT ns)
theorem plain_strs (ns : List Str) : PyData.plain (.list (ns.map PyData.str)) = true := by
  show PyData.plainAll _ = true
  induction ns with
  | nil => rfl
  | cons a ns ih =>
    show (PyData.plain (.str a) && PyData.plainAll (ns.map PyData.str)) = true
    rw [ih]
    rfl
theorem depth_strs (ns : List Str) : PyData.depth (.list (ns.map PyData.str)) = 1 := by
  have : ∀ ns : List Str, PyData.depthAll (ns.map PyData.str) = 0 := by
    intro ns
    induction ns with
    | nil => rfl
    | cons a ns ih => simp [PyData.depthAll, PyData.depth, ih]
  simp [PyData.depth, this]
end
end VL

set_option Elab.async false
set_option linter.all false
set_option maxRecDepth 100000
set_option maxHeartbeats 4000000
namespace VL
open PySem PySem.Spec PyProof.Rows L2
open PySem.SeqAt (EqP)
open AutoSeq1 (wpAny_loadPart')
/-! ### == and != of nested data with dicts that read as the same -/
/-- both read as one thing of depth n -/
def SameD (H : Hp) (n : Nat) (x y : V) : Prop := ∃ d, PyData.depth d ≤ n ∧ Dq H x d ∧ Dq H y d
theorem pairD_of {H : Hp} {n : Nat} : ∀ {ds : List PyData} {xs ys : List V}, PyData.depthAll ds ≤ n → DqAll H xs ds → DqAll H ys ds → Paired (SameD H n) xs ys
  | [], _, _, _, h1, h2 => by cases h1; cases h2; exact .nil
  | d :: ds, _, _, hd, h1, h2 => by
    have hd' : max (PyData.depth d) (PyData.depthAll ds) ≤ n := hd
    cases h1 with
    | cons a1 b1 => cases h2 with
      | cons a2 b2 => exact .cons ⟨d, by omega, a1, a2⟩ (pairD_of (by omega) b1 b2)
section
variable {X : Cx} {pins : List (Addr × Obj)} {σ : L2.St} {H : Hp} {s : Shared}
theorem lkp_depth {k : Key} {d : PyData} : ∀ {kvs : List (PyData × PyData)}, lkp kvs k = some d → PyData.depth d ≤ PyData.depthKv kvs
  | [], h => nomatch h
  | (a, b) :: r, h => by
    have e : PyData.depthKv ((a, b) :: r) = max (max (PyData.depth a) (PyData.depth b)) (PyData.depthKv r) := rfl
    rw [e]
    unfold lkp at h
    split at h
    · cases h
      show PyData.depth b ≤ _
      omega
    · have := lkp_depth h
      omega
theorem rcQ_dict (I : Inv X pins σ H s) {A : Around} {n : Nat} (hu : A.units < cLine) (ih : ∀ x y v u, SameD H n x y → RelV x v → RelV y u → EqP X.prog X.w A.in1 s v u true) {kvs : List (PyData × PyData)} {x y : V} {v u : Value} (hn : PyData.depthKv kvs ≤ n)
    (h1 : Dq H x (.dict kvs)) (h2 : Dq H y (.dict kvs)) (rx : RelV x v) (ry : RelV y u) (E Q : Value → Shared → Prop) (q : Q (.bool true) s) : wpAny (model X.prog X.w) A (richCompare .Eq v u) Q E s := by
  obtain ⟨a, ks, rfl, ha, nd1, l1, k1⟩ := dq_dict h1
  obtain ⟨b, ls, rfl, hb, nd2, l2, k2⟩ := dq_dict h2
  cases (show v = Value.ref a from rx)
  cases (show u = Value.ref b from ry)
  obtain ⟨_, ya, va, ra, da⟩ := (show ObjOk X.prog X.w H s.heap a (.dK ks) from I.hok a _ ha)
  obtain ⟨_, yb, vb, rb, db⟩ := (show ObjOk X.prog X.w H s.heap b (.dK ls) from I.hok b _ hb)
  have hit : ∀ p ∈ ks, ∃ w, valV ls p.1 = some w ∧ SameD H n p.2 w := fun p hp => by
    obtain ⟨i, hi, hip⟩ := List.getElem_of_mem hp
    have hv : valV ks p.1 = some p.2 := valV_nd (i := i) nd1 (by rw [List.getElem?_eq_getElem hi, hip])
    rcases k1 p.1 with ⟨_, z⟩ | ⟨d, w1, e1, e2, e3⟩
    · rw [hv] at z; cases z
    · rw [hv] at e2
      cases e2
      rcases k2 p.1 with ⟨z, _⟩ | ⟨d', w2, f1, f2, f3⟩
      · rw [e1] at z; cases z
      · rw [e1] at f1
        cases f1
        exact ⟨w2, f2, d, Nat.le_trans (lkp_depth e1) hn, e3, f3⟩
  refine PySem.W.rcP_dicts (knd := mixKind X.prog X.w) (r := true) ya yb da db hu (fun _ => hits_run ih rb ra hit) E Q ?_
  have e : va.length = vb.length := by rw [← ra.length, ← rb.length, l1, l2]
  rw [show (va.length == vb.length && true) = true by rw [e]; simp]
  exact q
theorem all_true {n : Nat} : ((List.range n).all fun _ => true) = true := List.all_eq_true.mpr fun _ _ => rfl
theorem eqQ_run (I : Inv X pins σ H s) : ∀ (n : Nat) (A : Around), A.units + n < cLine → ∀ (x y : V) (v u : Value), SameD H n x y → RelV x v → RelV y u → EqP X.prog X.w A s v u true := by
  intro n
  induction n with
  | zero =>
    intro A hu x y v u h rx ry
    obtain ⟨d, hd, h1, h2⟩ := h
    have flat : x = y ∧ flatB x = true := by
      cases h1 with
      | non => cases h2; exact ⟨rfl, rfl⟩
      | bl b => cases h2; exact ⟨rfl, rfl⟩
      | int i => cases h2; exact ⟨rfl, rfl⟩
      | str x => cases h2; exact ⟨rfl, rfl⟩
      | lst _ _ => exact absurd hd (by simp [PyData.depth])
      | tup _ _ => exact absurd hd (by simp [PyData.depth])
      | dic _ _ _ => exact absurd hd (by simp [PyData.depth])
    obtain ⟨rfl, f⟩ := flat
    exact (eqAt_same rx ry f).eqP
  | succ n ihn =>
    intro A hu x y v u h rx ry
    obtain ⟨d, hd, h1, h2⟩ := h
    have ih := ihn A.in1 (by show A.units + 1 + n < cLine; omega)
    have refs : ∀ {a b : Addr}, x = .ref a → y = .ref b → (∀ (E Q : Value → Shared → Prop), Q (.bool true) s → wpAny (model X.prog X.w) A (richCompare .Eq v u) Q E s) → EqP X.prog X.w A s v u true := fun {a b} ex ey step => by
      subst ex ey
      cases (show v = Value.ref a from rx)
      cases (show u = Value.ref b from ry)
      by_cases e : a = b
      · subst e
        exact (SeqAt.EqAt.same _).eqP
      · exact SeqAt.eqP_refs e step
    cases d with
    | none => cases h1; cases h2; exact (eqAt_same rx ry rfl).eqP
    | bool b => cases h1; cases h2; exact (eqAt_same rx ry rfl).eqP
    | int i => cases h1; cases h2; exact (eqAt_same rx ry rfl).eqP
    | str z => cases h1; cases h2; exact (eqAt_same rx ry rfl).eqP
    | list ds =>
      have hd' : PyData.depthAll ds ≤ n := by simp only [PyData.depth] at hd; omega
      obtain ⟨a, xs, rfl, ha, da⟩ := dq_list h1
      obtain ⟨b, ys, rfl, hb, db⟩ := dq_list h2
      refine refs rfl rfl fun E Q q => ?_
      cases (show v = Value.ref a from rx)
      cases (show u = Value.ref b from ry)
      obtain ⟨us, r1, p1, _⟩ := I.list (SqL.of ha)
      obtain ⟨ws, r2, p2, _⟩ := I.list (SqL.of hb)
      have hp := pairD_of hd' da db
      have hsz : us.toArray.size = ws.toArray.size := by
        rw [List.size_toArray, List.size_toArray, ← r1.length, ← r2.length]
        exact Paired.length hp
      refine SeqAt.rcP_lists (e := fun _ => true) p1.isList p2.isList hsz (by omega) (fun j h1 h2 => ?_) E Q ?_
      · have k := items_run ih hp r1 r2 j (by simpa using h1) (by simpa using h2)
        simpa using k
      · rw [all_true]
        exact q
    | tuple ds =>
      have hd' : PyData.depthAll ds ≤ n := by simp only [PyData.depth] at hd; omega
      obtain ⟨a, xs, rfl, ha, da⟩ := dq_tup h1
      obtain ⟨b, ys, rfl, hb, db⟩ := dq_tup h2
      refine refs rfl rfl fun E Q q => ?_
      cases (show v = Value.ref a from rx)
      cases (show u = Value.ref b from ry)
      obtain ⟨us, r1, p1, _⟩ := I.tuple (SqT.of ha)
      obtain ⟨ws, r2, p2, _⟩ := I.tuple (SqT.of hb)
      have hp := pairD_of hd' da db
      have hsz : us.toArray.size = ws.toArray.size := by
        rw [List.size_toArray, List.size_toArray, ← r1.length, ← r2.length]
        exact Paired.length hp
      refine PySem.SeqAt.rcIn_tuples (e := fun _ => true) p1 p2 (by omega) (fun j h1 h2 => ?_) ?_
      · have k := items_run ih hp r1 r2 j (by simpa using h1) (by simpa using h2)
        have k' : EqP X.prog X.w A.in1 s us.toArray[j] ws.toArray[j] true := by simpa using k
        exact k'
      · rw [all_true, hsz]
        simpa using q
    | dict kvs =>
      have hd' : PyData.depthKv kvs ≤ n := by simp only [PyData.depth] at hd; omega
      obtain ⟨a, _, ex, _⟩ := dq_dict h1
      obtain ⟨b, _, ey, _⟩ := dq_dict h2
      exact refs ex ey fun E Q q => rcQ_dict I (by omega) ih hd' h1 h2 rx ry E Q q
end
/-! ### != -/
section
open MeetsSeq MeetsSeq2 MeetsSeq3
variable {prog : Program} {w : World}
/-- two lists all of whose items are equal, from the i-th on -/
theorem neL_loop {l b : Addr} {us ws : Array Value} {n n2 : Nat} {dd dd2 : Option Addr} {sl sl2 : Array (Option Value)} (hsz : us.size = ws.size) : ∀ (m i : Nat), us.size - i = m → MeetsIn prog w (Builtin.«list.__eq__.loop» ⟨[.ref l, .ref b, rawInt i, rawInt 3], []⟩)
      (fun A R s => s.heap.get? l = some { cls := .type "list", dict := dd, data := .seq us n, slots := sl } ∧ s.heap.get? b = some { cls := .type "list", dict := dd2, data := .seq ws n2, slots := sl2 } ∧
        (∀ j (h1 : j < us.size) (h2 : j < ws.size), EqP prog w A.in1 s us[j] ws[j] true) ∧ R (.ok (.ret (.bool false))) s) := by
  intro m
  induction m with
  | zero =>
    rintro i hm A R ⟨hp, g, d, tk, os⟩ ⟨ea, eb, _, fin⟩
    have o1 : us[((i : Nat) : Int).toNat]? = none := by simp; omega
    have o2 : ws[((i : Nat) : Int).toNat]? = none := by simp; omega
    wp_walk using wpAny_loadPart' ea, wpAny_loadPart' eb
    rw [o1, o2]
    wp_walk using wpAny_loadPart' ea, wpAny_loadPart' eb
    show R (.ok (.ret (.bool (us.size != ws.size)))) _
    rw [hsz, show (ws.size != ws.size) = false by simp]
    exact fin
  | succ m ih =>
    rintro i hm A R ⟨hp, g, d, tk, os⟩ ⟨ea, eb, each, fin⟩
    have i1 : i < us.size := by omega
    have i2 : i < ws.size := by omega
    have o1 : us[((i : Nat) : Int).toNat]? = some us[i] := by simp [i1]
    have o2 : ws[((i : Nat) : Int).toNat]? = some ws[i] := by simp [i2]
    wp_walk using wpAny_loadPart' ea, wpAny_loadPart' eb
    rw [o1, o2]
    refine wpAny_bind (each i i1 i2 _ _ ?_)
    wp_walk
    rw [show ((i : Int) + 1) = ((i + 1 : Nat) : Int) by omega]
    refine ⟨plainId_quiet plain_eq_loop _, codeAny_builtin entry_eq_loop ?_⟩
    rw [Around.under_plainId plain_eq_loop _]
    exact ih (i + 1) (by omega) A R _ ⟨ea, eb, each, fin⟩
theorem neL {l b : Addr} {us ws : Array Value} {n n2 : Nat} {dd dd2 : Option Addr} {sl sl2 : Array (Option Value)} (hsz : us.size = ws.size) : MeetsIn prog w (Builtin.«list.__ne__» ⟨[.ref l, .ref b], []⟩)
      (fun A R s => s.heap.get? l = some { cls := .type "list", dict := dd, data := .seq us n, slots := sl } ∧ s.heap.get? b = some { cls := .type "list", dict := dd2, data := .seq ws n2, slots := sl2 } ∧
        (∀ j (h1 : j < us.size) (h2 : j < ws.size), EqP prog w A.in1 s us[j] ws[j] true) ∧ R (.ok (.ret (.bool false))) s) := by
  rintro A R ⟨hp, g, d, tk, os⟩ ⟨ea, eb, each, fin⟩
  have f3 := AutoSeq1.sub_list_list
  have hne : ¬ (us.size != ws.size) = true := by simp [hsz]
  wp_walk using wpAny_loadPart' ea, wpAny_loadPart' eb
  refine ⟨plainId_quiet plain_eq_loop _, codeAny_builtin entry_eq_loop ?_⟩
  rw [Around.under_plainId plain_eq_loop _]
  exact neL_loop hsz _ 0 rfl A R _ ⟨ea, eb, each, fin⟩
theorem rneL {A : Around} {s : Shared} {l b : Addr} {us ws : Array Value} (hl : s.heap.IsList l us) (hb : s.heap.IsList b ws) (hsz : us.size = ws.size) (hu : A.units < cLine)
    (each : ∀ j (h1 : j < us.size) (h2 : j < ws.size), EqP prog w A.in1 s us[j] ws[j] true) {E Q : Value → Shared → Prop} (q : Q (.bool false) s) : wpAny (model prog w) A (richCompare .NotEq (.ref l) (.ref b)) Q E s := by
  obtain ⟨⟨c1, d1, t1, s1⟩, e1, k1, n1, m1⟩ := hl
  obtain ⟨⟨c2, d2, t2, s2⟩, e2, k2, n2, m2⟩ := hb
  simp only at k1 m1 k2 m2
  subst k1 m1 k2 m2
  exact wpAny_richCompare_same_room (T := "list") (op := .NotEq) ⟨_, e1, rfl⟩ ⟨_, e2, rfl⟩ F.slot_list_ne (call_meetsIn F.slot_list_ne ⟨_, e1, rfl⟩ F.entry_list_ne (F.args_list_ne_2 _ _) (neL hsz)
    ⟨e1, e2, each, show Value.bool false ≠ Value.notImplemented ∧ Q (.bool false) s from ⟨(fun x => nomatch x), q⟩⟩) hu
end
section
variable {X : Cx}
def rEqQ : R2 := fun x y H Q => ∃ d, PyData.depth d ≤ 60 ∧ Dq H x d ∧ Dq H y d ∧ Q (.bl true) H
def rNeQ : R2 := fun x y H Q => ∃ ds, PyData.depthAll ds ≤ 60 ∧ Dq H x (.list ds) ∧ Dq H y (.list ds) ∧ Q (.bl false) H
/-- a != b, two lists that read as the same -/
theorem op_neQ (hu : X.A.units + 64 < cLine) : OpR X (compareOp .NotEq) rNeQ := by
  intro pins s σ H x y v u Q I rx ry h
  obtain ⟨ds, dp, h1, h2, q⟩ := h
  obtain ⟨a, xs, rfl, ha, da⟩ := dq_list h1
  obtain ⟨b, ys, rfl, hb, db⟩ := dq_list h2
  cases (show v = Value.ref a from rx)
  cases (show u = Value.ref b from ry)
  obtain ⟨us, r1, p1, _⟩ := I.list (SqL.of ha)
  obtain ⟨ws, r2, p2, _⟩ := I.list (SqL.of hb)
  have hp := pairD_of dp da db
  have hsz : us.toArray.size = ws.toArray.size := by
    rw [List.size_toArray, List.size_toArray, ← r1.length, ← r2.length]
    exact Paired.length hp
  have ih := eqQ_run I 60 X.A.in1 (by show X.A.units + 1 + 60 < cLine; omega)
  refine rneL p1.isList p2.isList hsz (by omega) (fun j k1 k2 => ?_) ⟨.bl false, H, I, rfl, q⟩
  have k := items_run ih hp r1 r2 j (by simpa using k1) (by simpa using k2)
  simpa using k
end
end VL

set_option Elab.async false
set_option linter.all false
set_option maxRecDepth 100000
set_option maxHeartbeats 4000000
namespace VL
open PySem PySem.Spec PyProof.Rows L2
/-! ### data without dicts, as the rules of == and != see it -/
theorem upd_id {H : Hp} {a : Addr} {o : HO} (h : H a = some o) : upd H a o = H := by
  funext b
  by_cases e : b = a
  · subst e; rw [upd_same, h]
  · rw [upd_ne e]
theorem dq_dp_n {K : PySem.W.Frag} {H : Hp} : ∀ (n : Nat) (d : PyData) (v : V), PyData.depth d ≤ n → d.plain = true → Dq H v d → Dp K H v d := by
  intro n
  induction n with
  | zero =>
    intro d v hn hp h
    cases h with
    | non => exact .non
    | bl b => exact .bl b
    | int i => exact .int i
    | str x => exact .str x
    | lst _ _ => exact absurd hn (by simp [PyData.depth])
    | tup _ _ => exact absurd hn (by simp [PyData.depth])
    | dic _ _ _ => exact absurd hn (by simp [PyData.depth])
  | succ n ih =>
    have all : ∀ {vs : List V} {ds : List PyData}, DqAll H vs ds → PyData.depthAll ds ≤ n → PyData.plainAll ds = true → DpAll K H vs ds := by
      intro vs
      induction vs with
      | nil => intro ds h _ _; cases h; exact .nil
      | cons v vs iv =>
        intro ds h hd hp
        cases h with
        | @cons _ _ d ds a b =>
          have hd' : max (PyData.depth d) (PyData.depthAll ds) ≤ n := hd
          have hp' : d.plain = true ∧ PyData.plainAll ds = true := by simpa [PyData.plainAll] using hp
          exact .cons (ih d v (by omega) hp'.1 a) (iv b (by omega) hp'.2)
    intro d v hn hp h
    cases h with
    | non => exact .non
    | bl b => exact .bl b
    | int i => exact .int i
    | str x => exact .str x
    | lst h1 h2 => exact .lst (SqL.of h1) (all h2 (by simp only [PyData.depth] at hn; omega) (by simpa [PyData.plain] using hp))
    | tup h1 h2 => exact .tup (SqT.of h1) (all h2 (by simp only [PyData.depth] at hn; omega) (by simpa [PyData.plain] using hp))
    | dic _ _ _ => exact nomatch hp
theorem Dq.dp {K : PySem.W.Frag} {H : Hp} {v : V} {d : PyData} (h : Dq H v d) (hp : d.plain = true) : Dp K H v d := dq_dp_n _ d v (Nat.le_refl _) hp h
end VL

set_option linter.all false
namespace VL
/-! ### updates of a cell, and what processing makes of them -/
inductive Ex where
  | num (i : Int)
  | ck
  | dbl (i : Int)
structure Up where
  m : Bool
  l : Int
  e : Ex
  k : Int
def exV (x k : Int) : Ex → Int
  | .num i => i
  | .ck => x + k
  | .dbl i => x * 2 + i
def ap (x : Int) (u : Up) : Int := exV x u.k u.e
def okE : Ex → Prop
  | .num i => 0 ≤ i ∧ i ≤ 8
  | .ck => True
  | .dbl i => 0 ≤ i ∧ i ≤ 8
structure OkU (u : Up) : Prop where
  l : 0 ≤ u.l ∧ u.l ≤ 3
  k : 0 ≤ u.k ∧ u.k ≤ 6
  e : okE u.e
def mrk (ls : List Int) (u : Up) : Up := ⟨u.m || ls.contains u.l, u.l, u.e, u.k⟩
theorem mrk_ok {ls : List Int} {u : Up} (h : OkU u) : OkU (mrk ls u) := ⟨h.l, h.k, h.e⟩
structure PS where
  b : Int
  v : Int
  r : List Up
def stp (ls : List Int) (s : PS) (u : Up) : PS :=
  if (mrk ls u).m && s.r.isEmpty then ⟨ap s.v (mrk ls u), ap s.v (mrk ls u), []⟩ else ⟨s.b, if (mrk ls u).m then ap s.v (mrk ls u) else s.v, s.r ++ [mrk ls u]⟩
def prc (ls : List Int) (b : Int) (us : List Up) : PS := us.foldl (stp ls) ⟨b, b, []⟩
theorem prc_take {ls : List Int} {b : Int} {us : List Up} {i : Nat} (h : i < us.length) : prc ls b (us.take (i + 1)) = stp ls (prc ls b (us.take i)) us[i] := by
  unfold prc
  rw [List.take_add_one, List.getElem?_eq_getElem h, List.foldl_append]
  rfl
/-- small behind n updates -/
def Sml (n : Nat) (x : Int) : Prop := 0 ≤ x ∧ x + 8 ≤ 58 * 2 ^ n
theorem two_pow (n : Nat) : (2 : Int) ^ (n + 1) = 2 * 2 ^ n := by rw [Int.pow_succ]; omega
theorem pow_pos' (n : Nat) : (1 : Int) ≤ 2 ^ n := by
  induction n with
  | zero => decide
  | succ n ih => rw [two_pow]; omega
theorem Sml.step {n : Nat} {x : Int} {u : Up} (h : Sml n x) (hu : OkU u) : Sml (n + 1) (ap x u) := by
  obtain ⟨h0, h1⟩ := h
  have p := pow_pos' n
  have e := hu.e
  have k := hu.k
  unfold Sml
  rw [two_pow]
  generalize (2 : Int) ^ n = t at *
  unfold ap exV
  cases he : u.e with
  | num i => rw [he] at e; simp only [okE] at e; simp only; omega
  | ck => simp only; omega
  | dbl i => rw [he] at e; simp only [okE] at e; simp only; omega
theorem Sml.up {n m : Nat} {x : Int} (h : Sml n x) (k : n ≤ m) : Sml m x := by
  induction k with
  | refl => exact h
  | step _ ih =>
    obtain ⟨h0, h1⟩ := ih
    have p := pow_pos' ‹Nat›
    refine ⟨h0, ?_⟩
    rw [two_pow]
    omega
theorem Sml.lt {n : Nat} {x : Int} (h : Sml n x) (k : n ≤ 58) : 0 ≤ x ∧ x < 18446744073709551616 := by
  have := h.up k
  obtain ⟨h0, h1⟩ := this
  have e : (58 : Int) * 2 ^ 58 = 16717361816799281152 := by decide
  rw [e] at h1
  exact ⟨h0, by omega⟩
/-- what processing keeps: the value is small, the rest has the lanes' marks, base and rest together are no longer than before -/
structure PI (j : Nat) (us : List Up) (s : PS) : Prop where
  v : Sml (j + us.length) s.v
  b : ∃ i, Sml (j + i) s.b ∧ i + s.r.length = us.length ∧ (s.r = [] → s.v = s.b)
  o : ∀ u ∈ s.r, OkU u
theorem PI.step {j : Nat} {ls : List Int} {us : List Up} {s : PS} {u : Up} (h : PI j us s) (hu : OkU u) : PI j (us ++ [u]) (stp ls s u) := by
  obtain ⟨i, hb, hl, hv⟩ := h.b
  have hm := mrk_ok (ls := ls) hu
  have sv := h.v.step hm
  unfold stp
  by_cases c : ((mrk ls u).m && s.r.isEmpty) = true
  · rw [if_pos c]
    refine ⟨by rw [List.length_append]; exact sv, ⟨i + 1, ?_, ?_, fun _ => rfl⟩, (fun u h => nomatch h)⟩
    · have r0 : s.r = [] := by
        have := (Bool.and_eq_true_iff.mp c).2
        simpa using this
      rw [r0] at hl
      simp only [List.length_nil, Nat.add_zero] at hl
      rw [hl]
      exact sv
    · have r0 : s.r = [] := by
        have := (Bool.and_eq_true_iff.mp c).2
        simpa using this
      rw [r0] at hl
      simp at hl ⊢
      exact hl
  · rw [if_neg c]
    refine ⟨?_, ⟨i, hb, ?_, fun z => absurd z (by simp)⟩, fun x hx => ?_⟩
    · simp only [List.length_append, List.length_singleton]
      split
      · exact sv
      · exact h.v.up (by omega)
    · simp only [List.length_append, List.length_singleton]
      omega
    · rcases List.mem_append.mp hx with hx | hx
      · exact h.o x hx
      · rw [List.mem_singleton.mp hx]; exact hm
theorem prc_pi {j : Nat} {ls : List Int} {b : Int} (hb : Sml j b) : ∀ (us : List Up), (∀ u ∈ us, OkU u) → PI j us (prc ls b us) := by
  intro us
  have key : ∀ (us vs : List Up) (s : PS), PI j vs s → (∀ u ∈ us, OkU u) → PI j (vs ++ us) (us.foldl (stp ls) s) := by
    intro us
    induction us with
    | nil => intro vs s h _; simpa using h
    | cons u us ih =>
      intro vs s h hu
      have := ih (vs ++ [u]) (stp ls s u) (h.step (hu u List.mem_cons_self)) fun x hx => hu x (List.mem_cons_of_mem _ hx)
      simpa using this
  intro hu
  have := key us [] ⟨b, b, []⟩ ⟨hb, ⟨0, hb, rfl, fun _ => rfl⟩, (fun u h => nomatch h)⟩ hu
  simpa [prc] using this
/-! the law's way -/
def lead : Int → List Up → Int × List Up
  | b, [] => (b, [])
  | b, u :: r => if u.m then lead (ap b u) r else (b, u :: r)
def valF (x : Int) (us : List Up) : Int := us.foldl (fun x u => if u.m then ap x u else x) x
theorem prc_rest {ls : List Int} : ∀ (us : List Up) (b v : Int) (r : List Up), r ≠ [] → us.foldl (stp ls) ⟨b, v, r⟩ = ⟨b, valF v (us.map (mrk ls)), r ++ us.map (mrk ls)⟩
  | [], b, v, r, _ => by simp [valF]
  | u :: us, b, v, r, h => by
    have e : stp ls ⟨b, v, r⟩ u = ⟨b, if (mrk ls u).m then ap v (mrk ls u) else v, r ++ [mrk ls u]⟩ := by
      unfold stp
      rw [if_neg (by simp [h])]
    rw [List.foldl_cons, e, prc_rest us _ _ _ (by simp)]
    simp [valF]
theorem prc_lead {ls : List Int} : ∀ (us : List Up) (b : Int), prc ls b us = ⟨(lead b (us.map (mrk ls))).1, valF (lead b (us.map (mrk ls))).1 (lead b (us.map (mrk ls))).2, (lead b (us.map (mrk ls))).2⟩
  | [], b => rfl
  | u :: us, b => by
    by_cases c : (mrk ls u).m = true
    · have e : stp ls ⟨b, b, []⟩ u = ⟨ap b (mrk ls u), ap b (mrk ls u), []⟩ := by unfold stp; rw [if_pos (by simp [c])]
      have := prc_lead us (ap b (mrk ls u)) (ls := ls)
      unfold prc at this ⊢
      rw [List.foldl_cons, e, this]
      simp only [List.map_cons, lead, c, if_true]
    · have c' : (mrk ls u).m = false := by simpa using c
      have e : stp ls ⟨b, b, []⟩ u = ⟨b, b, [mrk ls u]⟩ := by unfold stp; rw [if_neg (by simp [c']), if_neg (by simp [c'])]; rfl
      unfold prc
      rw [List.foldl_cons, e, prc_rest _ _ _ _ (by simp)]
      simp only [List.map_cons, lead, c', Bool.false_eq_true, if_false]
      simp [valF, c']
/-- the open lanes -/
def openL (us : List Up) : List Int := ([0, 1, 2, 3] : List Int).filter fun l => us.any fun u => !u.m && decide (u.l = l)
theorem open_mem {us : List Up} (h : ∀ u ∈ us, OkU u) {l : Int} : l ∈ openL us ↔ ∃ u ∈ us, u.m = false ∧ u.l = l := by
  unfold openL
  rw [List.mem_filter, List.any_eq_true]
  constructor
  · rintro ⟨_, u, hu, hc⟩
    simp at hc
    exact ⟨u, hu, hc.1, hc.2⟩
  · rintro ⟨u, hu, hm, rfl⟩
    have := (h u hu).l
    refine ⟨?_, u, hu, by simp [hm]⟩
    simp only [List.mem_cons, List.not_mem_nil, or_false]
    omega
theorem open_sorted (us : List Up) : (openL us).Pairwise (· < ·) := List.Pairwise.filter _ (by decide)
theorem lt_unique : ∀ {a b : List Int}, a.Pairwise (· < ·) → b.Pairwise (· < ·) → (∀ x, x ∈ a ↔ x ∈ b) → a = b
  | [], [], _, _, _ => rfl
  | [], y :: b, _, _, h => absurd ((h y).mpr List.mem_cons_self) (by simp)
  | x :: a, [], _, _, h => absurd ((h x).mp List.mem_cons_self) (by simp)
  | x :: a, y :: b, ha, hb, h => by
    rw [List.pairwise_cons] at ha hb
    have e : x = y := by
      rcases List.mem_cons.mp ((h x).mp List.mem_cons_self) with e | e
      · exact e
      · rcases List.mem_cons.mp ((h y).mpr List.mem_cons_self) with e2 | e2
        · exact e2.symm
        · have := hb.1 x e
          have := ha.1 y e2
          omega
    subst e
    refine congrArg _ (lt_unique ha.2 hb.2 fun z => ?_)
    constructor
    · intro hz
      rcases List.mem_cons.mp ((h z).mp (List.mem_cons_of_mem _ hz)) with e | e
      · have := ha.1 z hz
        omega
      · exact e
    · intro hz
      rcases List.mem_cons.mp ((h z).mpr (List.mem_cons_of_mem _ hz)) with e | e
      · have := hb.1 z hz
        omega
      · exact e
end VL

set_option Elab.async false
set_option linter.all false
set_option maxRecDepth 100000
set_option maxHeartbeats 4000000
namespace VL
open PySem PySem.Spec PyProof.Rows L2

def top (i : Nat) : Stmt := PySem.Challenge.pw_viewloom_k47_cells_and_their_queues.main.body.getD i (.Pass ⟨0, 0, 0, 0⟩)
abbrev s__wall : Stmt := top 0
abbrev s_is_truth : Stmt := top 2
abbrev s_is_number : Stmt := top 3
abbrev s_is_text : Stmt := top 4
abbrev s_is_list : Stmt := top 5
abbrev s_is_record : Stmt := top 6
abbrev s_members_of : Stmt := top 7
abbrev s_members_of_all : Stmt := top 8
abbrev s_wholes_in : Stmt := top 9
abbrev s_same : Stmt := top 10
abbrev s_same_lists : Stmt := top 11
abbrev s_same_records : Stmt := top 12
abbrev s_size_of_all : Stmt := top 13
abbrev s_is_deeper : Stmt := top 14
abbrev s_text_of : Stmt := top 15
abbrev s_copied : Stmt := top 16
abbrev s_copy_of : Stmt := top 17
abbrev s_copied_names : Stmt := top 19
abbrev s_copied_source : Stmt := top 20
abbrev s_Fault___init__ : Stmt := inClass (top 23) 0
abbrev s_bounded_number : Stmt := top 30
abbrev s_bounded_text : Stmt := top 31
abbrev s_bounded : Stmt := top 32
abbrev s_fail_large : Stmt := top 33
abbrev s_need_truth : Stmt := top 35
abbrev s_need_number : Stmt := top 36
abbrev s_need_text : Stmt := top 37
abbrev s_need_list : Stmt := top 38
abbrev s_need_record : Stmt := top 39
abbrev s_has_place : Stmt := top 40
abbrev s_sign_value : Stmt := top 42
abbrev s_quotient : Stmt := top 43
abbrev s_need_comparable : Stmt := top 44
abbrev s_are_same : Stmt := top 45
abbrev s_differ : Stmt := top 46
abbrev s_is_less : Stmt := top 47
abbrev s_is_at_most : Stmt := top 48
abbrev s_is_greater : Stmt := top 49
abbrev s_is_at_least : Stmt := top 50
abbrev s_added : Stmt := top 51
abbrev s_subtracted : Stmt := top 52
abbrev s_multiplied : Stmt := top 53
abbrev s_divided : Stmt := top 54
abbrev s_call_function : Stmt := top 58
abbrev s_need_row : Stmt := top 59
abbrev s_length_of : Stmt := top 60
abbrev s_text_from : Stmt := top 61
abbrev s_number_from : Stmt := top 62
abbrev s_part_of : Stmt := top 63
abbrev s_index_of : Stmt := top 64
abbrev s_got : Stmt := top 65
abbrev s_joined : Stmt := top 66
abbrev s_parted : Stmt := top 67
abbrev s_names_of : Stmt := top 68
abbrev s_in_order : Stmt := top 69
abbrev s_numbers_below : Stmt := top 70
abbrev s_rest_of : Stmt := top 71
abbrev s_lesser : Stmt := top 72
abbrev s_greater : Stmt := top 73
abbrev s_evaluate : Stmt := top 76
abbrev s_value_of : Stmt := top 77
abbrev s_values_of : Stmt := top 78
abbrev s_null_value : Stmt := top 79
abbrev s_true_value : Stmt := top 80
abbrev s_false_value : Stmt := top 81
abbrev s_written_value : Stmt := top 82
abbrev s_name_value : Stmt := top 83
abbrev s_list_value : Stmt := top 84
abbrev s_record_value : Stmt := top 85
abbrev s_field_value : Stmt := top 86
abbrev s_item_value : Stmt := top 87
abbrev s_not_value : Stmt := top 88
abbrev s_minus_value : Stmt := top 89
abbrev s_binary_value : Stmt := top 90
abbrev s_choice_value : Stmt := top 91
abbrev s_function_value : Stmt := top 92
abbrev s_act_value : Stmt := top 93
abbrev s_gathering_value : Stmt := top 94
abbrev s_Cell___init__ : Stmt := inClass (top 98) 0
abbrev s_Cell_present : Stmt := inClass (top 98) 1
abbrev s_Cell_waiting : Stmt := inClass (top 98) 2
abbrev s_Cell_open_lanes : Stmt := inClass (top 98) 3
abbrev s_Cell___eq__ : Stmt := inClass (top 98) 4
abbrev s_Cell_send : Stmt := inClass (top 98) 5
abbrev s_Cell_copied : Stmt := inClass (top 98) 6
abbrev s_Cell_processed : Stmt := inClass (top 98) 7
abbrev s_copied_update : Stmt := top 99
abbrev s_same_queues : Stmt := top 100
abbrev s__law_rows : Stmt := top 102
abbrev s__law_update : Stmt := top 103
abbrev s__law_apply : Stmt := top 104
abbrev s__law_processed : Stmt := top 105
abbrev s__law_same : Stmt := top 106
abbrev s_law : Stmt := top 107
structure Ad where
  u0 : Unit
  Cell : Addr
structure Txt (K : PySem.W.Frag) (w : World) (mg : Str → Option Value) (C : Ad) : Prop where
  g_Cell : GV mg "Cell" (.ref C.Cell)
  cl_Cell : Cls K C.Cell
  ic_Cell : C8.InsC K C.Cell
  ne_Cell : PySem.W.findIn K (.ref C.Cell) "__ne__" = some (some (.builtin "object.__ne__")) ∧ PySem.W.mroIn K C.Cell (.type "object") = some true
  n_Cell_name : NoAttr K C.Cell "name"
  n_Cell_base : NoAttr K C.Cell "base"
  n_Cell_queue : NoAttr K C.Cell "queue"
  n_Cell_value : NoAttr K C.Cell "value"
  z_NotImplemented : mg "NotImplemented" = none
  z_abs : mg "abs" = none
  z_bool : mg "bool" = none
  z_dict : mg "dict" = none
  z_int : mg "int" = none
  z_isinstance : mg "isinstance" = none
  z_len : mg "len" = none
  z_list : mg "list" = none
  z_property : mg "property" = none
  z_range : mg "range" = none
  z_sorted : mg "sorted" = none
  z_str : mg "str" = none
  z_tuple : mg "tuple" = none
  z_zip : mg "zip" = none
  tb_ACTIONS_signs : ∃ a, GV mg "ACTIONS_signs" (.ref a) ∧ EntT K w mg a "+" "added" ∧ EntT K w mg a "*" "multiplied"
  tb_ACTIONS_evaluating : ∃ a, GV mg "ACTIONS_evaluating" (.ref a) ∧ EntT K w mg a "number" "written_value" ∧ EntT K w mg a "name" "name_value" ∧ EntT K w mg a "binary" "binary_value"
  g_LARGEST_NUMBER : GV mg "LARGEST_NUMBER" (V.int 1000000000000000000000000000000)
  g_MOST_UPDATES : GV mg "MOST_UPDATES" (V.int 50)
  d_is_number : DefE K mg "is_number" s_is_number ["value"]
  d_same : DefE K mg "same" s_same ["a", "b"]
  d_same_records : DefE K mg "same_records" s_same_records ["a", "b"]
  d_copied : DefE K mg "copied" s_copied ["value"]
  d_copy_of : DefE K mg "copy_of" s_copy_of ["value"]
  d_copied_names : DefE K mg "copied_names" s_copied_names ["environment"]
  d_copied_source : DefE K mg "copied_source" s_copied_source ["part"]
  d_bounded_number : DefE K mg "bounded_number" s_bounded_number ["number"]
  d_need_truth : DefE K mg "need_truth" s_need_truth ["value"]
  d_need_number : DefE K mg "need_number" s_need_number ["value"]
  d_sign_value : DefE K mg "sign_value" s_sign_value ["sign", "a", "b"]
  d_added : DefE K mg "added" s_added ["a", "b"]
  d_multiplied : DefE K mg "multiplied" s_multiplied ["a", "b"]
  d_evaluate : DefE K mg "evaluate" s_evaluate ["expression", "environment", "owner"]
  d_value_of : DefE K mg "value_of" s_value_of ["expression", "environment", "owner"]
  d_written_value : DefE K mg "written_value" s_written_value ["expression", "environment", "owner"]
  d_name_value : DefE K mg "name_value" s_name_value ["expression", "environment", "owner"]
  d_binary_value : DefE K mg "binary_value" s_binary_value ["expression", "environment", "owner"]
  i_Cell : InitE K mg "Cell" C.Cell "Cell.__init__" s_Cell___init__ ["self", "name", "value"]
  p_Cell_present : PropE K C.Cell "present" "Cell.present" s_Cell_present
  p_Cell_open_lanes : PropE K C.Cell "open_lanes" "Cell.open_lanes" s_Cell_open_lanes
  m_Cell___eq__ : MethE K C.Cell "__eq__" "Cell.__eq__" s_Cell___eq__ ["self", "other"]
  m_Cell_send : MethE K C.Cell "send" "Cell.send" s_Cell_send ["self", "lane", "expression", "environment"]
  m_Cell_copied : MethE K C.Cell "copied" "Cell.copied" s_Cell_copied ["self"]
  m_Cell_processed : MethKE K C.Cell "processed" "Cell.processed" s_Cell_processed ["self", "lanes", "owner"] 2 ["owner"]
  d_copied_update : DefE K mg "copied_update" s_copied_update ["update"]
  d_same_queues : DefE K mg "same_queues" s_same_queues ["a", "b"]
  d__law_rows : DefE K mg "_law_rows" s__law_rows ["script", "count"]
  d__law_update : DefE K mg "_law_update" s__law_update ["row"]
  d__law_apply : DefE K mg "_law_apply" s__law_apply ["value", "entry"]
  d__law_processed : DefE K mg "_law_processed" s__law_processed ["state", "lanes"]
  d__law_same : DefE K mg "_law_same" s__law_same ["cell", "state"]
end VL

set_option Elab.async false
set_option linter.all false
set_option maxRecDepth 100000
set_option maxHeartbeats 4000000
namespace VL
open PySem PySem.Spec PyProof.Rows L2
def spFalse : Sp := fun _ _ _ _ => False
theorem Sm.new {t : Addr} {o : HO} {H : Hp} (h : H t = none) : Same H (upd H t o) := fun b u e => by rw [upd_ne (ne_of_none e h)]; exact e
theorem at0 {x : V} {xs : List V} : atI (x :: xs) 0 = some x := by
  unfold atI ixN
  rw [if_pos (by decide), if_pos (by simp only [List.length_cons]; omega)]
  rfl
theorem at1 {x y : V} {xs : List V} : atI (x :: y :: xs) 1 = some y := by
  unfold atI ixN
  rw [if_pos (by decide), if_pos (by simp only [List.length_cons]; omega)]
  rfl
theorem at2 {x y z : V} {xs : List V} : atI (x :: y :: z :: xs) 2 = some z := by
  unfold atI ixN
  rw [if_pos (by decide), if_pos (by simp only [List.length_cons]; omega)]
  rfl
theorem at3 {x y z u : V} {xs : List V} : atI (x :: y :: z :: u :: xs) 3 = some u := by
  unfold atI ixN
  rw [if_pos (by decide), if_pos (by simp only [List.length_cons]; omega)]
  rfl
/-! ### what stands there -/
def encX : Ex → PyData
  | .num i => .tuple [.str "number", .int i]
  | .ck => .tuple [.str "binary", .str "+", .tuple [.str "name", .str "c"], .tuple [.str "name", .str "k"]]
  | .dbl i => .tuple [.str "binary", .str "+", .tuple [.str "binary", .str "*", .tuple [.str "name", .str "c"], .tuple [.str "number", .int 2]], .tuple [.str "number", .int i]]
abbrev eK (k : Int) : List (Key × V) := [(.inr "k", .int k)]
abbrev eKC (k x : Int) : List (Key × V) := [(.inr "k", .int k), (.inr "c", .int x)]
def UpA (H : Hp) (p : Addr) (u : Up) : Prop := ∃ (v : V) (d : Addr), H p = some (.lst [.bl u.m, .int u.l, v, .ref d]) ∧ Dq H v (encX u.e) ∧ H d = some (.dK (eK u.k))
theorem UpA.same {H H' : Hp} {p : Addr} {u : Up} (h : UpA H p u) (s : Same H H') : UpA H' p u := by
  obtain ⟨v, d, h1, h2, h3⟩ := h
  exact ⟨v, d, s _ _ h1, h2.same s, s _ _ h3⟩
theorem newer_trans {H H1 H2 : Hp} (s : Same H H1) : Same (newer H1 H2) (newer H H2) := fun b o h => by
  obtain ⟨h1, h2⟩ := newer_some h
  refine newer_mk ?_ h2
  cases e : H b with
  | none => rfl
  | some u => rw [s _ _ e] at h1; exact nomatch h1
theorem newer_grow {H H1 H2 : Hp} (s : Same H1 H2) : Same (newer H H1) (newer H H2) := fun b o h => by
  obtain ⟨h1, h2⟩ := newer_some h
  exact newer_mk h1 (s _ _ h2)
theorem SqT.tup {K : PySem.W.Frag} {H : Hp} {a : Addr} {xs : List V} (h : H a = some (.tup xs)) : SqT K H a xs := SqT.of h
/-! ### specs -/
def spInt1 : Sp := fun vs H Q _ => ∃ i : Int, vs = [.int i] ∧ Q (.int i) H
def spIsNum : Sp := fun vs H Q _ => ∃ i : Int, vs = [.int i] ∧ Q (.bl true) H
def spSame : Sp := fun vs H Q _ => ∃ i : Int, vs = [.int i, .int i] ∧ Q (.bl true) H
def spBnd : Sp := fun vs H Q _ => ∃ i : Int, vs = [.int i] ∧ 0 ≤ i ∧ i ≤ 1000000000000000000000000000000 ∧ Q (.int i) H
def spAdd : Sp := fun vs H Q _ => ∃ i j : Int, vs = [.int i, .int j] ∧ 0 ≤ i + j ∧ i + j ≤ 1000000000000000000000000000000 ∧ Q (.int (i + j)) H
def spMul : Sp := fun vs H Q _ => ∃ i j : Int, vs = [.int i, .int j] ∧ (-(2 ^ 64) < i ∧ i < 2 ^ 64) ∧ 0 ≤ i * j ∧ i * j ≤ 1000000000000000000000000000000 ∧ Q (.int (i * j)) H
def spSgn : Sp := fun vs H Q _ => ∃ (x : Str) (i j r : Int), vs = [.str x, .int i, .int j] ∧ (x = "*" → -(2 ^ 64) < i ∧ i < 2 ^ 64) ∧ ((x = "+" ∧ r = i + j) ∨ (x = "*" ∧ r = i * j)) ∧ 0 ≤ r ∧ r ≤ 1000000000000000000000000000000 ∧ Q (.int r) H
def spNam : Sp := fun vs H Q _ => ∃ d k, vs = [.ref d] ∧ H d = some (.dK (eK k)) ∧ ∀ p, H p = none → Q (.ref p) (upd H p (.dK (eK k)))
def spWrt : Sp := fun vs H Q _ => ∃ (p : Addr) (x y z : V) (i : Int), vs = [.ref p, y, z] ∧ H p = some (.tup [x, .int i]) ∧ Q (.int i) H
def spGet : Sp := fun vs H Q _ => ∃ (p d : Addr) (x z : V) (i : Int), vs = [.ref p, .ref d, z] ∧ ∃ (s : Str) (k c : Int), H p = some (.tup [x, .str s]) ∧ H d = some (.dK (eKC k c)) ∧ ((s = "k" ∧ i = k) ∨ (s = "c" ∧ i = c)) ∧ Q (.int i) H
def tps : PyData → Bool
  | .tuple ds => decide (ds.length ≤ 1000) && tpsAll ds
  | .int _ => true
  | .str _ => true
  | _ => false
where tpsAll : List PyData → Bool
  | [] => true
  | d :: ds => tps d && tpsAll ds
theorem tpsAll_mem : ∀ {ds : List PyData}, tps.tpsAll ds = true → ∀ d ∈ ds, tps d = true
  | [], _, d, h => nomatch h
  | x :: ds, q, d, h => by
    have q' : tps x = true ∧ tps.tpsAll ds = true := by simpa [tps.tpsAll] using q
    rcases List.mem_cons.mp h with rfl | h
    · exact q'.1
    · exact tpsAll_mem q'.2 d h
def spSrc (n : Nat) : Sp := fun vs H Q _ => ∃ (v : V) (d : PyData), vs = [v] ∧ Dq H v d ∧ tps d = true ∧ PyData.depth d ≤ n ∧ ∀ v' H', Same H H' → Dq (newer H H') v' d → Q v' H'
def spUpd : Sp := fun vs H Q _ => ∃ (p : Addr) (u : Up), vs = [.ref p] ∧ UpA H p u ∧ ∀ a H', Same H H' → UpA (newer H H') a u → Q (.ref a) H'
/-- what an expression is worth where c is x -/
inductive Evl (k x : Int) : Nat → PyData → Int → Prop
  | name (n : Nat) : Evl k x n (.tuple [.str "name", .str "c"]) x
  | nameK (n : Nat) : Evl k x n (.tuple [.str "name", .str "k"]) k
  | num (n : Nat) (i : Int) : Evl k x n (.tuple [.str "number", .int i]) i
  | bin {n : Nat} {s : Str} {a b : PyData} {u v r : Int} : Evl k x n a u → Evl k x n b v → (s = "*" → -(2 ^ 64) < u ∧ u < 2 ^ 64) → (s = "+" ∧ r = u + v) ∨ (s = "*" ∧ r = u * v) → 0 ≤ r → r ≤ 1000000000000000000000000000000 → Evl k x (n + 1) (.tuple [.str "binary", .str s, a, b]) r
def spVal (n : Nat) : Sp := fun vs H Q _ => ∃ (v : V) (p : Addr) (z : V) (k x : Int) (d : PyData) (r : Int), vs = [v, .ref p, z] ∧ Dq H v d ∧ H p = some (.dK (eKC k x)) ∧ Evl k x n d r ∧ ∀ H', Same H H' → Q (.int r) H'
def spBin (n : Nat) : Sp := fun vs H Q _ => ∃ (v : V) (p : Addr) (z : V) (k x : Int) (s : Str) (a b : PyData) (i j r : Int), vs = [v, .ref p, z] ∧ Dq H v (.tuple [.str "binary", .str s, a, b]) ∧ H p = some (.dK (eKC k x)) ∧ Evl k x n a i ∧ Evl k x n b j ∧ (s = "*" → -(2 ^ 64) < i ∧ i < 2 ^ 64) ∧
  ((s = "+" ∧ r = i + j) ∨ (s = "*" ∧ r = i * j)) ∧ 0 ≤ r ∧ r ≤ 1000000000000000000000000000000 ∧ ∀ H', Same H H' → Q (.int r) H'
theorem dqs {H : Hp} {v : V} {s : Str} (h : Dq H v (.str s)) : v = .str s := by cases h; rfl
theorem dqi {H : Hp} {v : V} {i : Int} (h : Dq H v (.int i)) : v = .int i := by cases h; rfl
section
variable {P : Program} {w : World} {K : PySem.W.Frag} {mg : Str → Option Value} {base : Heap} {C : Ad}
theorem ty_int {H : Hp} {i : Int} : TyX K H (.int i) (.type "int") := .base (.int i)
theorem sc_copy_of : FnScope ["value", "part", "name"] ["value"] (defScope s_copy_of) := ⟨rfl, rfl, rfl, by decide +kernel, rfl, by decide +kernel, by decide +kernel⟩
theorem ok_copy (T : Txt K w mg C) : Cal P w K mg base 1 "copy_of" spInt1 := by
  refine cal_of T.d_copy_of sc_copy_of (fun vs H Q E h => ?_) (fun f cdv A outer s H vs Q E hr h => ?_)
  · obtain ⟨i, rfl, _⟩ := h
    rfl
  · obtain ⟨i, rfl, k⟩ := h
    refine ⟨_, (pss_cons (ps_if (pt_val (pe_callB call_isi (by rfl) T.z_isinstance (by decide +kernel) (pa_cons (pv 0) (pa_cons (pe_bltn (v := .ty "list") (by rfl) T.z_list (by decide +kernel) rfl) pa_nil)))) (pss_one ps_never) pss_nil) (pss_cons (ps_if (pt_val (pe_callB call_isi (by rfl) T.z_isinstance (by decide +kernel) (pa_cons (pv 0) (pa_cons (pe_bltn (v := .ty "dict") (by rfl) T.z_dict (by decide +kernel) rfl) pa_nil)))) (pss_one ps_never) pss_nil) (pss_cons (ps_if (pt_val (pe_callB call_isi (by rfl) T.z_isinstance (by decide +kernel) (pa_cons (pv 0) (pa_cons (pe_bltn (v := .ty "tuple") (by rfl) T.z_tuple (by decide +kernel) rfl) pa_nil)))) (pss_one ps_never) pss_nil) (pss_one (ps_ret (pv 0)))))), ?_⟩
    refine ⟨_, rfl, .int i, .ty "list", _, _, false, rfl, .ty _, ty_int, kit_ty (by decide +kernel), false, rfl, iteF ?_⟩
    refine ⟨_, rfl, .int i, .ty "dict", _, _, false, rfl, .ty _, ty_int, kit_ty (by decide +kernel), false, rfl, iteF ?_⟩
    refine ⟨_, rfl, .int i, .ty "tuple", _, _, false, rfl, .ty _, ty_int, kit_ty (by decide +kernel), false, rfl, iteF ?_⟩
    exact ⟨_, rfl, k⟩
theorem sc_copied : FnScope ["value"] ["value"] (defScope s_copied) := ⟨rfl, rfl, rfl, by decide +kernel, rfl, by decide +kernel, by decide +kernel⟩
theorem ok_copied (T : Txt K w mg C) : Cal P w K mg base 2 "copied" spInt1 := by
  have Gcopy_of : Cal P w K mg base 1 "copy_of" spInt1 := ok_copy T
  refine cal_of T.d_copied sc_copied (fun vs H Q E h => ?_) (fun f cdv A outer s H vs Q E hr h => ?_)
  · obtain ⟨i, rfl, _⟩ := h
    rfl
  · obtain ⟨i, rfl, k⟩ := h
    refine ⟨_, (pss_one (ps_ret (pe_c Gcopy_of hr (by decide) (by rfl) (pa_cons (pv 0) pa_nil)))), ?_⟩
    exact ⟨_, rfl, i, rfl, k⟩
theorem sc_is_number : FnScope ["value"] ["value"] (defScope s_is_number) := ⟨rfl, rfl, rfl, by decide +kernel, rfl, by decide +kernel, by decide +kernel⟩
theorem ok_isnum (T : Txt K w mg C) : Cal P w K mg base 1 "is_number" spIsNum := by
  refine cal_of T.d_is_number sc_is_number (fun vs H Q E h => ?_) (fun f cdv A outer s H vs Q E hr h => ?_)
  · obtain ⟨i, rfl, _⟩ := h
    rfl
  · obtain ⟨i, rfl, k⟩ := h
    refine ⟨_, (pss_one (ps_ret (pe_and (pe_callB call_isi (by rfl) T.z_isinstance (by decide +kernel) (pa_cons (pv 0) (pa_cons (pe_bltn (v := .ty "int") (by rfl) T.z_int (by decide +kernel) rfl) pa_nil))) (pe_one (pe_not (pe_callB call_isi (by rfl) T.z_isinstance (by decide +kernel) (pa_cons (pv 0) (pa_cons (pe_bltn (v := .ty "bool") (by rfl) T.z_bool (by decide +kernel) rfl) pa_nil)))))))), ?_⟩
    refine ⟨_, rfl, .int i, .ty "int", _, _, true, rfl, .ty _, ty_int, kit_ty (by decide +kernel), true, rfl, iteT ?_⟩
    exact ⟨_, rfl, .int i, .ty "bool", _, _, false, rfl, .ty _, ty_int, kit_ty (by decide +kernel), false, rfl, k⟩
theorem sc_same : FnScope ["a", "b"] ["a", "b"] (defScope s_same) := ⟨rfl, rfl, rfl, by decide +kernel, rfl, by decide +kernel, by decide +kernel⟩
theorem ok_same (T : Txt K w mg C) : Cal P w K mg base 1 "same" spSame := by
  refine cal_of T.d_same sc_same (fun vs H Q E h => ?_) (fun f cdv A outer s H vs Q E hr h => ?_)
  · obtain ⟨i, rfl, _⟩ := h
    rfl
  · obtain ⟨i, rfl, k⟩ := h
    refine ⟨_, (pss_cons (ps_if (pt_val (pe_callB call_isi (by rfl) T.z_isinstance (by decide +kernel) (pa_cons (pv 0) (pa_cons (pe_bltn (v := .ty "int") (by rfl) T.z_int (by decide +kernel) rfl) pa_nil)))) (pss_one (ps_ret (pe_and (pe_callB call_isi (by rfl) T.z_isinstance (by decide +kernel) (pa_cons (pv 1) (pa_cons (pe_bltn (v := .ty "int") (by rfl) T.z_int (by decide +kernel) rfl) pa_nil))) (pe_and (pe_cmpR op_eq (pe_callB call_isi (by rfl) T.z_isinstance (by decide +kernel) (pa_cons (pv 0) (pa_cons (pe_bltn (v := .ty "bool") (by rfl) T.z_bool (by decide +kernel) rfl) pa_nil))) (pe_callB call_isi (by rfl) T.z_isinstance (by decide +kernel) (pa_cons (pv 1) (pa_cons (pe_bltn (v := .ty "bool") (by rfl) T.z_bool (by decide +kernel) rfl) pa_nil))) (nomark _)) (pe_one (pe_cmpR op_eq (pv 0) (pv 1) (nomark _))))))) pss_nil) (pss_cons ps_never (pss_cons ps_never (pss_cons ps_never (pss_cons ps_never (pss_one ps_never)))))), ?_⟩
    refine ⟨_, rfl, .int i, .ty "int", _, _, true, rfl, .ty _, ty_int, kit_ty (by decide +kernel), true, rfl, iteT ?_⟩
    refine ⟨_, rfl, .int i, .ty "int", _, _, true, rfl, .ty _, ty_int, kit_ty (by decide +kernel), true, rfl, iteT ?_⟩
    refine ⟨_, rfl, .int i, .ty "bool", _, _, false, rfl, .ty _, ty_int, kit_ty (by decide +kernel), ?_⟩
    refine ⟨_, rfl, .int i, .ty "bool", _, _, false, rfl, .ty _, ty_int, kit_ty (by decide +kernel), ?_⟩
    have e1 : decide (V.bl false = V.bl false) = true := by simp
    have e2 : decide (V.int i = V.int i) = true := by simp
    refine ⟨rfl, ?_⟩
    rw [e1]
    refine ⟨true, rfl, iteT ?_⟩
    refine ⟨_, rfl, _, rfl, rfl, ?_⟩
    rw [e2]
    exact k
theorem sc_bounded_number : FnScope ["number"] ["number"] (defScope s_bounded_number) := ⟨rfl, rfl, rfl, by decide +kernel, rfl, by decide +kernel, by decide +kernel⟩
theorem ok_bnd (T : Txt K w mg C) : Cal P w K mg base 1 "bounded_number" spBnd := by
  refine cal_of T.d_bounded_number sc_bounded_number (fun vs H Q E h => ?_) (fun f cdv A outer s H vs Q E hr h => ?_)
  · obtain ⟨i, rfl, _⟩ := h
    rfl
  · obtain ⟨i, rfl, h0, h1, k⟩ := h
    refine ⟨_, (pss_cons (ps_if (pt_cmpR op_gt (pe_callB call_abs (by rfl) T.z_abs (by decide +kernel) (pa_cons (pv 0) pa_nil)) (C8.pe_gc (by rfl) T.g_LARGEST_NUMBER) (nomark _)) (pss_one ps_never) pss_nil) (pss_one (ps_ret (pv 0)))), ?_⟩
    refine ⟨_, rfl, i, rfl, _, _, rfl, rfl, _, rfl, ?_⟩
    have e : decide (1000000000000000000000000000000 < (if i < 0 then -i else i)) = false := by
      rw [if_neg (by omega)]
      simp
      omega
    rw [e]
    refine iteF ?_
    exact ⟨_, rfl, k⟩
theorem sc_need_number : FnScope ["value"] ["value"] (defScope s_need_number) := ⟨rfl, rfl, rfl, by decide +kernel, rfl, by decide +kernel, by decide +kernel⟩
theorem ok_neednum (T : Txt K w mg C) : Cal P w K mg base 2 "need_number" spInt1 := by
  have Gis_number : Cal P w K mg base 1 "is_number" spIsNum := ok_isnum T
  refine cal_of T.d_need_number sc_need_number (fun vs H Q E h => ?_) (fun f cdv A outer s H vs Q E hr h => ?_)
  · obtain ⟨i, rfl, _⟩ := h
    rfl
  · obtain ⟨i, rfl, k⟩ := h
    refine ⟨_, (pss_cons (ps_if (pt_not (pt_val (pe_c Gis_number hr (by decide) (by rfl) (pa_cons (pv 0) pa_nil)))) (pss_one ps_never) pss_nil) (pss_one (ps_ret (pv 0)))), ?_⟩
    refine ⟨_, rfl, i, rfl, true, rfl, iteF ?_⟩
    exact ⟨_, rfl, k⟩
theorem sc_added : FnScope ["a", "b", "left", "right"] ["a", "b"] (defScope s_added) := ⟨rfl, rfl, rfl, by decide +kernel, rfl, by decide +kernel, by decide +kernel⟩
theorem ok_added (T : Txt K w mg C) : Cal P w K mg base 2 "added" spAdd := by
  have Gis_number : Cal P w K mg base 1 "is_number" spIsNum := ok_isnum T
  have Gbounded_number : Cal P w K mg base 1 "bounded_number" spBnd := ok_bnd T
  refine cal_of T.d_added sc_added (fun vs H Q E h => ?_) (fun f cdv A outer s H vs Q E hr h => ?_)
  · obtain ⟨i, j, rfl, _⟩ := h
    rfl
  · obtain ⟨i, j, rfl, h0, h1, k⟩ := h
    refine ⟨_, (pss_cons (ps_if (PW.pt (pw_and (pt_val (pe_c Gis_number hr (by decide) (by rfl) (pa_cons (pv 0) pa_nil))) (pw_and1 (pt_val (pe_c Gis_number hr (by decide) (by rfl) (pa_cons (pv 1) pa_nil)))))) (pss_one (ps_ret (pe_c Gbounded_number hr (by decide) (by rfl) (pa_cons (pe_op op_add (pv 0) (pv 1)) pa_nil)))) pss_nil) (pss_cons ps_never (pss_cons ps_never (pss_cons ps_never (pss_cons ps_never (pss_cons ps_never (pss_one ps_never))))))), ?_⟩
    refine ⟨_, rfl, i, rfl, true, rfl, iteT ?_⟩
    refine ⟨_, rfl, j, rfl, true, rfl, iteT ?_⟩
    exact ⟨_, rfl, _, rfl, _, _, rfl, rfl, _, rfl, h0, h1, k⟩
theorem sc_multiplied : FnScope ["a", "b"] ["a", "b"] (defScope s_multiplied) := ⟨rfl, rfl, rfl, by decide +kernel, rfl, by decide +kernel, by decide +kernel⟩
theorem ok_multiplied (T : Txt K w mg C) : Cal P w K mg base 3 "multiplied" spMul := by
  have Gneed_number : Cal P w K mg base 2 "need_number" spInt1 := ok_neednum T
  have Gbounded_number : Cal P w K mg base 1 "bounded_number" spBnd := ok_bnd T
  refine cal_of T.d_multiplied sc_multiplied (fun vs H Q E h => ?_) (fun f cdv A outer s H vs Q E hr h => ?_)
  · obtain ⟨i, j, rfl, _⟩ := h
    rfl
  · obtain ⟨i, j, rfl, hb, h0, h1, k⟩ := h
    refine ⟨_, (pss_one (ps_ret (pe_c Gbounded_number hr (by decide) (by rfl) (pa_cons (pe_op op_mul (pe_c Gneed_number hr (by decide) (by rfl) (pa_cons (pv 0) pa_nil)) (pe_c Gneed_number hr (by decide) (by rfl) (pa_cons (pv 1) pa_nil))) pa_nil)))), ?_⟩
    refine ⟨_, rfl, i, rfl, _, rfl, j, rfl, _, _, rfl, rfl, .inl hb, ?_⟩
    exact ⟨_, rfl, h0, h1, k⟩
theorem sc_sign_value : FnScope ["sign", "a", "b", "action"] ["sign", "a", "b"] (defScope s_sign_value) := ⟨rfl, rfl, rfl, by decide +kernel, rfl, by decide +kernel, by decide +kernel⟩
theorem ok_sign (T : Txt K w mg C) : Cal P w K mg base 4 "sign_value" spSgn := by
  obtain ⟨aT, gT_ACTIONS_signs, ⟨f1, m1, e1⟩, ⟨f2, m2, e2⟩⟩ := T.tb_ACTIONS_signs
  refine cal_of T.d_sign_value sc_sign_value (fun vs H Q E h => ?_) (fun f cdv A outer s H vs Q E hr h => ?_)
  · obtain ⟨x, i, j, r, rfl, _⟩ := h
    rfl
  · obtain ⟨x, i, j, r, rfl, hb, h, h0, h1, k⟩ := h
    refine ⟨_, (pss_cons (ps_set (i := 3) sc_sign_value.nd rfl (Or.inl rfl) (pe_ix ix_kdict (C8.pe_gc (by rfl) gT_ACTIONS_signs) (pv 0) (fun _ _ => rfl))) (pss_one (ps_ret (pe_callT (i := 3) hr rfl (Or.inl rfl) (pa_cons (pv 1) (pa_cons (pv 2) pa_nil)))))), ?_⟩
    rcases h with ⟨rfl, rfl⟩ | ⟨rfl, rfl⟩
    · refine ⟨_, rfl, aT, _, .ref f1, rfl, rfl, e1, ?_⟩
      exact ⟨"added", 2, spAdd, f1, by decide, ok_added T, m1, rfl, _, rfl, _, rfl, i, j, rfl, h0, h1, k⟩
    · refine ⟨_, rfl, aT, _, .ref f2, rfl, rfl, e2, ?_⟩
      exact ⟨"multiplied", 3, spMul, f2, by decide, ok_multiplied T, m2, rfl, _, rfl, _, rfl, i, j, rfl, hb rfl, h0, h1, k⟩
end
end VL

set_option Elab.async false
set_option linter.all false
set_option maxRecDepth 100000
set_option maxHeartbeats 4000000
namespace VL
open PySem PySem.Spec PyProof.Rows L2
theorem SmM.refl {H : Hp} : Same H H := fun _ _ e => e
theorem SmM.trans {H H1 H2 : Hp} (a : Same H H1) (b : Same H1 H2) : Same H H2 := fun c o h => b c o (a c o h)
section
variable {P : Program} {w : World} {K : PySem.W.Frag} {mg : Str → Option Value} {base : Heap} {C : Ad}
theorem sc_written_value : FnScope ["expression", "environment", "owner"] ["expression", "environment", "owner"] (defScope s_written_value) := ⟨rfl, rfl, rfl, by decide +kernel, rfl, by decide +kernel, by decide +kernel⟩
theorem ok_written (T : Txt K w mg C) : Cal P w K mg base 1 "written_value" spWrt := by
  refine cal_of T.d_written_value sc_written_value (fun vs H Q E h => ?_) (fun f cdv A outer s H vs Q E hr h => ?_)
  · obtain ⟨p, x, y, z, i, rfl, _⟩ := h
    rfl
  · obtain ⟨p, x, y, z, i, rfl, hp, k⟩ := h
    refine ⟨_, (pss_one (ps_ret (pe_ix ix_tup (pv 0) pe_int (fun _ _ => rfl)))), ?_⟩
    exact ⟨_, rfl, p, _, _, .int i, rfl, rfl, SqT.of hp, at1, k⟩
theorem sc_name_value : FnScope ["expression", "environment", "owner"] ["expression", "environment", "owner"] (defScope s_name_value) := ⟨rfl, rfl, rfl, by decide +kernel, rfl, by decide +kernel, by decide +kernel⟩
theorem ok_name (T : Txt K w mg C) : Cal P w K mg base 1 "name_value" spGet := by
  refine cal_of T.d_name_value sc_name_value (fun vs H Q E h => ?_) (fun f cdv A outer s H vs Q E hr h => ?_)
  · obtain ⟨p, d, x, z, i, rfl, _⟩ := h
    rfl
  · obtain ⟨p, d, x, z, i, rfl, s, kk, c, hp, hd, hs, k⟩ := h
    have hu := hu_of hr
    refine ⟨_, (pss_one (ps_ret (pe_dget1 hu (pv 1) (pe_ix ix_tup (pv 0) pe_int (fun _ _ => rfl)) ⟨rfl, rfl, rfl, rfl⟩))), ?_⟩
    refine ⟨_, rfl, d, rfl, .inl ⟨_, .inl hd⟩, _, rfl, p, _, _, .str s, rfl, rfl, SqT.of hp, at1, ?_⟩
    refine ⟨some (.int i), ?_, k⟩
    rcases hs with ⟨rfl, rfl⟩ | ⟨rfl, rfl⟩
    · exact DGet.k (k := .inr "k") hd
    · exact DGet.k (k := .inr "c") hd
/-- the parts of a tuple that reads as four -/
theorem dq4 {H : Hp} {v : V} {a b c d : PyData} (h : Dq H v (.tuple [a, b, c, d])) : ∃ p x y z u, v = .ref p ∧ H p = some (.tup [x, y, z, u]) ∧ Dq H x a ∧ Dq H y b ∧ Dq H z c ∧ Dq H u d := by
  obtain ⟨p, xs, rfl, hp, hx⟩ := dq_tup h
  cases hx with
  | cons h1 hx => cases hx with
    | cons h2 hx => cases hx with
      | cons h3 hx => cases hx with
        | cons h4 hx => cases hx with
          | nil => exact ⟨p, _, _, _, _, rfl, hp, h1, h2, h3, h4⟩
theorem dq2 {H : Hp} {v : V} {a b : PyData} (h : Dq H v (.tuple [a, b])) : ∃ p x y, v = .ref p ∧ H p = some (.tup [x, y]) ∧ Dq H x a ∧ Dq H y b := by
  obtain ⟨p, xs, rfl, hp, hx⟩ := dq_tup h
  cases hx with
  | cons h1 hx => cases hx with
    | cons h2 hx => cases hx with
      | nil => exact ⟨p, _, _, rfl, hp, h1, h2⟩
theorem sc_value_of : FnScope ["expression", "environment", "owner", "action"] ["expression", "environment", "owner"] (defScope s_value_of) := ⟨rfl, rfl, rfl, by decide +kernel, rfl, by decide +kernel, by decide +kernel⟩
theorem ok_value (T : Txt K w mg C) {k n : Nat} (hk : 1 ≤ k) (B : ∀ m, n = m + 1 → Cal P w K mg base k "binary_value" (spBin m)) : Cal P w K mg base (k + 1) "value_of" (spVal n) := by
  obtain ⟨aT, gT_ACTIONS_evaluating, ⟨f1, m1, e1⟩, ⟨f2, m2, e2⟩, ⟨f3, m3, e3⟩⟩ := T.tb_ACTIONS_evaluating
  refine cal_of T.d_value_of sc_value_of (fun vs H Q E h => ?_) (fun f cdv A outer s H vs Q E hr h => ?_)
  · obtain ⟨v, p, z, kk, x, d, r, rfl, _⟩ := h
    rfl
  · obtain ⟨v, p, z, kk, x, d, r, rfl, hd, hp, hv, q⟩ := h
    refine ⟨_, (pss_cons (ps_set (i := 3) sc_value_of.nd rfl (Or.inl rfl) (pe_ix ix_kdict (C8.pe_gc (by rfl) gT_ACTIONS_evaluating) (pe_ix ix_tup (pv 0) pe_int (fun _ _ => rfl)) (fun _ _ => rfl))) (pss_one (ps_ret (pe_callT (i := 3) hr rfl (Or.inl rfl) (pa_cons (pv 0) (pa_cons (pv 1) (pa_cons (pv 2) pa_nil))))))), ?_⟩
    cases hv with
    | name _ =>
      obtain ⟨a, y1, y2, rfl, ha, d1, d2⟩ := dq2 hd
      cases dqs d1
      cases dqs d2
      refine ⟨_, rfl, a, _, _, .str "name", rfl, rfl, SqT.of ha, at0, aT, _, .ref f2, rfl, rfl, e2, ?_⟩
      exact ⟨"name_value", 1, spGet, f2, hk, ok_name T, m2, rfl, _, rfl, _, rfl, _, rfl, a, p, _, z, _, rfl, _, _, _, ha, hp, .inr ⟨rfl, rfl⟩, q H SmM.refl⟩
    | nameK _ =>
      obtain ⟨a, y1, y2, rfl, ha, d1, d2⟩ := dq2 hd
      cases dqs d1
      cases dqs d2
      refine ⟨_, rfl, a, _, _, .str "name", rfl, rfl, SqT.of ha, at0, aT, _, .ref f2, rfl, rfl, e2, ?_⟩
      exact ⟨"name_value", 1, spGet, f2, hk, ok_name T, m2, rfl, _, rfl, _, rfl, _, rfl, a, p, _, z, _, rfl, _, _, _, ha, hp, .inl ⟨rfl, rfl⟩, q H SmM.refl⟩
    | num _ i =>
      obtain ⟨a, y1, y2, rfl, ha, d1, d2⟩ := dq2 hd
      cases dqs d1
      cases dqi d2
      refine ⟨_, rfl, a, _, _, .str "number", rfl, rfl, SqT.of ha, at0, aT, _, .ref f1, rfl, rfl, e1, ?_⟩
      exact ⟨"written_value", 1, spWrt, f1, hk, ok_written T, m1, rfl, _, rfl, _, rfl, _, rfl, a, _, _, z, _, rfl, ha, q H SmM.refl⟩
    | @bin m s a b i j _ ha hb hi hs h0 h1 =>
      obtain ⟨c, y1, y2, y3, y4, rfl, hc, d1, d2, d3, d4⟩ := dq4 hd
      cases dqs d1
      refine ⟨_, rfl, c, _, _, .str "binary", rfl, rfl, SqT.of hc, at0, aT, _, .ref f3, rfl, rfl, e3, ?_⟩
      exact ⟨"binary_value", k, spBin m, f3, Nat.le_refl _, B m rfl, m3, rfl, _, rfl, _, rfl, _, rfl, _, p, z, kk, x, s, a, b, i, j, r, rfl, hd, hp, ha, hb, hi, hs, h0, h1, q⟩
theorem sc_need_truth : FnScope ["value"] ["value"] (defScope s_need_truth) := ⟨rfl, rfl, rfl, by decide +kernel, rfl, by decide +kernel, by decide +kernel⟩
theorem sc_binary_value : FnScope ["expression", "environment", "owner", "sign", "left", "right"] ["expression", "environment", "owner"] (defScope s_binary_value) := ⟨rfl, rfl, rfl, by decide +kernel, rfl, by decide +kernel, by decide +kernel⟩
theorem ok_binary (T : Txt K w mg C) {k n : Nat} (hk : 4 ≤ k) (Gvalue_of : Cal P w K mg base k "value_of" (spVal n)) : Cal P w K mg base (k + 1) "binary_value" (spBin n) := by
  have Gsign_value : Cal P w K mg base 4 "sign_value" spSgn := ok_sign T
  have Gneed_truth : Cal P w K mg base 1 "need_truth" spFalse := cal_of T.d_need_truth sc_need_truth (fun vs H Q E h => h.elim) (fun f cdv A outer s H vs Q E hr h => h.elim)
  refine cal_of T.d_binary_value sc_binary_value (fun vs H Q E h => ?_) (fun f cdv A outer s H vs Q E hr h => ?_)
  · obtain ⟨v, p, z, kk, x, s, a, b, i, j, r, rfl, _⟩ := h
    rfl
  · obtain ⟨v, p, z, kk, x, s, a, b, i, j, r, rfl, hd, hp, ha, hb, hi, hs, h0, h1, q⟩ := h
    obtain ⟨c, y1, y2, y3, y4, rfl, hc, d1, d2, d3, d4⟩ := dq4 hd
    cases dqs d1
    cases dqs d2
    refine ⟨_, (pss_cons (ps_set (i := 3) sc_binary_value.nd rfl (Or.inl rfl) (pe_ix ix_tup (pv 0) pe_int (fun _ _ => rfl))) (pss_cons (ps_set (i := 4) sc_binary_value.nd rfl (Or.inl rfl) (pe_c Gvalue_of hr (by omega) (by rfl) (pa_cons (pe_ix ix_tup (pv 0) pe_int (fun _ _ => rfl)) (pa_cons (pv 1) (pa_cons (pv 2) pa_nil))))) (pss_cons (ps_if (PW.pt (pw_and (pt_cmpR op_in_seq (pv 3) (pe_tup (pa_cons pe_str (pa_cons pe_str pa_nil))) rfl) (pw_and1 (pt_cmpR op_eq (pe_c Gneed_truth hr (by omega) (by rfl) (pa_cons (pv 4) pa_nil)) (pe_cmpR op_eq (pv 3) pe_str (nomark _)) (nomark _))))) (pss_one ps_never) pss_nil) (pss_cons (ps_set (i := 5) sc_binary_value.nd rfl (Or.inl rfl) (pe_c Gvalue_of hr (by omega) (by rfl) (pa_cons (pe_ix ix_tup (pv 0) pe_int (fun _ _ => rfl)) (pa_cons (pv 1) (pa_cons (pv 2) pa_nil))))) (pss_cons (ps_if (pt_cmpR op_in_seq (pv 3) (pe_tup (pa_cons pe_str (pa_cons pe_str pa_nil))) rfl) (pss_one ps_never) pss_nil) (pss_one (ps_ret (pe_c Gsign_value hr (by omega) (by rfl) (pa_cons (pv 3) (pa_cons (pv 4) (pa_cons (pv 5) pa_nil))))))))))), ?_⟩
    refine ⟨_, rfl, c, _, _, .str s, rfl, rfl, SqT.of hc, at1, ?_⟩
    refine ⟨_, rfl, c, _, _, y3, rfl, rfl, SqT.of hc, at2, _, rfl, _, rfl, y3, p, z, kk, x, a, i, rfl, d3, hp, ha, fun H1 s1 => ?_⟩
    have nb : ∀ t, H1 t = none → t ≠ c := fun t ht e => by rw [e, s1 _ _ hc] at ht; exact nomatch ht
    have hin : inV (.str s) [.str "&&", .str "||"] = false := by rcases hs with ⟨rfl, _⟩ | ⟨rfl, _⟩ <;> decide +kernel
    refine ⟨_, rfl, ⟨by decide, fun t1 ht1 => ?_⟩⟩
    refine ⟨t1, _, rfl, .inr (SqT.of upd_same), rfl, rfl, ?_⟩
    rw [if_neg (by decide), hin]
    refine ⟨false, rfl, iteF (iteF ?_)⟩
    have s2 : Same H (upd H1 t1 (.tup [.str "&&", .str "||"])) := SmM.trans s1 (Sm.new ht1)
    refine ⟨_, rfl, c, _, _, y4, rfl, rfl, SqT.of (s2 _ _ hc), at3, _, rfl, _, rfl, y4, p, z, kk, x, b, j, rfl, d4.same s2, s2 _ _ hp, hb, fun H3 s3 => ?_⟩
    refine ⟨_, rfl, ⟨by decide, fun t2 ht2 => ?_⟩⟩
    refine ⟨t2, _, rfl, .inr (SqT.of upd_same), rfl, rfl, ?_⟩
    rw [if_neg (by decide), hin]
    refine ⟨false, rfl, iteF ?_⟩
    exact ⟨_, rfl, _, rfl, _, rfl, s, i, j, r, rfl, hi, hs, h0, h1, q _ (SmM.trans s2 (SmM.trans s3 (Sm.new ht2)))⟩
theorem ok_val2 (T : Txt K w mg C) : Cal P w K mg base 9 "value_of" (spVal 2) := by
  have v0 : Cal P w K mg base 5 "value_of" (spVal 0) := ok_value (k := 4) T (by decide) fun m h => nomatch h
  have b0 := ok_binary T (by decide) v0
  have v1 : Cal P w K mg base 7 "value_of" (spVal 1) := ok_value (k := 6) T (by decide) fun m h => by cases h; exact b0
  have b1 := ok_binary T (by decide) v1
  exact ok_value (k := 8) T (by decide) fun m h => by cases h; exact b1
def spEvl : Sp := fun vs H Q _ => ∃ (v : V) (p : Addr) (z : V) (x k : Int) (e : Ex), vs = [v, .ref p, z] ∧ Dq H v (encX e) ∧ H p = some (.dK (eKC k x)) ∧ 0 ≤ x ∧ x < 18446744073709551616 ∧ 0 ≤ k ∧ k ≤ 6 ∧ okE e ∧ ∀ H', Same H H' → Q (.int (exV x k e)) H'
theorem sc_evaluate : FnScope ["expression", "environment", "owner"] ["expression", "environment", "owner"] (defScope s_evaluate) := ⟨rfl, rfl, rfl, by decide +kernel, rfl, by decide +kernel, by decide +kernel⟩
theorem ok_evaluate (T : Txt K w mg C) : Cal P w K mg base 10 "evaluate" spEvl := by
  have Gcopied : Cal P w K mg base 2 "copied" spInt1 := ok_copied T
  have Gvalue_of := ok_val2 (P := P) (base := base) T
  refine cal_of T.d_evaluate sc_evaluate (fun vs H Q E h => ?_) (fun f cdv A outer s H vs Q E hr h => ?_)
  · obtain ⟨v, p, z, x, k, e, rfl, _⟩ := h
    rfl
  · obtain ⟨v, p, z, x, k, e, rfl, hd, hp, x0, x1, k0, k1, he, q⟩ := h
    refine ⟨_, (pss_one (ps_ret (pe_c Gcopied hr (by decide) (by rfl) (pa_cons (pe_c Gvalue_of hr (by decide) (by rfl) (pa_cons (pv 0) (pa_cons (pv 1) (pa_cons (pv 2) pa_nil)))) pa_nil)))), ?_⟩
    have big : (18446744073709551616 : Int) = 2 ^ 64 := by decide
    have ev : Evl k x 2 (encX e) (exV x k e) := by
      cases e with
      | num i => exact .num 2 i
      | ck => exact .bin (.name 1) (.nameK 1) (fun z => absurd z (by decide +kernel)) (.inl ⟨rfl, rfl⟩) (by simp only [exV]; omega) (by simp only [exV]; omega)
      | dbl i =>
        simp only [okE] at he
        have e1 : Evl k x 1 (.tuple [.str "binary", .str "*", .tuple [.str "name", .str "c"], .tuple [.str "number", .int 2]]) (x * 2) := .bin (.name 0) (.num 0 2) (fun _ => ⟨by omega, by omega⟩) (.inr ⟨rfl, rfl⟩) (by omega) (by omega)
        exact .bin e1 (.num 1 i) (fun z => absurd z (by decide +kernel)) (.inl ⟨rfl, rfl⟩) (by simp only [exV]; omega) (by simp only [exV]; omega)
    exact ⟨_, rfl, _, rfl, _, rfl, v, p, z, k, x, _, _, rfl, hd, hp, ev, fun H' s' => ⟨_, rfl, q H' s'⟩⟩
end
end VL

set_option Elab.async false
set_option linter.all false
set_option maxRecDepth 100000
set_option maxHeartbeats 4000000
namespace VL
open PySem PySem.Spec PyProof.Rows L2
theorem unlock_eq {H : Hp} {D d : Addr} {x y u : HO} (h : D ≠ d) (hd : H d = some u) : upd (upd (upd H d x) D y) d u = upd H D y := by
  funext b
  by_cases e : b = d
  · subst e
    rw [upd_same, upd_ne h.symm, hd]
  · rw [upd_ne e]
    by_cases e2 : b = D
    · subst e2
      rw [upd_same, upd_same]
    · rw [upd_ne e2, upd_ne e2, upd_ne e]
theorem leaf_ty {K : PySem.W.Frag} {H : Hp} {v : V} {d : PyData} (h : Dq H v d) (ht : tps d = true) (hd : PyData.depth d = 0) : ∃ t : String, TyX K H v (.type t) ∧ kitB t "tuple" = some false ∧ kitB t "list" = some false ∧ ∀ H', Dq H' v d := by
  cases h with
  | non => exact nomatch ht
  | bl b => exact nomatch ht
  | int i => exact ⟨"int", .base (.int i), by decide +kernel, by decide +kernel, fun _ => .int i⟩
  | str x => exact ⟨"str", .base (.str x), by decide +kernel, by decide +kernel, fun _ => .str x⟩
  | lst _ _ => exact nomatch ht
  | tup _ _ => exact absurd hd (by simp [PyData.depth])
  | dic _ _ _ => exact nomatch ht
section
variable {P : Program} {w : World} {K : PySem.W.Frag} {mg : Str → Option Value} {base : Heap} {C : Ad}
theorem sc_copied_names : FnScope ["environment", "name"] ["environment"] (defScope s_copied_names) := ⟨rfl, rfl, rfl, by decide +kernel, rfl, by decide +kernel, by decide +kernel⟩
theorem ok_names (T : Txt K w mg C) : Cal P w K mg base 3 "copied_names" spNam := by
  have Gcopied : Cal P w K mg base 2 "copied" spInt1 := ok_copied T
  refine cal_of T.d_copied_names sc_copied_names (fun vs H Q E h => ?_) (fun f cdv A outer s H vs Q E hr h => ?_)
  · obtain ⟨e, k, rfl, _⟩ := h
    rfl
  · obtain ⟨e, kk, rfl, he, k⟩ := h
    have hu := hu_of hr
    refine ⟨_, (pss_one (ps_ret (pe_lock (pe_dc (own := [("name", 1)]) (g := gName 1) (tt := tYes) rfl sc_copied_names.nd (pi_keys (pv 0)) (blkOk_by (N := ["environment", "name"]) (sc := (defScope s_copied_names)) (by decide +kernel)) (fun _ _ _ _ _ => pg_name (i := 1) sc_copied_names.nd rfl (Or.inl rfl)) (fun _ _ _ _ _ => pts_nil) (fun _ _ _ _ _ => (pv 1)) (fun _ _ _ _ _ => (pe_c Gcopied hr (by decide) (by rfl) (pa_cons (pe_dget hu (pv 0) (pv 1) (fun _ _ => rfl)) pa_nil))))))), ?_⟩
    refine ⟨e, _, he, trivial, fun od => ?_⟩
    have hlk : upd H e (.frz od (.dK (eK kk))) e = some (.frz od (.dK (eK kk))) := upd_same
    refine ⟨_, rfl, e, od, rfl, .inl ⟨_, hlk, fun D hD => ?_⟩⟩
    have hDe : D ≠ e := fun z => by rw [z, upd_same] at hD; cases hD
    have hDn : H D = none := by rw [upd_ne hDe] at hD; exact hD
    refine dc_itQ (walk_keys (d := e) (o := od) (kvs := eK kk)) (fun i H' => H' = upd (upd H e (.frz od (.dK (eK kk)))) D (.dK ((eK kk).take i))) rfl (fun i H' _ z => by rw [z, upd_ne hDe.symm]; exact upd_same) ?_ ?_
    · rintro i x H1 H2 hi rfl ⟨rfl, k1, v1, hkv, rfl⟩
      obtain rfl : i = 0 := by
        have : i < 1 := hi
        omega
      cases hkv
      refine ⟨rfl, ?_⟩
      have hl2 : (upd (upd H e (.frz od (.dK (eK kk)))) D (.dK [])) e = some (.frz od (.dK (eK kk))) := by rw [upd_ne hDe.symm]; exact upd_same
      refine ⟨_, rfl, _, rfl, _, rfl, e, .int kk, rfl, dget_fz (k := .inr "k") hl2, kk, rfl, ?_⟩
      refine ⟨[], .inr "k", rfl, upd_same, by show 0 < _; decide, ?_⟩
      rw [upd_upd]
      rfl
    · rintro H1 rfl
      refine ⟨by rw [upd_ne hDe.symm]; exact upd_same, ?_⟩
      rw [unlock_eq hDe he]
      exact k D hDn
theorem sc_copied_source : FnScope ["part", "inner"] ["part"] (defScope s_copied_source) := ⟨rfl, rfl, rfl, by decide +kernel, rfl, by decide +kernel, by decide +kernel⟩
theorem ok_src0 (T : Txt K w mg C) {k : Nat} (Gcopied_source : Cal P w K mg base (k + 1) "copied_source" spFalse) : Cal P w K mg base (k + 2) "copied_source" (spSrc 0) := by
  refine cal_of T.d_copied_source sc_copied_source (fun vs H Q E h => ?_) (fun f cdv A outer s H vs Q E hr h => ?_)
  · obtain ⟨v, d, rfl, _⟩ := h
    rfl
  · obtain ⟨v, d, rfl, hd, ht, hn, q⟩ := h
    refine ⟨_, (pss_cons (ps_if (pt_val (pe_callB call_isi (by rfl) T.z_isinstance (by decide +kernel) (pa_cons (pv 0) (pa_cons (pe_bltn (v := .ty "tuple") (by rfl) T.z_tuple (by decide +kernel) rfl) pa_nil)))) (pss_one (ps_ret (pe_callTy call_tuple_of (by rfl) T.z_tuple (by decide +kernel) (pa_cons (pe_lc (own := [("inner", 1)]) (g := gName 1) (tt := tYes) rfl sc_copied_source.nd (pi_tup (pv 0)) (blkOk_by (N := ["part", "inner"]) (sc := (defScope s_copied_source)) (by decide +kernel)) (fun _ _ _ _ _ => pg_name (i := 1) sc_copied_source.nd rfl (Or.inl rfl)) (fun _ _ _ _ _ => pts_nil) (fun _ _ _ _ _ => (pe_c Gcopied_source hr (Nat.le_refl _) (by rfl) (pa_cons (pv 1) pa_nil)))) pa_nil)))) pss_nil) (pss_cons (ps_if (pt_val (pe_callB call_isi (by rfl) T.z_isinstance (by decide +kernel) (pa_cons (pv 0) (pa_cons (pe_bltn (v := .ty "list") (by rfl) T.z_list (by decide +kernel) rfl) pa_nil)))) (pss_one ps_never) pss_nil) (pss_one (ps_ret (pv 0))))), ?_⟩
    obtain ⟨t, ty, k1, k2, dq⟩ := leaf_ty (K := K) hd ht (by omega)
    refine ⟨_, rfl, v, .ty "tuple", _, _, false, rfl, .ty _, ty, kit_ty k1, false, rfl, iteF ?_⟩
    refine ⟨_, rfl, v, .ty "list", _, _, false, rfl, .ty _, ty, kit_ty k2, false, rfl, iteF ?_⟩
    exact ⟨_, rfl, q v H SmM.refl (dq _)⟩
theorem ok_srcS (T : Txt K w mg C) {n : Nat} (Gcopied_source : Cal P w K mg base (n + 2) "copied_source" (spSrc n)) : Cal P w K mg base (n + 3) "copied_source" (spSrc (n + 1)) := by
  refine cal_of T.d_copied_source sc_copied_source (fun vs H Q E h => ?_) (fun f cdv A outer s H vs Q E hr h => ?_)
  · obtain ⟨v, d, rfl, _⟩ := h
    rfl
  · obtain ⟨v, d, rfl, hd, ht, hn, q⟩ := h
    have big : 100000 < sizeLine := by decide
    refine ⟨_, (pss_cons (ps_if (pt_val (pe_callB call_isi (by rfl) T.z_isinstance (by decide +kernel) (pa_cons (pv 0) (pa_cons (pe_bltn (v := .ty "tuple") (by rfl) T.z_tuple (by decide +kernel) rfl) pa_nil)))) (pss_one (ps_ret (pe_callTy call_tuple_of (by rfl) T.z_tuple (by decide +kernel) (pa_cons (pe_lc (own := [("inner", 1)]) (g := gName 1) (tt := tYes) rfl sc_copied_source.nd (pi_tup (pv 0)) (blkOk_by (N := ["part", "inner"]) (sc := (defScope s_copied_source)) (by decide +kernel)) (fun _ _ _ _ _ => pg_name (i := 1) sc_copied_source.nd rfl (Or.inl rfl)) (fun _ _ _ _ _ => pts_nil) (fun _ _ _ _ _ => (pe_c Gcopied_source hr (Nat.le_refl _) (by rfl) (pa_cons (pv 1) pa_nil)))) pa_nil)))) pss_nil) (pss_cons (ps_if (pt_val (pe_callB call_isi (by rfl) T.z_isinstance (by decide +kernel) (pa_cons (pv 0) (pa_cons (pe_bltn (v := .ty "list") (by rfl) T.z_list (by decide +kernel) rfl) pa_nil)))) (pss_one ps_never) pss_nil) (pss_one (ps_ret (pv 0))))), ?_⟩
    by_cases d0 : PyData.depth d = 0
    · obtain ⟨t, ty, k1, k2, dq⟩ := leaf_ty (K := K) hd ht d0
      refine ⟨_, rfl, v, .ty "tuple", _, _, false, rfl, .ty _, ty, kit_ty k1, false, rfl, iteF ?_⟩
      refine ⟨_, rfl, v, .ty "list", _, _, false, rfl, .ty _, ty, kit_ty k2, false, rfl, iteF ?_⟩
      exact ⟨_, rfl, q v H SmM.refl (dq _)⟩
    cases hd with
    | non => exact absurd rfl d0
    | bl b => exact absurd rfl d0
    | int i => exact absurd rfl d0
    | str x => exact absurd rfl d0
    | lst _ _ => exact nomatch ht
    | dic _ _ _ => exact nomatch ht
    | @tup a xs ds ha hds =>
      have ht' : ds.length ≤ 1000 ∧ tps.tpsAll ds = true := by simpa [tps] using ht
      have hl := hds.len
      have hn' : PyData.depthAll ds ≤ n := by simp only [PyData.depth] at hn; omega
      refine ⟨_, rfl, .ref a, .ty "tuple", _, _, true, rfl, .ty _, .base (.tup ha), kit_ty (by decide +kernel), true, rfl, iteT ?_⟩
      refine ⟨_, rfl, a, rfl, ⟨_, SqT.of ha⟩, fun D hD => ?_⟩
      refine lc_it (walk_tup (K := K) (a := a) (xs := xs)) (fun i H' => Same H H' ∧ ∃ ys : List V, H' D = some (.lst ys) ∧ DqAll (newer (upd H D (.lst [])) H') ys (ds.take i)) ⟨Sm.new hD, [], upd_same, .nil⟩ (fun i H' _ z => SqT.of (z.1 _ _ ha)) ?_ ?_
      · rintro i x H1 H2 hi ⟨s1, ys, h1, py⟩ ⟨rfl, hx⟩
        have hi' : i < ds.length := by omega
        have hdi : ds[i]? = some ds[i] := List.getElem?_eq_getElem hi'
        obtain ⟨x', hx2, dx⟩ := dqAll_at hds hdi
        have : x' = x := by rw [hx2] at hx; exact Option.some.inj hx
        subst this
        have hm : ds[i] ∈ ds := List.getElem_mem hi'
        have tk : ds.take (i + 1) = ds.take i ++ [ds[i]] := by rw [List.take_add_one, hdi]; rfl
        have hyl : ys.length < sizeLine := by
          have := py.len
          rw [List.length_take] at this
          omega
        refine ⟨rfl, ?_⟩
        refine ⟨_, rfl, x', ds[i], rfl, dx.same s1, tpsAll_mem ht'.2 _ hm, Nat.le_trans (mem_depth hm) hn', fun y H3 s3 dy => ?_⟩
        refine ⟨ys, s3 _ _ h1, hyl, fun b o eb => ?_, ys ++ [y], upd_same, ?_⟩
        · rw [upd_ne (ne_of_none eb hD)]
          exact s3 _ _ (s1 _ _ eb)
        · rw [tk]
          refine dqAll_ap (py.same fun b o hb => ?_) (.cons (dy.same fun b o hb => ?_) .nil)
          · obtain ⟨z1, z2⟩ := newer_some hb
            have ne : b ≠ D := fun z => by rw [z, upd_same] at z1; exact nomatch z1
            exact newer_mk z1 (by rw [upd_ne ne]; exact s3 _ _ z2)
          · obtain ⟨z1, z2⟩ := newer_some hb
            have ne : b ≠ D := fun z => by rw [z, h1] at z1; exact nomatch z1
            refine newer_mk ?_ (by rw [upd_ne ne]; exact z2)
            rw [upd_ne ne]
            cases e : H b with
            | none => rfl
            | some u => rw [s1 _ _ e] at z1; exact nomatch z1
      · rintro H1 ⟨s1, ys, h1, py⟩
        rw [hl, List.take_length] at py
        refine ⟨D, ys, rfl, .inl ⟨SqL.of h1, fun l hl1 => ?_⟩⟩
        refine q _ _ (SmM.trans s1 (Sm.new hl1)) (.tup (newer_mk ?_ upd_same) (py.same fun b o hb => ?_))
        · cases e : H l with
          | none => rfl
          | some u => rw [s1 _ _ e] at hl1; exact nomatch hl1
        · obtain ⟨z1, z2⟩ := newer_some hb
          have ne : b ≠ D := fun z => by rw [z, upd_same] at z1; exact nomatch z1
          rw [upd_ne ne] at z1
          exact newer_mk z1 (Sm.new hl1 _ _ z2)
theorem ok_src (T : Txt K w mg C) : ∀ n : Nat, Cal P w K mg base (n + 2) "copied_source" (spSrc n)
  | 0 => ok_src0 T (k := 0) (cal_of T.d_copied_source sc_copied_source (fun vs H Q E h => h.elim) (fun f cdv A outer s H vs Q E hr h => h.elim))
  | n + 1 => ok_srcS T (ok_src T n)
theorem sc_copied_update : FnScope ["update", "marked", "lane", "expression", "environment"] ["update"] (defScope s_copied_update) := ⟨rfl, rfl, rfl, by decide +kernel, rfl, by decide +kernel, by decide +kernel⟩
theorem ok_upd (T : Txt K w mg C) : Cal P w K mg base 6 "copied_update" spUpd := by
  have Gcopied_source := ok_src (P := P) (base := base) T 3
  have Gcopied_names : Cal P w K mg base 3 "copied_names" spNam := ok_names T
  refine cal_of T.d_copied_update sc_copied_update (fun vs H Q E h => ?_) (fun f cdv A outer s H vs Q E hr h => ?_)
  · obtain ⟨p, u, rfl, _⟩ := h
    rfl
  · obtain ⟨p, u, rfl, ⟨v, d, h1, h2, h3⟩, k⟩ := h
    refine ⟨_, (pss_cons (ps_asg (pv 0) (pg_unl rfl (pgs_cons (pg_name (i := 1) sc_copied_update.nd rfl (Or.inl rfl)) (pgs_cons (pg_name (i := 2) sc_copied_update.nd rfl (Or.inl rfl)) (pgs_cons (pg_name (i := 3) sc_copied_update.nd rfl (Or.inl rfl)) (pgs_cons (pg_name (i := 4) sc_copied_update.nd rfl (Or.inl rfl)) pgs_nil)))))) (pss_one (ps_ret (pe_lst (pa_cons (pv 1) (pa_cons (pv 2) (pa_cons (pe_c Gcopied_source hr (by decide) (by rfl) (pa_cons (pv 3) pa_nil)) (pa_cons (pe_c Gcopied_names hr (by decide) (by rfl) (pa_cons (pv 4) pa_nil)) pa_nil)))))))), ?_⟩
    refine ⟨_, rfl, p, _, rfl, SqL.of h1, rfl, ?_⟩
    refine ⟨_, _, rfl, _, _, rfl, _, _, rfl, _, _, rfl, rfl, ?_⟩
    refine ⟨_, rfl, _, rfl, _, rfl, v, encX u.e, rfl, h2, by cases u.e <;> rfl, (by cases u.e <;> simp [encX, PyData.depth, PyData.depthAll]), fun v' H1 s1 d1 => ?_⟩
    refine ⟨_, rfl, d, u.k, rfl, s1 _ _ h3, fun d' hd' => ?_⟩
    refine ⟨by show 4 ≤ sizeLine; decide, fun a ha => ?_⟩
    have n1 : H d' = none := by
      cases e : H d' with
      | none => rfl
      | some u => rw [s1 _ _ e] at hd'; exact nomatch hd'
    have s2 : Same H1 (upd (upd H1 d' (.dK (eK u.k))) a (.lst [.bl u.m, .int u.l, v', .ref d'])) := SmM.trans (Sm.new hd') (Sm.new ha)
    have n2 : H a = none := by
      cases e : H a with
      | none => rfl
      | some u => rw [Sm.new hd' _ _ (s1 _ _ e)] at ha; exact nomatch ha
    have na : d' ≠ a := fun e => by rw [← e, upd_same] at ha; exact nomatch ha
    exact k a _ (SmM.trans s1 s2) ⟨v', d', newer_mk n2 upd_same, d1.same (newer_grow s2), newer_mk n1 (by rw [upd_ne na]; exact upd_same)⟩
end
end VL

set_option Elab.async false
set_option linter.all false
set_option maxRecDepth 100000
set_option pp.maxSteps 700
set_option maxHeartbeats 4000000
namespace VL
open PySem PySem.Spec PyProof.Rows L2
abbrev fsC (b v : Int) (q : Addr) : List (Str × V) := [("name", .str "c"), ("base", .int b), ("queue", .ref q), ("value", .int v)]
theorem fsC_name (b v : Int) (q : Addr) : (fsC b v q).lookup ("name" : Str) = some (.str "c") := by rfl
theorem fsC_base (b v : Int) (q : Addr) : (fsC b v q).lookup ("base" : Str) = some (.int b) := by rfl
theorem fsC_queue (b v : Int) (q : Addr) : (fsC b v q).lookup ("queue" : Str) = some (.ref q) := by rfl
theorem fsC_value (b v : Int) (q : Addr) : (fsC b v q).lookup ("value" : Str) = some (.int v) := by rfl
theorem putC_queue (b v : Int) (q q' : Addr) : putF "queue" (.ref q') (fsC b v q) = fsC b v q' := by rfl
theorem putC_value (b v v' : Int) (q : Addr) : putF "value" (.int v') (fsC b v q) = fsC b v' q := by rfl
def ObA (CC : Addr) (H : Hp) (c : Addr) (b v : Int) (q : Addr) : Prop := ∃ dx, H c = some (.ins CC dx (fsC b v q))
def hide (q : Addr) (H : Hp) : Hp := fun x => if x = q then none else H x
theorem hide_some {q x : Addr} {H : Hp} {o : HO} (h : hide q H x = some o) : x ≠ q ∧ H x = some o := by
  unfold hide at h
  by_cases e : x = q
  · rw [if_pos e] at h; exact nomatch h
  · rw [if_neg e] at h; exact ⟨e, h⟩
theorem hide_mk {q x : Addr} {H : Hp} {o : HO} (e : x ≠ q) (h : H x = some o) : hide q H x = some o := by
  unfold hide
  rw [if_neg e]
  exact h
/-- all but q is kept -/
def Kpq (q : Addr) (H H' : Hp) : Prop := ∀ b o, H b = some o → b ≠ q → H' b = some o
def spInit (CC : Addr) : Sp := fun vs H Q _ => ∃ (x dx : Addr) (b : Int), vs = [.ref x, .str "c", .int b] ∧ H x = some (.ins CC dx []) ∧ ∀ q H', H q = none → H' x = some (.ins CC dx (fsC b b q)) → H' q = some (.lst []) → Kpq x H H' → Q .non H'
def spPres (CC : Addr) : Sp := fun vs H Q _ => ∃ (c : Addr) (b v : Int) (q : Addr), vs = [.ref c] ∧ ObA CC H c b v q ∧ Q (.int v) H
def spOpen (CC : Addr) : Sp := fun vs H Q _ => ∃ (c : Addr) (b v : Int) (q : Addr) (ps : List Addr) (us : List Up), vs = [.ref c] ∧ ObA CC H c b v q ∧ H q = some (.lst (ps.map V.ref)) ∧ Paired (UpA H) ps us ∧ (∀ u ∈ us, OkU u) ∧ us.length ≤ 60 ∧ ∀ p H', Same H H' → H' p = some (.lst ((openL us).map V.int)) → Q (.ref p) H'
def RC (CC : Addr) : Addr → Addr → Hp → Prop := fun a b H => ∃ i v q r ps ps' us, ObA CC H a i v q ∧ ObA CC H b i v r ∧ H q = some (.lst (ps.map V.ref)) ∧ H r = some (.lst (ps'.map V.ref)) ∧ Paired (UpA H) ps us ∧ Paired (UpA H) ps' us
def spSend (CC : Addr) : Sp := fun vs H Q _ => ∃ (c : Addr) (b v : Int) (q : Addr) (ps : List Addr) (l : Int) (x : V) (d : Addr) (e : Ex) (k : Int) (G : Hp) (M : List (Addr × HO)), vs = [.ref c, .int l, x, .ref d] ∧ Sb G H ((q, .lst (ps.map V.ref)) :: M) ∧ ObA CC G c b v q ∧ ps.length ≤ 50 ∧ Dq H x (encX e) ∧ H d = some (.dK (eK k)) ∧
  (ps.length < 50 → ∀ p G' H', Sb G' H' ((q, .lst ((ps ++ [p]).map V.ref)) :: M) → Same G G' → UpA G' p ⟨false, l, e, k⟩ → Q (.bl true) H') ∧ (ps.length = 50 → Q (.bl false) H)
def spCopied (CC : Addr) : Sp := fun vs H Q _ => ∃ (c : Addr) (b v : Int) (q : Addr) (ps : List Addr) (us : List Up) (G : Hp) (M : List (Addr × HO)), vs = [.ref c] ∧ Sb G H ((q, .lst (ps.map V.ref)) :: M) ∧ ObA CC G c b v q ∧ Paired (UpA G) ps us ∧ us.length ≤ 60 ∧
  ∀ c' q' ps' G' H', Sb G' H' ((q', .lst (ps'.map V.ref)) :: (q, .lst (ps.map V.ref)) :: M) → Same G G' → ObA CC G' c' b v q' → Paired (UpA G') ps' us → Q (.ref c') H'
theorem ObA.same {CC : Addr} {H H' : Hp} {c : Addr} {b v : Int} {q : Addr} (h : ObA CC H c b v q) (s : Same H H') : ObA CC H' c b v q := by
  obtain ⟨dx, e⟩ := h
  exact ⟨dx, s _ _ e⟩
theorem paired_ln {α β : Type} {G : α → β → Prop} : ∀ {l₁ : List α} {l₂ : List β}, Paired G l₁ l₂ → l₁.length = l₂.length
  | _, _, .nil => rfl
  | _, _, .cons _ t => by simp [paired_ln t]
theorem paired_at {α β : Type} {G : α → β → Prop} : ∀ {l₁ : List α} {l₂ : List β}, Paired G l₁ l₂ → ∀ (i : Nat) (h1 : i < l₁.length) (h2 : i < l₂.length), G l₁[i] l₂[i]
  | _, _, .cons x t, 0, _, _ => x
  | _, _, .cons x t, i + 1, h1, h2 => paired_at t i (Nat.lt_of_succ_lt_succ h1) (Nat.lt_of_succ_lt_succ h2)
theorem paired_same {H H' : Hp} (s : Same H H') : ∀ {l₁ : List Addr} {l₂ : List Up}, Paired (UpA H) l₁ l₂ → Paired (UpA H') l₁ l₂
  | _, _, .nil => .nil
  | _, _, .cons x t => .cons (x.same s) (paired_same s t)
theorem paired_snc {G : Addr → Up → Prop} {a : Addr} {u : Up} (h : G a u) : ∀ {l₁ : List Addr} {l₂ : List Up}, Paired G l₁ l₂ → Paired G (l₁ ++ [a]) (l₂ ++ [u])
  | _, _, .nil => .cons h .nil
  | _, _, .cons x t => .cons x (paired_snc h t)
/-- the i-th of both -/
theorem paired_get {H : Hp} {ps : List Addr} {us : List Up} (h : Paired (UpA H) ps us) {i : Nat} {x : V} (hx : (ps.map V.ref)[i]? = some x) : ∃ p u, x = .ref p ∧ us[i]? = some u ∧ UpA H p u := by
  rw [List.getElem?_map] at hx
  have hl := paired_ln h
  cases hp : ps[i]? with
  | none => rw [hp] at hx; exact nomatch hx
  | some p =>
    rw [hp] at hx
    cases hx
    have hi := (List.getElem?_eq_some_iff.mp hp).1
    have hi2 : i < us.length := by omega
    refine ⟨p, us[i], rfl, List.getElem?_eq_getElem hi2, ?_⟩
    have := paired_at h i hi hi2
    rwa [(List.getElem?_eq_some_iff.mp hp).2] at this
theorem UpA.dq {H : Hp} {p : Addr} {u : Up} (h : UpA H p u) : Dq H (.ref p) (.list [.bool u.m, .int u.l, encX u.e, .dict [(.str "k", .int u.k)]]) := by
  obtain ⟨v, d, h1, h2, h3⟩ := h
  exact .lst h1 (.cons (.bl _) (.cons (.int _) (.cons h2 (.cons (.dic (ks := eK u.k) (ds := [.int u.k]) h3 (by simp) (.cons (.int _) .nil)) .nil))))
theorem inv_ints {i : Int} : ∀ {ls : List Int}, inV (.int i) (ls.map V.int) = ls.contains i
  | [] => rfl
  | l :: ls => by
    have ih := inv_ints (i := i) (ls := ls)
    show ((l == i) || inV (.int i) (ls.map V.int)) = _
    rw [ih, List.contains_cons]
    have e : (l == i) = (i == l) := by
      by_cases e : l = i
      · subst e; rfl
      · have e' : ¬ i = l := fun z => e z.symm
        rw [beq_eq_false_iff_ne.mpr e, beq_eq_false_iff_ne.mpr e']
    rw [e]
section
variable {P : Program} {w : World} {K : PySem.W.Frag} {mg : Str → Option Value} {base : Heap} {C : Ad}
theorem sc_Cell___init__ : FnScope ["self", "name", "value"] ["self", "name", "value"] (defScope s_Cell___init__) := ⟨rfl, rfl, rfl, by decide +kernel, rfl, by decide +kernel, by decide +kernel⟩
theorem ok_init (T : Txt K w mg C) : Mak P w K mg base 2 "Cell" C.Cell (spInit C.Cell) := by
  have Gcopy_of : Cal P w K mg base 1 "copy_of" spInt1 := ok_copy T
  refine mak_of T.i_Cell sc_Cell___init__ (fun vs H Q E h => ?_) (fun f cdv A outer s H vs Q E hr h => ?_)
  · obtain ⟨x, dx, b, rfl, _⟩ := h
    rfl
  · obtain ⟨x, dx, b, rfl, hx, k⟩ := h
    refine ⟨_, (pss_cons (ps_fld (pv 0) (pv 1) rfl) (pss_cons (ps_fld (pv 0) (pe_c Gcopy_of hr (by decide) (by rfl) (pa_cons (pv 2) pa_nil)) rfl) (pss_cons (ps_fld (pv 0) (pe_lst pa_nil) rfl) (pss_one (ps_fld (pv 0) (pe_c Gcopy_of hr (by decide) (by rfl) (pa_cons (pv 2) pa_nil)) rfl))))), ?_⟩
    refine ⟨_, rfl, _, rfl, x, _, dx, [], rfl, hx, T.cl_Cell, T.n_Cell_name, (by show 0 < 1000; decide), ?_⟩
    refine ⟨_, rfl, b, rfl, _, rfl, x, _, dx, _, rfl, upd_same, T.cl_Cell, T.n_Cell_base, (by show 1 < 1000; decide), ?_⟩
    rw [upd_upd]
    refine ⟨by show 0 ≤ sizeLine; decide, fun q hq => ?_⟩
    have nx : q ≠ x := fun e => by rw [e, upd_same] at hq; exact nomatch hq
    have hq0 : H q = none := by rw [upd_ne nx] at hq; exact hq
    refine ⟨_, rfl, x, _, dx, _, rfl, (by rw [upd_ne nx.symm]; exact upd_same), T.cl_Cell, T.n_Cell_queue, (by show 2 < 1000; decide), ?_⟩
    refine ⟨_, rfl, b, rfl, _, rfl, x, _, dx, _, rfl, upd_same, T.cl_Cell, T.n_Cell_value, (by show 3 < 1000; decide), ?_⟩
    rw [upd_upd]
    refine k q _ hq0 upd_same (by rw [upd_ne nx]; exact upd_same) fun a o e n => ?_
    rw [upd_ne n, upd_ne (ne_of_none e hq0), upd_ne n]
    exact e
theorem sc_Cell_present : FnScope ["self"] ["self"] (defScope s_Cell_present) := ⟨rfl, rfl, rfl, by decide +kernel, rfl, by decide +kernel, by decide +kernel⟩
theorem ok_present (T : Txt K w mg C) : Pro P w K mg base 2 C.Cell "present" (spPres C.Cell) := by
  have Gcopy_of : Cal P w K mg base 1 "copy_of" spInt1 := ok_copy T
  refine pro_of T.p_Cell_present T.cl_Cell sc_Cell_present (fun vs H Q E h => ?_) (fun f cdv A outer s H vs Q E hr h => ?_)
  · obtain ⟨c, b, v, q, rfl, _⟩ := h
    rfl
  · obtain ⟨c, b, v, q, rfl, ⟨dx, hc⟩, k⟩ := h
    refine ⟨_, (pss_one (ps_ret (pe_c Gcopy_of hr (by decide) (by rfl) (pa_cons (pe_fld (pv 0) rfl) pa_nil)))), ?_⟩
    exact ⟨_, rfl, c, _, dx, _, _, rfl, hc, T.cl_Cell, T.n_Cell_value, fsC_value b v q, v, rfl, k⟩
theorem sc_same_records : FnScope ["a", "b", "name"] ["a", "b"] (defScope s_same_records) := ⟨rfl, rfl, rfl, by decide +kernel, rfl, by decide +kernel, by decide +kernel⟩
def spSr : Sp := fun vs H Q _ => ∃ (p q : Addr) (k : Int), vs = [.ref p, .ref q] ∧ H p = some (.dK (eK k)) ∧ H q = some (.dK (eK k)) ∧ Q (.bl true) H
theorem ok_sr (T : Txt K w mg C) : Cal P w K mg base 2 "same_records" spSr := by
  have Gsame : Cal P w K mg base 1 "same" spSame := ok_same T
  refine cal_of T.d_same_records sc_same_records (fun vs H Q E h => ?_) (fun f cdv A outer s H vs Q E hr h => ?_)
  · obtain ⟨p, q, k, rfl, _⟩ := h
    rfl
  · obtain ⟨p, q, kk, rfl, hp, hq, k⟩ := h
    have hu := hu_of hr
    refine ⟨_, (pss_cons (ps_if (pt_cmpR op_ne (pe_callB call_lenD (by rfl) T.z_len PySem.boot_len (pa_cons (pv 0) pa_nil)) (pe_callB call_lenD (by rfl) T.z_len PySem.boot_len (pa_cons (pv 1) pa_nil)) (nomark _)) (pss_one ps_never) pss_nil) (pss_cons (ps_lock (ps_for PassesOwn.never rfl (pi_keys (pv 0)) (pg_name (i := 2) sc_same_records.nd rfl (Or.inl rfl)) (pss_one (ps_if (PW.pt (pw_or (pt_cmp (pc_dnotin hu (pv 2) (pv 1))) (pw_or1 (pt_not (pt_val (pe_c Gsame hr (by decide) (by rfl) (pa_cons (pe_dget hu (pv 0) (pv 2) (fun _ _ => rfl)) (pa_cons (pe_dget hu (pv 1) (pv 2) (fun _ _ => rfl)) pa_nil)))))))) (pss_one ps_never) pss_nil)))) (pss_one (ps_ret pe_bl)))), ?_⟩
    refine ⟨_, rfl, p, _, rfl, hp, _, rfl, q, _, rfl, hq, rfl, _, rfl, ite2 (fun c => absurd c (by simp)) (fun _ => ?_)⟩
    refine ⟨p, _, hp, trivial, fun od => ?_⟩
    have hlk : upd H p (.frz od (.dK (eK kk))) p = some (.frz od (.dK (eK kk))) := upd_same
    have dq : DGet (upd H p (.frz od (.dK (eK kk)))) q (.str "k") (some (.int kk)) := by
      by_cases z : q = p
      · subst z
        exact dget_fz (k := .inr "k") hlk
      · have hq2 : upd H p (.frz od (.dK (eK kk))) q = some (.dK (eK kk)) := by rw [upd_ne z]; exact hq
        exact DGet.k (k := .inr "k") hq2
    refine ⟨_, rfl, p, od, rfl, .inl ⟨_, hlk, ?_⟩⟩
    refine for_it (walk_keys (d := p) (o := od) (kvs := eK kk)) (fun i σ H' => H' = upd H p (.frz od (.dK (eK kk))) ∧ ∃ y2, σ = [some (.ref p), some (.ref q), y2]) ⟨rfl, _, rfl⟩ (fun i σ H' _ z => by rw [z.1]; exact hlk) ?_ ?_
    · rintro i x σ H1 H2 hi ⟨rfl, y2, rfl⟩ ⟨rfl, k1, v1, hkv, rfl⟩
      obtain rfl : i = 0 := by
        have : i < 1 := hi
        omega
      cases hkv
      refine ⟨_, rfl, _, rfl, q, _, rfl, dq, _, rfl, iteF ?_⟩
      refine ⟨_, rfl, _, rfl, p, .int kk, rfl, dget_fz (k := .inr "k") hlk, _, rfl, _, rfl, q, .int kk, rfl, dq, kk, rfl, true, rfl, iteF ?_⟩
      exact ⟨rfl, _, rfl⟩
    · rintro σ H1 ⟨rfl, y2, rfl⟩
      refine ⟨hlk, ?_⟩
      rw [upd_upd, upd_id hp]
      exact k
def spSq : Sp := fun vs H Q _ => ∃ (p q : Addr) (ps ps' : List Addr) (us : List Up), vs = [.ref p, .ref q] ∧ H p = some (.lst (ps.map V.ref)) ∧ H q = some (.lst (ps'.map V.ref)) ∧ Paired (UpA H) ps us ∧ Paired (UpA H) ps' us ∧ ∀ H', Same H H' → Q (.bl true) H'
theorem sc_same_queues : FnScope ["a", "b", "left", "right"] ["a", "b"] (defScope s_same_queues) := ⟨rfl, rfl, rfl, by decide +kernel, rfl, by decide +kernel, by decide +kernel⟩
theorem ok_sq (T : Txt K w mg C) : Cal P w K mg base 3 "same_queues" spSq := by
  have Gsame_records : Cal P w K mg base 2 "same_records" spSr := ok_sr T
  refine cal_of T.d_same_queues sc_same_queues (fun vs H Q E h => ?_) (fun f cdv A outer s H vs Q E hr h => ?_)
  · obtain ⟨p, q, ps, ps', us, rfl, _⟩ := h
    rfl
  · obtain ⟨p, q, ps, ps', us, rfl, hp, hq, pu, pu', k⟩ := h
    have l1 := paired_ln pu
    have l2 := paired_ln pu'
    refine ⟨_, (pss_cons (ps_if (pt_cmpR op_ne (pe_callB call_len_seq (by rfl) T.z_len PySem.boot_len (pa_cons (pv 0) pa_nil)) (pe_callB call_len_seq (by rfl) T.z_len PySem.boot_len (pa_cons (pv 1) pa_nil)) (nomark _)) (pss_one ps_never) pss_nil) (pss_cons (ps_for PassesOwn.never rfl (pi_zip (by rfl) T.z_zip (pa_cons (pv 0) (pa_cons (pv 1) pa_nil))) (pg_tup rfl (pgs_cons (pg_name (i := 2) sc_same_queues.nd rfl (Or.inl rfl)) (pgs_cons (pg_name (i := 3) sc_same_queues.nd rfl (Or.inl rfl)) pgs_nil))) (pss_one (ps_if (PW.pt (pw_or (pt_cmpR (op_neP hr.units) (pe_slice sl_list (pv 2) po_none (po_some pe_int)) (pe_slice sl_list (pv 3) po_none (po_some pe_int)) (nomark _)) (pw_or1 (pt_not (pt_val (pe_c Gsame_records hr (by decide) (by rfl) (pa_cons (pe_ix ix_list (pv 2) pe_int (fun _ _ => rfl)) (pa_cons (pe_ix ix_list (pv 3) pe_int (fun _ _ => rfl)) pa_nil)))))))) (pss_one ps_never) pss_nil))) (pss_one (ps_ret pe_bl)))), ?_⟩
    refine ⟨_, rfl, p, _, rfl, .inl (SqL.of hp), _, rfl, q, _, rfl, .inl (SqL.of hq), rfl, ?_⟩
    refine ⟨_, rfl, ite2 (fun c => absurd c (by simp [l1, l2])) (fun _ => ?_)⟩
    refine ⟨_, rfl, _, rfl, p, q, _, _, rfl, SqL.of hp, SqL.of hq, ?_⟩
    refine RZ.for_zipL (K := K) (by simp [l1, l2]) (fun _ σ H' => Same H H' ∧ ∃ y2 y3, σ = [some (.ref p), some (.ref q), y2, y3]) ⟨SmM.refl, _, _, rfl⟩ (fun i σ H' e => ⟨SqL.of (e.1 _ _ hp), SqL.of (e.1 _ _ hq)⟩) ?_ ?_
    · rintro i x y t σ H' hx hy ⟨s1, y2, y3, rfl⟩ ht
      obtain ⟨a, u, rfl, hu1, ua⟩ := paired_get pu hx
      obtain ⟨b, u', rfl, hu2, ub⟩ := paired_get pu' hy
      rw [hu1] at hu2
      cases hu2
      have st := Sm.new (o := .tup [.ref a, .ref b]) ht
      have ua1 := (ua.same s1).same st
      have ub1 := (ub.same s1).same st
      have s2 := SmM.trans s1 st
      refine ⟨t, _, rfl, SqT.of upd_same, rfl, ?_⟩
      generalize upd H' t (.tup [.ref a, .ref b]) = H2 at s2 ua1 ub1 ⊢
      obtain ⟨v1, d1, e1, e2, e3⟩ := ua1
      obtain ⟨v2, d2, f1, f2, f3⟩ := ub1
      have pl : PyData.plain (.list [.bool u.m, .int u.l, encX u.e]) = true := by cases u.e <;> rfl
      have dpl : PyData.depth (.list [.bool u.m, .int u.l, encX u.e]) ≤ 60 := by cases u.e <;> simp [encX, PyData.depth, PyData.depthAll]
      refine ⟨_, _, rfl, _, _, rfl, rfl, ?_⟩
      refine ⟨_, rfl, _, rfl, a, _, rfl, SqL.of e1, fun t1 ht1 => ?_⟩
      have s3 := Sm.new (o := .lst (cutV [.bl u.m, .int u.l, v1, .ref d1] none (some 3))) ht1
      have q1 : Dq (upd H2 t1 (.lst (cutV [.bl u.m, .int u.l, v1, .ref d1] none (some 3)))) (.ref t1) (.list [.bool u.m, .int u.l, encX u.e]) := .lst upd_same (.cons (.bl _) (.cons (.int _) (.cons (e2.same s3) .nil)))
      generalize upd H2 t1 _ = H3 at s3 q1 ⊢
      refine ⟨_, rfl, _, rfl, b, _, rfl, SqL.of (s3 _ _ f1), fun t2 ht2 => ?_⟩
      have s4 := Sm.new (o := .lst (cutV [.bl u.m, .int u.l, v2, .ref d2] none (some 3))) ht2
      have q2 : Dq (upd H3 t2 (.lst (cutV [.bl u.m, .int u.l, v2, .ref d2] none (some 3)))) (.ref t2) (.list [.bool u.m, .int u.l, encX u.e]) := .lst upd_same (.cons (.bl _) (.cons (.int _) (.cons ((f2.same s3).same s4) .nil)))
      generalize upd H3 t2 _ = H4 at s4 q2 ⊢
      refine ⟨_, _, (q1.same s4).dp pl, q2.dp pl, pl, pl, dpl, _, rfl, ite2 (fun c => absurd c (by rw [PySem.SeqAt.eqv_refl_plain _ pl]; simp)) (fun _ => ?_)⟩
      refine ⟨_, rfl, a, _, 3, _, rfl, rfl, SqL.of (s4 _ _ (s3 _ _ e1)), at3, _, rfl, b, _, 3, _, rfl, rfl, SqL.of (s4 _ _ (s3 _ _ f1)), at3, d1, d2, u.k, rfl, s4 _ _ (s3 _ _ e3), s4 _ _ (s3 _ _ f3), true, rfl, iteF ?_⟩
      exact ⟨SmM.trans s2 (SmM.trans s3 s4), _, _, rfl⟩
    · rintro σ H' ⟨s1, y2, y3, rfl⟩
      exact k _ s1
end
end VL

set_option Elab.async false
set_option linter.all false
set_option pp.maxSteps 700
set_option maxRecDepth 100000
set_option maxHeartbeats 4000000
namespace VL
open PySem PySem.Spec PyProof.Rows L2
/-! ### lanes as keys -/
abbrev lk (ls : List Int) : List (Key × V) := ls.map fun l => ((Sum.inl l : Key), V.bl true)
def addL (ls : List Int) (l : Int) : List Int := if l ∈ ls then ls else ls ++ [l]
theorem lk_put (ls : List Int) (l : Int) : putK (lk ls) (.inl l) (.bl true) = lk (addL ls l) := by
  unfold addL putK
  by_cases h : l ∈ ls
  · have h1 : ((lk ls).any fun kv => decide (kv.1 = .inl l)) = true := by
      rw [List.any_eq_true]
      exact ⟨(.inl l, .bl true), List.mem_map.mpr ⟨l, h, rfl⟩, by simp⟩
    rw [if_pos h1, if_pos h, List.map_map]
    refine List.map_congr_left fun a _ => ?_
    by_cases e : a = l
    · simp [e]
    · simp [e]
  · have h1 : ¬ ((lk ls).any fun kv => decide (kv.1 = .inl l)) = true := by
      rw [List.any_eq_true]
      rintro ⟨p, hp, e⟩
      obtain ⟨a, ha, rfl⟩ := List.mem_map.mp hp
      have e : a = l := by simpa using e
      exact h (by rw [← e]; exact ha)
    rw [if_neg h1, if_neg h]
    simp
structure Lns (us : List Up) (ls : List Int) : Prop where
  nd : ls.Nodup
  m : ∀ l, l ∈ ls ↔ ∃ u ∈ us, u.m = false ∧ u.l = l
  n : ls.length ≤ us.length
theorem Lns.step {us : List Up} {ls : List Int} {u : Up} (h : Lns us ls) : Lns (us ++ [u]) (if u.m then ls else addL ls u.l) := by
  cases hm : u.m with
  | true =>
    refine ⟨h.nd, fun l => ?_, by have := h.n; simp; omega⟩
    rw [if_pos rfl, h.m l]
    constructor
    · rintro ⟨x, hx, a⟩
      exact ⟨x, List.mem_append_left _ hx, a⟩
    · rintro ⟨x, hx, a⟩
      rcases List.mem_append.mp hx with hx | hx
      · exact ⟨x, hx, a⟩
      · rw [List.mem_singleton.mp hx, hm] at a
        exact nomatch a.1
  | false =>
    rw [if_neg (by simp)]
    unfold addL
    by_cases c : u.l ∈ ls
    · rw [if_pos c]
      refine ⟨h.nd, fun l => ?_, by have := h.n; simp; omega⟩
      rw [h.m l]
      constructor
      · rintro ⟨x, hx, a⟩
        exact ⟨x, List.mem_append_left _ hx, a⟩
      · rintro ⟨x, hx, a⟩
        rcases List.mem_append.mp hx with hx | hx
        · exact ⟨x, hx, a⟩
        · rw [List.mem_singleton.mp hx] at a
          rw [← a.2]
          exact (h.m _).mp c
    · rw [if_neg c]
      refine ⟨?_, fun l => ?_, by have := h.n; simp; omega⟩
      · rw [List.nodup_append]
        refine ⟨h.nd, by simp, fun a ha b hb e => ?_⟩
        rw [List.mem_singleton.mp hb] at e
        exact c (by rw [← e]; exact ha)
      · rw [List.mem_append, h.m l, List.mem_singleton]
        constructor
        · rintro (⟨x, hx, a⟩ | e)
          · exact ⟨x, List.mem_append_left _ hx, a⟩
          · exact ⟨u, List.mem_append_right _ (by simp), hm, e.symm⟩
        · rintro ⟨x, hx, a⟩
          rcases List.mem_append.mp hx with hx | hx
          · exact .inl ⟨x, hx, a⟩
          · rw [List.mem_singleton.mp hx] at a
            exact .inr a.2.symm
theorem lns_open {us : List Up} {ls ns : List Int} (h : Lns us ls) (ok : ∀ u ∈ us, OkU u) (hp : ns.Perm ls) (hs : ns.Pairwise (· ≤ ·)) : ns = openL us := by
  have nd : ns.Nodup := hp.nodup_iff.mpr h.nd
  refine lt_unique ?_ (open_sorted us) fun x => ?_
  · exact (List.Pairwise.and hs nd).imp fun ⟨a, b⟩ => by omega
  · rw [hp.mem_iff, h.m x, open_mem ok]
theorem not_new {H H1 : Hp} {b : Addr} (s : Same H H1) (h : H1 b = none) : H b = none := by
  cases e : H b with
  | none => rfl
  | some u => rw [s _ _ e] at h; exact nomatch h
theorem Sb.mod {G H H' : Hp} {M : List (Addr × HO)} {x : Addr} {o u : HO} (S : Sb G H ((x, o) :: M)) (kp : Kpq x H H') (hx : H' x = some u) : Sb G H' ((x, u) :: M) := by
  have nd := S.nd
  have gx := (S.m (x, o) List.mem_cons_self).1
  refine ⟨fun b v e => kp _ _ (S.s _ _ e) (ne_of_none e gx), fun p hp => ?_, nd⟩
  rcases List.mem_cons.mp hp with rfl | hp
  · exact ⟨gx, hx⟩
  · obtain ⟨h1, h2⟩ := S.m p (List.mem_cons_of_mem _ hp)
    rw [List.map_cons, List.nodup_cons] at nd
    exact ⟨h1, kp _ _ h2 fun e => nd.1 (List.mem_map.mpr ⟨p, hp, e⟩)⟩
section
variable {P : Program} {w : World} {K : PySem.W.Frag} {mg : Str → Option Value} {base : Heap} {C : Ad}
theorem sc_Cell_open_lanes : FnScope ["self", "update"] ["self"] (defScope s_Cell_open_lanes) := ⟨rfl, rfl, rfl, by decide +kernel, rfl, by decide +kernel, by decide +kernel⟩
theorem ok_open (T : Txt K w mg C) : Pro P w K mg base 1 C.Cell "open_lanes" (spOpen C.Cell) := by
  refine pro_of T.p_Cell_open_lanes T.cl_Cell sc_Cell_open_lanes (fun vs H Q E h => ?_) (fun f cdv A outer s H vs Q E hr h => ?_)
  · obtain ⟨c, b, v, q, ps, us, rfl, _⟩ := h
    rfl
  · obtain ⟨c, b, v, q, ps, us, rfl, ⟨dx, hc⟩, hq, pu, ok, ul, k⟩ := h
    have hu := hu_of hr
    have big : 100000 < sizeLine := by decide
    have pl := paired_ln pu
    refine ⟨_, (pss_one (ps_ret (pe_callB cr_sortedI (by rfl) T.z_sorted (by decide +kernel) (pa_cons (pe_callTy (call_listD rfl) (by rfl) T.z_list (by decide +kernel) (pa_cons (pe_dc (own := [("update", 1)]) (g := gName 1) (tt := _) rfl sc_Cell_open_lanes.nd (pi_list (pe_fld (pv 0) rfl)) (blkOk_by (N := ["self", "update"]) (sc := (defScope s_Cell_open_lanes)) (by decide +kernel)) (fun _ _ _ _ _ => pg_name (i := 1) sc_Cell_open_lanes.nd rfl (Or.inl rfl)) (fun _ _ _ _ _ => pts_one (pt_not (pt_val (pe_ix (ix_listS (K := K) rfl) (pv 1) pe_int (fun _ _ => rfl))))) (fun _ _ _ _ _ => (pe_ix (ix_listS (K := K) rfl) (pv 1) pe_int (fun _ _ => rfl))) (fun _ _ _ _ _ => pe_bl)) pa_nil)) pa_nil)))), ?_⟩
    refine ⟨_, rfl, c, _, dx, _, _, rfl, hc, T.cl_Cell, T.n_Cell_queue, fsC_queue b v q, q, rfl, ⟨_, SqL.of hq⟩, fun D hD => ?_⟩
    refine dc_itQ (walk_list (K := K) (a := q) (xs := ps.map V.ref)) (fun i H' => Same H H' ∧ ∃ ls, H' D = some (.dK (lk ls)) ∧ Lns (us.take i) ls) ⟨Sm.new hD, [], upd_same, .nil, by simp, Nat.zero_le _⟩ (fun i H' _ z => SqL.of (z.1 _ _ hq)) ?_ ?_
    · rintro i x H1 H2 hi ⟨s1, ls, hD1, L⟩ ⟨rfl, hx⟩
      obtain ⟨p, u, rfl, hui, ua⟩ := paired_get pu hx
      obtain ⟨v1, d1, e1, e2, e3⟩ := ua.same s1
      have tk : us.take (i + 1) = us.take i ++ [u] := by rw [List.take_add_one, hui]; rfl
      have Ln := L.step (u := u)
      rw [← tk] at Ln
      have ln := L.n
      rw [List.length_take] at ln
      refine ⟨rfl, ?_⟩
      refine ⟨_, rfl, p, _, 0, _, rfl, rfl, SqL.of e1, at0, u.m, rfl, ?_⟩
      cases hm : u.m with
      | true =>
        rw [hm] at Ln
        exact iteF ⟨s1, ls, hD1, Ln⟩
      | false =>
        rw [hm] at Ln
        refine iteT ⟨_, rfl, p, _, 1, _, rfl, rfl, SqL.of e1, at1, lk ls, .inl u.l, rfl, hD1, by rw [List.length_map]; rw [List.length_map] at hi; omega, fun b o eb => ?_, addL ls u.l, ?_, Ln⟩
        · rw [upd_ne (ne_of_none eb hD)]
          exact s1 _ _ eb
        · rw [upd_same, lk_put]
    · rintro H1 ⟨s1, ls, hD1, L⟩
      rw [List.length_map, pl, List.take_length] at L
      have ln := L.n
      refine ⟨D, _, rfl, .inl hD1, fun p hp => ?_⟩
      refine ⟨p, ls, rfl, ?_, fun ns' p2 hperm hsort hp2 => ?_⟩
      · have e : (lk ls).map (fun kv => kV kv.1) = ls.map V.int := by simp [kV]
        rw [e]
        exact SqL.of upd_same
      · have e := lns_open L ok hperm hsort
        subst e
        exact k p2 _ (SmM.trans s1 (SmM.trans (Sm.new hp) (Sm.new hp2))) upd_same
theorem sc_Cell___eq__ : FnScope ["self", "other"] ["self", "other"] (defScope s_Cell___eq__) := ⟨rfl, rfl, rfl, by decide +kernel, rfl, by decide +kernel, by decide +kernel⟩
theorem ok_eq (T : Txt K w mg C) : Met P w K mg base 4 C.Cell "__eq__" (spEq (RC C.Cell)) := by
  have Gsame : Cal P w K mg base 1 "same" spSame := ok_same T
  have Gsame_queues : Cal P w K mg base 3 "same_queues" spSq := ok_sq T
  refine met_of T.m_Cell___eq__ T.cl_Cell sc_Cell___eq__ (fun vs H Q E h => ?_) (fun f cdv A outer s H vs Q E hr h => ?_)
  · obtain ⟨a, b, rfl, _⟩ := h
    rfl
  · obtain ⟨a, b, rfl, ⟨i, v, q, r, ps, ps', us, ⟨dx, ha⟩, ⟨dy, hb⟩, hq, hr', pu, pu'⟩, k⟩ := h
    refine ⟨_, (pss_cons (ps_if (pt_not (pt_val (pe_callB (C8.call_isC T.ic_Cell) (by rfl) T.z_isinstance (by decide +kernel) (pa_cons (pv 1) (pa_cons (C8.pe_gc (by rfl) T.g_Cell) pa_nil))))) (pss_one ps_never) pss_nil) (pss_cons (ps_if (PW.pt (pw_or (pt_cmpR op_ne (pe_fld (pv 0) rfl) (pe_fld (pv 1) rfl) (nomark _)) (pw_or (pt_not (pt_val (pe_c Gsame hr (by decide) (by rfl) (pa_cons (pe_fld (pv 0) rfl) (pa_cons (pe_fld (pv 1) rfl) pa_nil))))) (pw_or1 (pt_not (pt_val (pe_c Gsame hr (by decide) (by rfl) (pa_cons (pe_fld (pv 0) rfl) (pa_cons (pe_fld (pv 1) rfl) pa_nil))))))))) (pss_one ps_never) pss_nil) (pss_one (ps_ret (pe_c Gsame_queues hr (by decide) (by rfl) (pa_cons (pe_fld (pv 0) rfl) (pa_cons (pe_fld (pv 1) rfl) pa_nil))))))), ?_⟩
    refine ⟨_, rfl, b, dy, _, rfl, hb, true, rfl, iteF ?_⟩
    refine ⟨_, rfl, a, _, dx, _, _, rfl, ha, T.cl_Cell, T.n_Cell_name, fsC_name i v q, _, rfl, b, _, dy, _, _, rfl, hb, T.cl_Cell, T.n_Cell_name, fsC_name i v r, rfl, ?_⟩
    have e1 : (!decide (V.str "c" = V.str "c")) = false := by simp
    rw [e1]
    refine ⟨_, rfl, iteF ?_⟩
    refine ⟨_, rfl, a, _, dx, _, _, rfl, ha, T.cl_Cell, T.n_Cell_base, fsC_base i v q, _, rfl, b, _, dy, _, _, rfl, hb, T.cl_Cell, T.n_Cell_base, fsC_base i v r, i, rfl, true, rfl, iteF ?_⟩
    refine ⟨_, rfl, a, _, dx, _, _, rfl, ha, T.cl_Cell, T.n_Cell_value, fsC_value i v q, _, rfl, b, _, dy, _, _, rfl, hb, T.cl_Cell, T.n_Cell_value, fsC_value i v r, v, rfl, true, rfl, iteF ?_⟩
    exact ⟨_, rfl, a, _, dx, _, _, rfl, ha, T.cl_Cell, T.n_Cell_queue, fsC_queue i v q, _, rfl, b, _, dy, _, _, rfl, hb, T.cl_Cell, T.n_Cell_queue, fsC_queue i v r, q, r, ps, ps', us, rfl, hq, hr', pu, pu', fun H' s' => k H' s'⟩
theorem sc_Cell_send : FnScope ["self", "lane", "expression", "environment"] ["self", "lane", "expression", "environment"] (defScope s_Cell_send) := ⟨rfl, rfl, rfl, by decide +kernel, rfl, by decide +kernel, by decide +kernel⟩
theorem ok_send (T : Txt K w mg C) : Met P w K mg base 7 C.Cell "send" (spSend C.Cell) := by
  have Gcopied_update : Cal P w K mg base 6 "copied_update" spUpd := ok_upd T
  refine met_of T.m_Cell_send T.cl_Cell sc_Cell_send (fun vs H Q E h => ?_) (fun f cdv A outer s H vs Q E hr h => ?_)
  · obtain ⟨c, b, v, q, ps, l, x, d, e, k, G, M, rfl, _⟩ := h
    rfl
  · obtain ⟨c, b, v, q, ps, l, x, d, e, kk, G, M, rfl, S, ob, hl, hx, hd, k1, k2⟩ := h
    have big : 100000 < sizeLine := by decide
    obtain ⟨dx, hc⟩ := ob.same S.s
    have hq := S.hd
    refine ⟨_, (pss_cons (ps_if (pt_cmpR op_ge (pe_callB call_len_seq (by rfl) T.z_len PySem.boot_len (pa_cons (pe_fld (pv 0) rfl) pa_nil)) (C8.pe_gc (by rfl) T.g_MOST_UPDATES) (nomark _)) (pss_one (ps_ret pe_bl)) pss_nil) (pss_cons (ps_expr (pe_bm PySem.F.plainAttrs_list PySem.F.slot_list_append PySem.F.type_list_append mt_append (pe_fld (pv 0) rfl) (pa_cons (pe_c Gcopied_update hr (by decide) (by rfl) (pa_cons (pe_lst (pa_cons pe_bl (pa_cons (pv 1) (pa_cons (pv 2) (pa_cons (pv 3) pa_nil))))) pa_nil)) pa_nil))) (pss_one (ps_ret pe_bl)))), ?_⟩
    refine ⟨_, rfl, c, _, dx, _, _, rfl, hc, T.cl_Cell, T.n_Cell_queue, fsC_queue b v q, q, _, rfl, .inl (SqL.of hq), _, _, rfl, rfl, _, rfl, ?_⟩
    by_cases hlt : ps.length < 50
    · have e1 : decide ((50 : Int) ≤ ((ps.map V.ref).length : Int)) = false := by rw [List.length_map]; simp; omega
      rw [e1]
      refine iteF ?_
      refine ⟨_, rfl, c, _, dx, _, _, rfl, hc, T.cl_Cell, T.n_Cell_queue, fsC_queue b v q, .inl ⟨rfl, _, SqL.of hq⟩, ?_⟩
      refine ⟨_, rfl, _, rfl, _, rfl, by show 4 ≤ sizeLine; decide, fun t ht => ?_⟩
      have st := Sm.new (o := .lst [.bl false, .int l, x, .ref d]) ht
      refine ⟨t, ⟨false, l, e, kk⟩, rfl, ⟨x, d, upd_same, hx.same st, st _ _ hd⟩, fun a H1 s1 ua => ?_⟩
      have s2 := SmM.trans st s1
      have S2 := S.call s2
      have ua2 : UpA (joinH G (newer H H1)) a ⟨false, l, e, kk⟩ := ua.same (SmM.trans (newer_trans st) (joinH_r S.s))
      refine ⟨q, _, .ref a, rfl, rfl, S2.hd, by rw [List.length_map]; omega, ?_⟩
      have S3 := S2.put (u := .lst (ps.map V.ref ++ [.ref a]))
      refine k1 hlt a _ _ (by rw [List.map_append]; exact S3) joinH_l ua2
    · have e1 : decide ((50 : Int) ≤ ((ps.map V.ref).length : Int)) = true := by rw [List.length_map]; simp; omega
      rw [e1]
      refine iteT ?_
      exact k2 (by omega)
theorem sc_Cell_copied : FnScope ["self", "cell", "update"] ["self"] (defScope s_Cell_copied) := ⟨rfl, rfl, rfl, by decide +kernel, rfl, by decide +kernel, by decide +kernel⟩
theorem ok_cop (T : Txt K w mg C) : Met P w K mg base 8 C.Cell "copied" (spCopied C.Cell) := by
  have Gcopied_update : Cal P w K mg base 6 "copied_update" spUpd := ok_upd T
  have Gcopy_of : Cal P w K mg base 1 "copy_of" spInt1 := ok_copy T
  have KCell : Mak P w K mg base 2 "Cell" C.Cell (spInit C.Cell) := ok_init T
  refine met_of T.m_Cell_copied T.cl_Cell sc_Cell_copied (fun vs H Q E h => ?_) (fun f cdv A outer s H vs Q E hr h => ?_)
  · obtain ⟨c, b, v, q, ps, us, G, M, rfl, _⟩ := h
    rfl
  · obtain ⟨c, b, v, q, ps, us, G, M, rfl, S, ob, pu, ul, k⟩ := h
    have big : 100000 < sizeLine := by decide
    obtain ⟨dx, hc⟩ := ob.same S.s
    have pl := paired_ln pu
    refine ⟨_, (pss_cons (ps_set (i := 1) sc_Cell_copied.nd rfl (Or.inl rfl) (pe_mk KCell hr (by decide) (by rfl) (pa_cons (pe_fld (pv 0) rfl) (pa_cons (pe_fld (pv 0) rfl) pa_nil)))) (pss_cons (ps_fld (pv 1) (pe_lc (own := [("update", 2)]) (g := gName 2) (tt := tYes) rfl sc_Cell_copied.nd (pi_list (pe_fld (pv 0) rfl)) (blkOk_by (N := ["self", "cell", "update"]) (sc := (defScope s_Cell_copied)) (by decide +kernel)) (fun _ _ _ _ _ => pg_name (i := 2) sc_Cell_copied.nd rfl (Or.inl rfl)) (fun _ _ _ _ _ => pts_nil) (fun _ _ _ _ _ => (pe_c Gcopied_update hr (by decide) (by rfl) (pa_cons (pv 2) pa_nil)))) rfl) (pss_cons (ps_fld (pv 1) (pe_c Gcopy_of hr (by decide) (by rfl) (pa_cons (pe_fld (pv 0) rfl) pa_nil)) rfl) (pss_one (ps_ret (pv 1)))))), ?_⟩
    refine ⟨_, rfl, c, _, dx, _, _, rfl, hc, T.cl_Cell, T.n_Cell_name, fsC_name b v q, _, rfl, c, _, dx, _, _, rfl, hc, T.cl_Cell, T.n_Cell_base, fsC_base b v q, fun x dx' hx hdx nx => ?_⟩
    have S1 := ((S.call (Sm.new (o := .own x) hdx)).add (t := x) (o := .ins C.Cell dx' []) (by rw [upd_ne nx.symm]; exact hx))
    have g1 : Same G (joinH G (newer H (upd H dx' (.own x)))) := joinH_l
    generalize joinH G (newer H (upd H dx' (.own x))) = G1 at S1 g1
    generalize hH1 : upd (upd H dx' (.own x)) x (.ins C.Cell dx' []) = H1 at S1 ⊢
    refine ⟨x, dx', b, rfl, S1.hd, fun q0 H2 hq0 hx2 hl2 kp => ⟨rfl, ?_⟩⟩
    have S2 := S1.mod kp hx2
    obtain ⟨_, hc2⟩ := (ob.same g1).same S2.s
    have hq2 := S2.hd2
    refine ⟨_, rfl, c, _, _, _, _, rfl, hc2, T.cl_Cell, T.n_Cell_queue, fsC_queue b v q, q, rfl, ⟨_, SqL.of hq2⟩, fun D hD => ?_⟩
    have pu1 := paired_same g1 pu
    refine lc_it (walk_list (K := K) (a := q) (xs := ps.map V.ref)) (fun i H' => ∃ (G2 : Hp) (rs : List Addr), Sb G2 H' ((D, .lst (rs.map V.ref)) :: (x, .ins C.Cell dx' (fsC b b q0)) :: (q, .lst (ps.map V.ref)) :: M) ∧ Same G1 G2 ∧ Paired (UpA G2) rs (us.take i)) ⟨G1, [], S2.add hD, SmM.refl, .nil⟩ (fun i H' _ ⟨G2, rs, S3, _⟩ => SqL.of ((S3.m (q, .lst (ps.map V.ref)) (by simp)).2)) ?_ ?_
    · rintro i y H3 H4 hi ⟨G2, rs, S3, g2, pr⟩ ⟨rfl, hy⟩
      obtain ⟨p, u, rfl, hui, ua⟩ := paired_get pu1 hy
      have tk : us.take (i + 1) = us.take i ++ [u] := by rw [List.take_add_one, hui]; rfl
      have rl := paired_ln pr
      rw [List.length_take] at rl
      refine ⟨rfl, ?_⟩
      refine ⟨_, rfl, p, u, rfl, (ua.same g2).same S3.s, fun a H5 s5 ua5 => ?_⟩
      have S4 := S3.call s5
      refine ⟨_, S4.hd, by rw [List.length_map]; omega, joinH G2 (newer H4 H5), rs ++ [a], ?_, SmM.trans g2 joinH_l, ?_⟩
      · rw [List.map_append]
        exact S4.put
      · rw [tk]
        exact paired_snc (ua5.same (joinH_r S3.s)) (paired_same joinH_l pr)
    · rintro H3 ⟨G2, rs, S3, g2, pr⟩
      rw [List.length_map, pl, List.take_length] at pr
      refine ⟨_, rfl, x, _, dx', _, rfl, S3.hd2, T.cl_Cell, T.n_Cell_queue, (by show 4 < 1000; decide), ?_⟩
      rw [putC_queue]
      have S4 := S3.put2 (u := .ins C.Cell dx' (fsC b b D))
      obtain ⟨_, hc4⟩ := ((ob.same g1).same g2).same S4.s
      generalize upd H3 x _ = H4 at S4 hc4 ⊢
      refine ⟨_, rfl, c, _, _, _, _, rfl, hc4, T.cl_Cell, T.n_Cell_value, fsC_value b v q, v, rfl, _, rfl, x, _, dx', _, rfl, S4.hd2, T.cl_Cell, T.n_Cell_value, (by show 4 < 1000; decide), ?_⟩
      rw [putC_value]
      have S5 := S4.put2 (u := .ins C.Cell dx' (fsC b v D))
      obtain ⟨S6, g6⟩ := S5.swap.drop
      refine ⟨_, rfl, k x D rs _ _ S6 (SmM.trans g1 (SmM.trans g2 g6)) ⟨dx', upd_same⟩ (paired_same g6 pr)⟩
end
end VL

set_option Elab.async false
set_option linter.all false
set_option pp.maxSteps 700
set_option maxRecDepth 100000
set_option maxHeartbeats 4000000
namespace VL
open PySem PySem.Spec PyProof.Rows L2
theorem flat_ints {ls : List Int} : (ls.map V.int).all flatV = true := by
  rw [List.all_eq_true]
  intro x hx
  obtain ⟨i, _, rfl⟩ := List.mem_map.mp hx
  rfl
def spProc (CC : Addr) : Sp := fun vs H Q _ => ∃ (c : Addr) (b v : Int) (q : Addr) (ps : List Addr) (us : List Up) (L : Addr) (ls : List Int) (z : V) (j : Nat) (G : Hp) (M : List (Addr × HO)), vs = [.ref c, .ref L, z] ∧ Sb G H ((q, .lst (ps.map V.ref)) :: M) ∧ ObA CC G c b v q ∧ Paired (UpA G) ps us ∧ G L = some (.lst (ls.map V.int)) ∧
  Sml j b ∧ j + us.length ≤ 59 ∧ (∀ u ∈ us, OkU u) ∧
  ∀ c' q' ps' G' H', Sb G' H' ((q', .lst (ps'.map V.ref)) :: (q, .lst (ps.map V.ref)) :: M) → Same G G' → ObA CC G' c' (prc ls b us).b (prc ls b us).v q' → Paired (UpA G') ps' (prc ls b us).r → Q (.ref c') H'
theorem take_pi {ls : List Int} {b : Int} {j : Nat} {us : List Up} (hb : Sml j b) (hu : ∀ u ∈ us, OkU u) (i : Nat) : PI j (us.take i) (prc ls b (us.take i)) :=
  prc_pi hb _ fun u h => hu u (List.mem_of_mem_take h)
section
variable {P : Program} {w : World} {K : PySem.W.Frag} {mg : Str → Option Value} {base : Heap} {C : Ad}
theorem sc_Cell_processed : FnScope ["self", "lanes", "owner", "base", "value", "rest", "update", "marked", "lane", "expression", "environment", "cell"] ["self", "lanes", "owner"] (defScope s_Cell_processed) := ⟨rfl, rfl, rfl, by decide +kernel, rfl, by decide +kernel, by decide +kernel⟩
theorem ok_proc (T : Txt K w mg C) : MetK P w K mg base 11 C.Cell "processed" (spProc C.Cell) 2 ["owner"] catG := by
  have Gcopied_update : Cal P w K mg base 6 "copied_update" spUpd := ok_upd T
  have Gevaluate : Cal P w K mg base 10 "evaluate" spEvl := ok_evaluate T
  have Gcopy_of : Cal P w K mg base 1 "copy_of" spInt1 := ok_copy T
  have KCell : Mak P w K mg base 2 "Cell" C.Cell (spInit C.Cell) := ok_init T
  refine metK_of T.m_Cell_processed T.cl_Cell sc_Cell_processed (fun vs H Q E h => ?_) (fun f cdv A outer s H vs Q E hr h => ?_)
  · obtain ⟨c, b, v, q, ps, us, L, ls, z, j, G, M, rfl, _⟩ := h
    rfl
  · obtain ⟨c, b, v, q, ps, us, L, ls, z, j, G, M, rfl, S, ob, pu, hL, hb, hj, hk, k⟩ := h
    have big : 100000 < sizeLine := by decide
    obtain ⟨dx, hcG⟩ := ob
    have hc := S.s _ _ hcG
    have pl := paired_ln pu
    refine ⟨_, (pss_cons (ps_set (i := 3) sc_Cell_processed.nd rfl (Or.inl rfl) (pe_fld (pv 0) rfl)) (pss_cons (ps_set (i := 4) sc_Cell_processed.nd rfl (Or.inl rfl) (pv 3)) (pss_cons (ps_set (i := 5) sc_Cell_processed.nd rfl (Or.inl rfl) (pe_lst pa_nil)) (pss_cons (ps_for PassesOwn.never rfl (pi_list (pe_fld (pv 0) rfl)) (pg_name (i := 6) sc_Cell_processed.nd rfl (Or.inl rfl)) (pss_cons (ps_asg (pe_c Gcopied_update hr (by decide) (by rfl) (pa_cons (pv 6) pa_nil)) (pg_unl rfl (pgs_cons (pg_name (i := 7) sc_Cell_processed.nd rfl (Or.inl rfl)) (pgs_cons (pg_name (i := 8) sc_Cell_processed.nd rfl (Or.inl rfl)) (pgs_cons (pg_name (i := 9) sc_Cell_processed.nd rfl (Or.inl rfl)) (pgs_cons (pg_name (i := 10) sc_Cell_processed.nd rfl (Or.inl rfl)) pgs_nil)))))) (C8.pss_cut (ps_set (i := 7) sc_Cell_processed.nd rfl (Or.inl rfl) (pe_or (pv 7) (pe_one (pe_cmpR op_in_seq (pv 8) (pv 1) rfl)))) (C8.pss_cut (ps_if (pt_val (pv 7)) (pss_one (ps_set (i := 4) sc_Cell_processed.nd rfl (Or.inl rfl) (pe_c Gevaluate hr (by decide) (by rfl) (pa_cons (pv 9) (pa_cons (pe_star (pv 10) (pe_fld (pv 0) rfl) (pv 4)) (pa_cons (pv 2) pa_nil)))))) pss_nil) (pss_one (ps_if (PW.pt (pw_and (pt_val (pv 7)) (pw_and1 (pt_not (pt_truth (pv 5) (fun _ => rfl)))))) (pss_one (ps_set (i := 3) sc_Cell_processed.nd rfl (Or.inl rfl) (pv 4))) (pss_one (ps_expr (pe_bm PySem.F.plainAttrs_list PySem.F.slot_list_append PySem.F.type_list_append mt_append (pv 5) (pa_cons (pe_lst (pa_cons (pv 7) (pa_cons (pv 8) (pa_cons (pv 9) (pa_cons (pv 10) pa_nil))))) pa_nil)))))))))) (pss_cons (ps_set (i := 11) sc_Cell_processed.nd rfl (Or.inl rfl) (pe_mk KCell hr (by decide) (by rfl) (pa_cons (pe_fld (pv 0) rfl) (pa_cons (pv 3) pa_nil)))) (pss_cons (ps_fld (pv 11) (pv 5) rfl) (pss_cons (ps_fld (pv 11) (pe_c Gcopy_of hr (by decide) (by rfl) (pa_cons (pv 4) pa_nil)) rfl) (pss_one (ps_ret (pv 11)))))))))), ?_⟩
    refine ⟨_, rfl, c, _, dx, _, _, rfl, hc, T.cl_Cell, T.n_Cell_base, fsC_base b v q, ?_⟩
    refine ⟨_, rfl, by show 0 ≤ sizeLine; decide, fun D hD => ?_⟩
    have S1 := S.add (o := .lst []) hD
    refine ⟨_, rfl, c, _, dx, _, _, rfl, S1.s _ _ hcG, T.cl_Cell, T.n_Cell_queue, fsC_queue b v q, q, rfl, ⟨_, SqL.of S1.hd2⟩, ?_⟩
    refine for_it (walk_list (K := K) (a := q) (xs := ps.map V.ref)) (fun i σ H' => ∃ (G1 : Hp) (rs : List Addr) (y1 y2 y3 y4 y5 : Option V), Sb G1 H' ((D, .lst (rs.map V.ref)) :: (q, .lst (ps.map V.ref)) :: M) ∧ Same G G1 ∧ Paired (UpA G1) rs (prc ls b (us.take i)).r ∧
      σ = [some (.ref c), some (.ref L), some z, some (.int (prc ls b (us.take i)).b), some (.int (prc ls b (us.take i)).v), some (.ref D), y1, y2, y3, y4, y5, none]) ⟨G, [], none, none, none, none, none, S1, SmM.refl, .nil, rfl⟩ (fun i σ H' _ ⟨G1, rs, _, _, _, _, _, S2, _⟩ => SqL.of S2.hd2) ?_ ?_
    · rintro i x σ H1 H2 hi ⟨G1, rs, y1, y2, y3, y4, y5, S2, g1, pr, rfl⟩ ⟨rfl, hx⟩
      have hi1 : i < ps.length := by rw [List.length_map] at hi; exact hi
      have hi2 : i < us.length := by omega
      obtain ⟨p, u, rfl, hui, ua0⟩ := paired_get (paired_same g1 pu) hx
      have eu : us[i] = u := (List.getElem?_eq_some_iff.mp hui).2
      have um : u ∈ us := List.mem_of_getElem? hui
      have ok := hk u um
      have pi := take_pi (ls := ls) hb hk i
      have pil : (us.take i).length = i := by rw [List.length_take]; omega
      have sv := pi.v
      rw [pil] at sv
      have svl := sv.lt (by omega)
      have pt := prc_take (ls := ls) (b := b) hi2
      rw [eu] at pt
      have rl := paired_ln pr
      have rl2 : (prc ls b (us.take i)).r.length ≤ i := by
        obtain ⟨i', _, h2, _⟩ := pi.b
        rw [pil] at h2
        omega
      generalize prc ls b (us.take i) = st at pi sv svl pt rl rl2 pr
      refine ⟨_, rfl, p, u, rfl, ua0.same S2.s, fun a H3 s3 ua => ?_⟩
      have S3 := S2.call s3
      have ua3 : UpA (joinH G1 (newer H2 H3)) a u := ua.same (joinH_r S2.s)
      have g3 : Same G1 (joinH G1 (newer H2 H3)) := joinH_l
      generalize joinH G1 (newer H2 H3) = G3 at S3 ua3 g3
      have pr3 := paired_same g3 pr
      have g03 := SmM.trans g1 g3
      obtain ⟨v', d', h1, h2, h3⟩ := ua3
      refine ⟨a, _, rfl, SqL.of (S3.s _ _ h1), rfl, ?_⟩
      refine ⟨_, _, rfl, _, _, rfl, _, _, rfl, _, _, rfl, rfl, ?_⟩
      refine ⟨fun σ' H' => H' = H3 ∧ σ' = [some (.ref c), some (.ref L), some z, some (.int st.b), some (.int st.v), some (.ref D), some (.ref p), some (.bl (mrk ls u).m), some (.int u.l), some v', some (.ref d'), none], ?_, ?_⟩
      · refine ⟨_, rfl, u.m, rfl, ?_⟩
        cases hm : u.m with
        | true =>
          refine iteT ⟨rfl, ?_⟩
          have : (mrk ls u).m = true := by show (u.m || _) = true; rw [hm]; rfl
          rw [this]
          rfl
        | false =>
          refine iteF ⟨_, rfl, _, rfl, L, _, rfl, .inl (SqL.of (S3.s _ _ (g03 _ _ hL))), rfl, flat_ints, ?_⟩
          rw [if_neg (by decide), inv_ints]
          have : (mrk ls u).m = ls.contains u.l := by show (u.m || _) = _; rw [hm]; rfl
          rw [this]
          exact ⟨rfl, rfl⟩
      · rintro σ' H' ⟨eH, rfl⟩
        rw [eH]
        refine ⟨fun σ' H' => Same H3 H' ∧ σ' = [some (.ref c), some (.ref L), some z, some (.int st.b), some (.int (if (mrk ls u).m then ap st.v (mrk ls u) else st.v)), some (.ref D), some (.ref p), some (.bl (mrk ls u).m), some (.int u.l), some v', some (.ref d'), none], ?_, ?_⟩
        · refine ⟨_, rfl, (mrk ls u).m, rfl, ?_⟩
          cases hm : (mrk ls u).m with
          | false => exact iteF ⟨SmM.refl, rfl⟩
          | true =>
            refine iteT ?_
            have hp3 := S3.s _ _ h3
            have hx3 := h2.same S3.s
            refine ⟨_, rfl, fun t hp => ⟨_, rfl, d', eK u.k, rfl, (fun e => by rw [e, hp] at hp3; exact (nomatch hp3)), Sm.new hp _ _ hp3, upd_same, by show 1 ≤ _; decide, fun p2 hp2 => ?_⟩⟩
            have em : mergeK ([] : List (Key × V)) (eK u.k) = eK u.k := rfl
            rw [em] at hp2 ⊢
            rw [upd_upd] at hp2 ⊢
            have np : t ≠ p2 := fun e => by rw [← e, upd_same] at hp2; exact (nomatch hp2)
            have hc3 : upd (upd H3 t (.dK (eK u.k))) p2 (.dK []) c = some (.ins C.Cell dx (fsC b v q)) := Sm.new hp2 _ _ (Sm.new hp _ _ (S3.s _ _ (g03 _ _ hcG)))
            refine ⟨_, rfl, c, _, dx, _, _, rfl, hc3, T.cl_Cell, T.n_Cell_name, fsC_name b v q, _, rfl, .inr "c", eK u.k, rfl, upd_same, (by rw [upd_ne np]; exact upd_same), by show 1 ≤ _; decide, ?_⟩
            have e2 : putK (eK u.k) (.inr "c") (.int st.v) = eKC u.k st.v := rfl
            rw [e2]
            have sp : Same H3 (upd (upd (upd (upd H3 t (.dK (eK u.k))) p2 (.dK [])) p2 (.dK [(.inr "c", .int st.v)])) t (.dK (eKC u.k st.v))) := fun y o e => by
              have n1 : y ≠ t := ne_of_none e hp
              have n2 : y ≠ p2 := fun z => by
                rw [z] at e
                rw [upd_ne np.symm] at hp2
                rw [e] at hp2
                exact (nomatch hp2)
              rw [upd_ne n1, upd_ne n2, upd_ne n2, upd_ne n1]
              exact e
            refine ⟨_, rfl, v', t, z, st.v, u.k, u.e, rfl, hx3.same sp, upd_same, svl.1, svl.2, ok.k.1, ok.k.2, ok.e, fun H5 s5 => ?_⟩
            exact ⟨SmM.trans sp s5, rfl⟩
        · rintro σ' H4 ⟨s4, rfl⟩
          have S4 := S3.call s4
          have g4 : Same G3 (joinH G3 (newer H3 H4)) := joinH_l
          generalize joinH G3 (newer H3 H4) = G4 at S4 g4
          have pr4 := paired_same g4 pr3
          have g04 := SmM.trans g03 g4
          have hD4 := S4.hd
          refine ⟨_, rfl, (mrk ls u).m, rfl, ?_⟩
          by_cases hcond : ((mrk ls u).m && st.r.isEmpty) = true
          · obtain ⟨hm, hre⟩ := Bool.and_eq_true_iff.mp hcond
            have hr0 : st.r = [] := by simpa using hre
            have rs0 : rs = [] := by
              rw [hr0] at rl
              exact List.length_eq_zero_iff.mp rl
            rw [hm]
            refine iteT ?_
            refine ⟨_, rfl, !(rs.map V.ref).isEmpty, .inl ⟨_, SqL.of hD4, rfl⟩, ?_⟩
            rw [rs0] at S4 ⊢
            refine iteT ?_
            refine ⟨_, rfl, G4, [], some (.ref p), some (.bl true), some (.int u.l), some v', some (.ref d'), S4, g04, ?_, ?_⟩
            · rw [pt]
              unfold stp
              rw [if_pos hcond]
              exact .nil
            · rw [pt]
              unfold stp
              rw [if_pos hcond]
              rfl
          · have fin : ∀ t : Addr, H4 t = none → ∃ (G5 : Hp), Sb G5 (upd (upd H4 t (.lst [.bl (mrk ls u).m, .int u.l, v', .ref d'])) D (.lst (rs.map V.ref ++ [.ref t]))) ((D, .lst ((rs ++ [t]).map V.ref)) :: (q, .lst (ps.map V.ref)) :: M) ∧ Same G4 G5 ∧ UpA G5 t (mrk ls u) := by
              intro t ht
              have S5 := S4.alloc (o := .lst [.bl (mrk ls u).m, .int u.l, v', .ref d']) ht
              have g5 := S4.grow (o := .lst [.bl (mrk ls u).m, .int u.l, v', .ref d']) ht
              refine ⟨_, by rw [List.map_append]; exact S5.put, g5, v', d', upd_same, (h2.same g4).same g5, g5 _ _ (g4 _ _ h3)⟩
            have app : ∀ t : Addr, H4 t = none → ∃ l xs' v1, V.ref D = .ref l ∧ [V.ref t] = [v1] ∧ (upd H4 t (.lst [.bl (mrk ls u).m, .int u.l, v', .ref d'])) l = some (.lst xs') ∧ xs'.length < sizeLine ∧ (∃ (G1 : Hp) (rs : List Addr) (y1 y2 y3 y4 y5 : Option V), Sb G1 (upd (upd H4 t (.lst [.bl (mrk ls u).m, .int u.l, v', .ref d'])) l (.lst (xs' ++ [v1]))) ((D, .lst (rs.map V.ref)) :: (q, .lst (ps.map V.ref)) :: M) ∧ Same G G1 ∧ Paired (UpA G1) rs (prc ls b (us.take (i + 1))).r ∧
                [some (V.ref c), some (.ref L), some z, some (.int st.b), some (.int (if (mrk ls u).m then ap st.v (mrk ls u) else st.v)), some (.ref D), some (.ref p), some (.bl (mrk ls u).m), some (.int u.l), some v', some (.ref d'), none] = [some (.ref c), some (.ref L), some z, some (.int (prc ls b (us.take (i + 1))).b), some (.int (prc ls b (us.take (i + 1))).v), some (.ref D), y1, y2, y3, y4, y5, none]) := by
              intro t ht
              obtain ⟨G5, S5, g5, u5⟩ := fin t ht
              refine ⟨D, _, .ref t, rfl, rfl, Sm.new ht _ _ hD4, by rw [List.length_map]; omega, G5, rs ++ [t], some (.ref p), some (.bl (mrk ls u).m), some (.int u.l), some v', some (.ref d'), S5, SmM.trans g04 g5, ?_, ?_⟩
              · rw [pt]
                unfold stp
                rw [if_neg hcond]
                exact paired_snc u5 (paired_same g5 pr4)
              · rw [pt]
                unfold stp
                rw [if_neg hcond]
            by_cases hm : (mrk ls u).m = true
            · have rs0 : (!(rs.map V.ref).isEmpty) = true := by
                rw [hm, Bool.true_and] at hcond
                cases rs with
                | nil =>
                  have : st.r = [] := List.length_eq_zero_iff.mp rl.symm
                  rw [this] at hcond
                  exact absurd rfl hcond
                | cons _ _ => rfl
              refine Eq.mpr (if_pos hm) ?_
              refine ⟨_, rfl, !(rs.map V.ref).isEmpty, .inl ⟨_, SqL.of hD4, rfl⟩, ?_⟩
              rw [rs0]
              refine iteF ?_
              exact ⟨_, rfl, .inl ⟨rfl, _, SqL.of hD4⟩, _, rfl, _, rfl, _, rfl, _, rfl, by show 4 ≤ sizeLine; decide, app⟩
            · refine Eq.mpr (if_neg hm) ?_
              exact ⟨_, rfl, .inl ⟨rfl, _, SqL.of hD4⟩, _, rfl, _, rfl, _, rfl, _, rfl, by show 4 ≤ sizeLine; decide, app⟩
    · rintro σ H1 ⟨G1, rs, y1, y2, y3, y4, y5, S2, g1, pr, rfl⟩
      have tl : us.take (ps.map V.ref).length = us := by rw [List.length_map, pl, List.take_length]
      rw [tl] at pr ⊢
      refine ⟨_, rfl, c, _, dx, _, _, rfl, S2.s _ _ (g1 _ _ hcG), T.cl_Cell, T.n_Cell_name, fsC_name b v q, _, rfl, fun x dx' hx hdx nx => ?_⟩
      have S3 := ((S2.call (Sm.new (o := .own x) hdx)).add (t := x) (o := .ins C.Cell dx' []) (by rw [upd_ne nx.symm]; exact hx))
      have g3 : Same G1 (joinH G1 (newer H1 (upd H1 dx' (.own x)))) := joinH_l
      generalize joinH G1 (newer H1 (upd H1 dx' (.own x))) = G3 at S3 g3
      generalize hH3 : upd (upd H1 dx' (.own x)) x (.ins C.Cell dx' []) = H3 at S3 ⊢
      refine ⟨x, dx', (prc ls b us).b, rfl, S3.hd, fun q0 H4 hq0 hx4 hl4 kp => ⟨rfl, ?_⟩⟩
      have S4 := S3.mod kp hx4
      refine ⟨_, rfl, _, rfl, x, _, dx', _, rfl, S4.hd, T.cl_Cell, T.n_Cell_queue, (by show 4 < 1000; decide), ?_⟩
      rw [putC_queue]
      have S5 := S4.put (u := .ins C.Cell dx' (fsC (prc ls b us).b (prc ls b us).b D))
      refine ⟨_, rfl, _, rfl, _, rfl, x, _, dx', _, rfl, S5.hd, T.cl_Cell, T.n_Cell_value, (by show 4 < 1000; decide), ?_⟩
      rw [putC_value]
      have S6 := S5.put (u := .ins C.Cell dx' (fsC (prc ls b us).b (prc ls b us).v D))
      obtain ⟨S7, g7⟩ := S6.drop
      refine ⟨_, rfl, k x D rs _ _ S7 (SmM.trans g1 (SmM.trans g3 g7)) ⟨dx', upd_same⟩ (paired_same (SmM.trans g3 g7) pr)⟩
end
end VL

set_option Elab.async false
set_option linter.all false
set_option pp.maxSteps 700
set_option maxRecDepth 100000
set_option maxHeartbeats 4000000
namespace VL
open PySem PySem.Spec PyProof.Rows L2
def spRows (K : PySem.W.Frag) : Sp := fun vs H Q _ => ∃ (s : Addr) (ns : List Int) (m : Nat), vs = [.ref s, .int m] ∧ SqL K H s (ns.map V.int) ∧ ns.length ≤ 63 ∧ m ≤ 100 ∧ ∀ r (zs : List Int) H', Same H H' → H r = none → H' r = some (.lst (zs.map V.int)) → zs.length = m → Q (.ref r) H'
def spLU : Sp := fun vs H Q _ => ∃ r : Int, vs = [.int r] ∧ ∀ v e H', Same H H' → Dq (newer H H') v (encX e) → okE e → Q v H'
def spLA : Sp := fun vs H Q _ => ∃ (x : Int) (p : Addr) (u : Up), vs = [.int x, .ref p] ∧ UpA H p u ∧ Q (.int (ap x u)) H
theorem map_int_atR {ns : List Int} {j : Int} (h0 : 0 ≤ j) (h1 : j < (ns.length : Int)) : ∃ z, atI (ns.map V.int) j = some (.int z) := by
  have hj : j.toNat < ns.length := by omega
  refine ⟨ns[j.toNat], ?_⟩
  unfold atI ixN
  rw [if_pos h0, if_pos (by rw [List.length_map]; exact h1)]
  show (ns.map V.int)[j.toNat]? = _
  rw [List.getElem?_map, List.getElem?_eq_getElem hj]
  rfl
theorem neK {a b : Str} (h : (a == b) = false) : ¬ (decide (V.str a = V.str b) = true) := fun c => by
  have e := V.str.inj (of_decide_eq_true c)
  subst e
  simp at h
section
variable {P : Program} {w : World} {K : PySem.W.Frag} {mg : Str → Option Value} {base : Heap} {C : Ad}
theorem sc__law_rows : FnScope ["script", "count", "rows", "k", "cell"] ["script", "count"] (defScope s__law_rows) := ⟨rfl, rfl, rfl, by decide +kernel, rfl, by decide +kernel, by decide +kernel⟩
theorem ok_rows (T : Txt K w mg C) : Cal P w K mg base 1 "_law_rows" (spRows K) := by
  refine cal_of T.d__law_rows sc__law_rows (fun vs H Q E h => ?_) (fun f cdv A outer s H vs Q E hr h => ?_)
  · obtain ⟨a, ns, m, rfl, _⟩ := h
    rfl
  · obtain ⟨a, ns, m, rfl, ha, hn, hm, k⟩ := h
    have hu := hu_of hr
    have big : 100000 < sizeLine := by decide
    refine ⟨_, (pss_cons (ps_set (i := 2) sc__law_rows.nd rfl (Or.inl rfl) (pe_lst pa_nil)) (pss_cons (ps_for PassesOwn.never rfl (pi_range1 (by rfl) T.z_range (pa_cons (pv 1) pa_nil)) (pg_name (i := 3) sc__law_rows.nd rfl (Or.inl rfl)) (pss_cons (ps_set (i := 4) sc__law_rows.nd rfl (Or.inl rfl) pe_int) (C8.pss_cut (ps_if (pt_cmpR op_gt (pe_callB call_len_seq (by rfl) T.z_len PySem.boot_len (pa_cons (pv 0) pa_nil)) pe_int (nomark _)) (pss_one (ps_set (i := 4) sc__law_rows.nd rfl (Or.inl rfl) (pe_callTy call_int1 (by rfl) T.z_int (by decide +kernel) (pa_cons (pe_ix ix_list (pv 0) (pe_op op_mod (pe_callTy call_int1 (by rfl) T.z_int (by decide +kernel) (pa_cons (pv 3) pa_nil)) (pe_callB call_len_seq (by rfl) T.z_len PySem.boot_len (pa_cons (pv 0) pa_nil))) (fun _ _ => rfl)) pa_nil)))) pss_nil) (C8.pss_cut (ps_if (pt_cmpR op_lt (pv 4) pe_int (nomark _)) (pss_one (ps_set (i := 4) sc__law_rows.nd rfl (Or.inl rfl) (pe_op op_sub pe_int (pe_op op_mul pe_int (pv 4))))) pss_nil) (C8.pss_cut (ps_if (PW.pt (pw_or (pt_cmpR op_ge (pv 3) (pe_callB call_len_seq (by rfl) T.z_len PySem.boot_len (pa_cons (pv 0) pa_nil)) (nomark _)) (pw_or1 (pt_cmpR op_lt (pv 4) pe_int (nomark _))))) (pss_cons (ps_set (i := 4) sc__law_rows.nd rfl (Or.inl rfl) (pe_op op_mod (pe_callTy call_int1 (by rfl) T.z_int (by decide +kernel) (pa_cons (pe_op op_add (pe_op op_mul (pe_op op_add (pe_op op_add (pv 4) (pe_op op_mul pe_int (pv 3))) pe_int) pe_int) (pe_op op_mul (pe_op op_mul (pv 3) (pv 3)) pe_int)) pa_nil)) pe_int)) (pss_one (ps_set (i := 4) sc__law_rows.nd rfl (Or.inl rfl) (pe_op op_mod (pe_callTy call_int1 (by rfl) T.z_int (by decide +kernel) (pa_cons (pe_op op_mul (pe_op op_add (pe_op op_add (pv 4) (pe_op op_mul pe_int (pv 3))) pe_int) pe_int) pa_nil)) pe_int)))) pss_nil) (pss_one (ps_expr (pe_bm PySem.F.plainAttrs_list PySem.F.slot_list_append PySem.F.type_list_append mt_append (pv 2) (pa_cons (pv 4) pa_nil))))))))) (pss_one (ps_ret (pv 2))))), ?_⟩
    refine ⟨by show 0 ≤ sizeLine; decide, fun r hr0 => ?_⟩
    refine ⟨_, rfl, _, rfl, by omega, by omega, ?_⟩
    refine for_range (lo := 0) (n := ((m : Nat) : Int).toNat) (fun i σ H' => ∃ (zs : List Int) (y1 y2 : Option V), Same H H' ∧ H' r = some (.lst (zs.map V.int)) ∧ zs.length = i ∧ σ = [some (.ref a), some (.int m), some (.ref r), y1, y2]) ⟨[], none, none, Sm.new hr0, upd_same, rfl, rfl⟩ ?_ ?_
    · rintro i σ H1 hi ⟨zs, y1, y2, s1, h1, zl, rfl⟩
      have hi' : i < m := by omega
      have ha1 := Same.seq s1 ha
      have hL : ((ns.map V.int).length : Int) = (ns.length : Int) := by rw [List.length_map]
      refine ⟨fun σ' H' => H' = H1 ∧ ∃ c : Int, σ' = [some (.ref a), some (.int m), some (.ref r), some (.int (0 + (i : Int))), some (.int c)], ?_, ?_⟩
      · refine ⟨_, rfl, a, _, rfl, .inl ha1, _, _, rfl, rfl, _, rfl, ?_⟩
        rw [hL]
        refine ite2 (fun q => ?_) (fun q => ⟨rfl, 0, rfl⟩)
        have q' : (0 : Int) < ns.length := of_decide_eq_true q
        obtain ⟨z, hz⟩ := map_int_atR (ns := ns) (j := (0 + (i : Int)) % (ns.length : Int)) (Int.emod_nonneg _ (by omega)) (Int.emod_lt_of_pos _ q')
        refine ⟨_, rfl, _, rfl, .inl ⟨_, rfl, _, rfl, a, _, rfl, .inl ha1, _, _, rfl, rfl, by rw [hL]; exact q', a, _, _, .int z, rfl, rfl, ha1, by rw [hL]; exact hz, .inl ⟨_, rfl, rfl, z, rfl⟩⟩⟩
      · rintro σ' H' ⟨eH, c, rfl⟩
        rw [eH]
        refine ⟨fun σ' H' => H' = H1 ∧ ∃ c : Int, σ' = [some (.ref a), some (.int m), some (.ref r), some (.int (0 + (i : Int))), some (.int c)], ?_, ?_⟩
        · refine ⟨_, rfl, _, _, rfl, rfl, _, rfl, ?_⟩
          refine ite2 (fun q => ?_) (fun q => ⟨rfl, c, rfl⟩)
          exact ⟨_, rfl, _, _, rfl, rfl, .inl ⟨by decide, by decide⟩, _, _, rfl, rfl, rfl, _, rfl⟩
        · rintro σ' H' ⟨eH, c, rfl⟩
          rw [eH]
          refine ⟨fun σ' H' => H' = H1 ∧ ∃ c : Int, σ' = [some (.ref a), some (.int m), some (.ref r), some (.int (0 + (i : Int))), some (.int c)], ?_, ?_⟩
          · refine ⟨_, rfl, _, rfl, a, _, rfl, .inl ha1, _, _, rfl, rfl, _, rfl, ?_⟩
            refine ite2 (fun q => ?_) (fun q => ?_)
            · refine ⟨_, rfl, _, rfl, _, _, rfl, rfl, .inl ⟨by decide, by decide⟩, _, _, rfl, rfl, _, _, rfl, rfl, _, _, rfl, rfl, .inr ⟨by decide, by decide⟩, _, rfl, _, rfl, _, _, rfl, rfl, .inl ⟨by omega, by omega⟩, _, _, rfl, rfl, .inr ⟨by decide, by decide⟩, _, _, rfl, rfl, .inl ⟨_, rfl, _, _, rfl, rfl, (by show (0 : Int) < 1000000007; decide), ?_⟩⟩
              exact ⟨_, rfl, _, rfl, _, _, rfl, rfl, .inl ⟨by decide, by decide⟩, _, _, rfl, rfl, _, _, rfl, rfl, _, _, rfl, rfl, .inr ⟨by decide, by decide⟩, .inl ⟨_, rfl, _, _, rfl, rfl, (by show (0 : Int) < 18446744073709551557; decide), rfl, _, rfl⟩⟩
            · refine ⟨_, rfl, _, _, rfl, rfl, _, rfl, ?_⟩
              refine ite2 (fun q => ?_) (fun q => ⟨rfl, c, rfl⟩)
              refine ⟨_, rfl, _, rfl, _, _, rfl, rfl, .inl ⟨by decide, by decide⟩, _, _, rfl, rfl, _, _, rfl, rfl, _, _, rfl, rfl, .inr ⟨by decide, by decide⟩, _, rfl, _, rfl, _, _, rfl, rfl, .inl ⟨by omega, by omega⟩, _, _, rfl, rfl, .inr ⟨by decide, by decide⟩, _, _, rfl, rfl, .inl ⟨_, rfl, _, _, rfl, rfl, (by show (0 : Int) < 1000000007; decide), ?_⟩⟩
              exact ⟨_, rfl, _, rfl, _, _, rfl, rfl, .inl ⟨by decide, by decide⟩, _, _, rfl, rfl, _, _, rfl, rfl, _, _, rfl, rfl, .inr ⟨by decide, by decide⟩, .inl ⟨_, rfl, _, _, rfl, rfl, (by show (0 : Int) < 18446744073709551557; decide), rfl, _, rfl⟩⟩
          · rintro σ' H' ⟨eH, c, rfl⟩
            rw [eH]
            refine ⟨_, rfl, .inl ⟨rfl, _, SqL.of h1⟩, _, rfl, r, _, _, rfl, rfl, h1, ?_, ?_⟩
            · rw [List.length_map]
              omega
            · refine ⟨zs ++ [c], _, _, fun b o eb => ?_, ?_, by rw [List.length_append, zl]; rfl, rfl⟩
              · rw [upd_ne (ne_of_none eb hr0)]
                exact s1 _ _ eb
              · rw [upd_same, List.map_append]
                rfl
    · rintro σ H1 ⟨zs, y1, y2, s1, h1, zl, rfl⟩
      exact ⟨_, rfl, k r zs H1 s1 hr0 h1 (by omega)⟩
theorem sc__law_update : FnScope ["row", "kind", "more"] ["row"] (defScope s__law_update) := ⟨rfl, rfl, rfl, by decide +kernel, rfl, by decide +kernel, by decide +kernel⟩
theorem ok_lu (T : Txt K w mg C) : Cal P w K mg base 1 "_law_update" spLU := by
  refine cal_of T.d__law_update sc__law_update (fun vs H Q E h => ?_) (fun f cdv A outer s H vs Q E hr h => ?_)
  · obtain ⟨r, rfl, _⟩ := h
    rfl
  · obtain ⟨r, rfl, q⟩ := h
    have m0 : 0 ≤ r / 3 % 9 := Int.emod_nonneg _ (by decide)
    have m1 : r / 3 % 9 < 9 := Int.emod_lt_of_pos _ (by decide)
    refine ⟨_, (pss_cons (ps_set (i := 1) sc__law_update.nd rfl (Or.inl rfl) (pe_op op_mod (pe_callTy call_int1 (by rfl) T.z_int (by decide +kernel) (pa_cons (pv 0) pa_nil)) pe_int)) (pss_cons (ps_set (i := 2) sc__law_update.nd rfl (Or.inl rfl) (pe_op op_mod (pe_callTy call_int1 (by rfl) T.z_int (by decide +kernel) (pa_cons (pe_op op_fdiv (pv 0) pe_int) pa_nil)) pe_int)) (pss_cons (ps_if (pt_cmpR op_eq (pv 1) pe_int (nomark _)) (pss_one (ps_ret (pe_tup (pa_cons pe_str (pa_cons (pv 2) pa_nil))))) pss_nil) (pss_cons (ps_if (pt_cmpR op_eq (pv 1) pe_int (nomark _)) (pss_one (ps_ret (pe_tup (pa_cons pe_str (pa_cons pe_str (pa_cons (pe_tup (pa_cons pe_str (pa_cons pe_str pa_nil))) (pa_cons (pe_tup (pa_cons pe_str (pa_cons pe_str pa_nil))) pa_nil))))))) pss_nil) (pss_one (ps_ret (pe_tup (pa_cons pe_str (pa_cons pe_str (pa_cons (pe_tup (pa_cons pe_str (pa_cons pe_str (pa_cons (pe_tup (pa_cons pe_str (pa_cons pe_str pa_nil))) (pa_cons (pe_tup (pa_cons pe_str (pa_cons pe_int pa_nil))) pa_nil))))) (pa_cons (pe_tup (pa_cons pe_str (pa_cons (pv 2) pa_nil))) pa_nil))))))))))), ?_⟩
    refine ⟨_, rfl, .inl ⟨_, rfl, _, _, rfl, rfl, (by show (0 : Int) < 3; decide), ?_⟩⟩
    refine ⟨_, rfl, _, _, rfl, rfl, ⟨by decide, by decide⟩, .inl ⟨_, rfl, _, _, rfl, rfl, (by show (0 : Int) < 9; decide), ?_⟩⟩
    refine ⟨_, rfl, rfl, _, rfl, ite2 (fun _ => ?_) (fun _ => ?_)⟩
    · refine ⟨_, rfl, by show 2 ≤ sizeLine; decide, fun a1 n1 => ?_⟩
      exact q _ (.num (r / 3 % 9)) _ (Sm.new n1) (.tup (newer_mk n1 upd_same) (.cons (.str _) (.cons (.int _) .nil))) ⟨m0, by omega⟩
    refine ⟨_, rfl, rfl, _, rfl, ite2 (fun _ => ?_) (fun _ => ?_)⟩
    · refine ⟨by show 2 ≤ sizeLine; decide, fun a1 n1 => ⟨by show 2 ≤ sizeLine; decide, fun a2 n2 => ⟨by show 4 ≤ sizeLine; decide, fun a3 n3 => ?_⟩⟩⟩
      have h1 := fun o => SmM.trans (Sm.new n2) (Sm.new (o := o) n3)
      have h2 := fun o => Sm.new (o := o) n3
      have k2 := not_new (Sm.new n1) n2
      have k3 := not_new (SmM.trans (Sm.new n1) (Sm.new n2)) n3
      exact q _ .ck _ (SmM.trans (Sm.new n1) (SmM.trans (Sm.new n2) (Sm.new n3))) (.tup (newer_mk k3 upd_same) (.cons (.str _) (.cons (.str _) (.cons (.tup (newer_mk n1 (h1 _ _ _ upd_same)) (.cons (.str _) (.cons (.str _) .nil))) (.cons (.tup (newer_mk k2 (h2 _ _ _ upd_same)) (.cons (.str _) (.cons (.str _) .nil))) .nil))))) trivial
    · refine ⟨by show 2 ≤ sizeLine; decide, fun a1 n1 => ⟨by show 2 ≤ sizeLine; decide, fun a2 n2 => ⟨by show 4 ≤ sizeLine; decide, fun a3 n3 => ⟨_, rfl, by show 2 ≤ sizeLine; decide, fun a4 n4 => ⟨by show 4 ≤ sizeLine; decide, fun a5 n5 => ?_⟩⟩⟩⟩⟩
      have h1 := fun o => SmM.trans (Sm.new n2) (SmM.trans (Sm.new n3) (SmM.trans (Sm.new n4) (Sm.new (o := o) n5)))
      have h2 := fun o => SmM.trans (Sm.new n3) (SmM.trans (Sm.new n4) (Sm.new (o := o) n5))
      have h3 := fun o => SmM.trans (Sm.new n4) (Sm.new (o := o) n5)
      have h4 := fun o => Sm.new (o := o) n5
      refine q _ (.dbl (r / 3 % 9)) _ (SmM.trans (Sm.new n1) (SmM.trans (Sm.new n2) (SmM.trans (Sm.new n3) (SmM.trans (Sm.new n4) (Sm.new n5))))) ?_ ⟨m0, by omega⟩
      have k2 := not_new (Sm.new n1) n2
      have k3 := not_new (SmM.trans (Sm.new n1) (Sm.new n2)) n3
      have k4 := not_new (SmM.trans (Sm.new n1) (SmM.trans (Sm.new n2) (Sm.new n3))) n4
      have k5 := not_new (SmM.trans (Sm.new n1) (SmM.trans (Sm.new n2) (SmM.trans (Sm.new n3) (Sm.new n4)))) n5
      exact .tup (newer_mk k5 upd_same) (.cons (.str _) (.cons (.str _) (.cons (.tup (newer_mk k3 (h3 _ _ _ upd_same)) (.cons (.str _) (.cons (.str _) (.cons (.tup (newer_mk n1 (h1 _ _ _ upd_same)) (.cons (.str _) (.cons (.str _) .nil))) (.cons (.tup (newer_mk k2 (h2 _ _ _ upd_same)) (.cons (.str _) (.cons (.int _) .nil))) .nil))))) (.cons (.tup (newer_mk k4 (h4 _ _ _ upd_same)) (.cons (.str _) (.cons (.int _) .nil))) .nil))))
theorem sc__law_apply : FnScope ["value", "entry", "expression"] ["value", "entry"] (defScope s__law_apply) := ⟨rfl, rfl, rfl, by decide +kernel, rfl, by decide +kernel, by decide +kernel⟩
theorem ok_la (T : Txt K w mg C) : Cal P w K mg base 1 "_law_apply" spLA := by
  refine cal_of T.d__law_apply sc__law_apply (fun vs H Q E h => ?_) (fun f cdv A outer s H vs Q E hr h => ?_)
  · obtain ⟨x, p, u, rfl, _⟩ := h
    rfl
  · obtain ⟨x, p, u, rfl, ⟨v, d, h1, h2, h3⟩, q⟩ := h
    have hu := hu_of hr
    refine ⟨_, (pss_cons (ps_set (i := 2) sc__law_apply.nd rfl (Or.inl rfl) (pe_ix ix_list (pv 1) pe_int (fun _ _ => rfl))) (pss_cons (ps_if (pt_cmpR op_eq (pe_ix ix_tup (pv 2) pe_int (fun _ _ => rfl)) pe_str (nomark _)) (pss_one (ps_ret (pe_ix ix_tup (pv 2) pe_int (fun _ _ => rfl)))) pss_nil) (pss_cons (ps_if (pt_cmpR op_eq (pe_ix ix_tup (pe_ix ix_tup (pv 2) pe_int (fun _ _ => rfl)) pe_int (fun _ _ => rfl)) pe_str (nomark _)) (pss_one (ps_ret (pe_op op_add (pv 0) (pe_dget hu (pe_ix ix_list (pv 1) pe_int (fun _ _ => rfl)) pe_str (fun _ _ => rfl))))) pss_nil) (pss_one (ps_ret (pe_op op_add (pe_callTy call_int1 (by rfl) T.z_int (by decide +kernel) (pa_cons (pe_op op_mul (pv 0) pe_int) pa_nil)) (pe_ix ix_tup (pe_ix ix_tup (pv 2) pe_int (fun _ _ => rfl)) pe_int (fun _ _ => rfl)))))))), ?_⟩
    refine ⟨_, rfl, p, _, 2, _, rfl, rfl, SqL.of h1, at2, ?_⟩
    obtain ⟨m, l, e, k⟩ := u
    cases e with
    | num i =>
      obtain ⟨a, y1, y2, rfl, ha, d1, d2⟩ := dq2 h2
      cases dqs d1
      cases dqi d2
      refine ⟨_, rfl, a, _, 0, _, rfl, rfl, SqT.of ha, at0, rfl, _, rfl, ite2 (fun _ => ?_) (fun c => absurd (by simp) c)⟩
      exact ⟨_, rfl, a, _, 1, _, rfl, rfl, SqT.of ha, at1, q⟩
    | ck =>
      obtain ⟨a, y1, y2, y3, y4, rfl, ha, d1, d2, d3, d4⟩ := dq4 h2
      cases dqs d1
      obtain ⟨b, z1, z2, rfl, hb, f1, f2⟩ := dq2 d4
      cases dqs f1
      refine ⟨_, rfl, a, _, 0, _, rfl, rfl, SqT.of ha, at0, rfl, _, rfl, ite2 (fun c => absurd c (neK (by decide +kernel))) (fun _ => ?_)⟩
      refine ⟨_, rfl, a, _, 3, _, rfl, rfl, SqT.of ha, at3, b, _, 0, _, rfl, rfl, SqT.of hb, at0, rfl, _, rfl, ite2 (fun _ => ?_) (fun c => absurd (by simp) c)⟩
      exact ⟨_, rfl, _, rfl, p, _, 3, _, rfl, rfl, SqL.of h1, at3, d, .int k, rfl, DGet.k (k := .inr "k") h3, _, _, rfl, rfl, q⟩
    | dbl i =>
      obtain ⟨a, y1, y2, y3, y4, rfl, ha, d1, d2, d3, d4⟩ := dq4 h2
      cases dqs d1
      obtain ⟨b, z1, z2, rfl, hb, f1, f2⟩ := dq2 d4
      cases dqs f1
      cases dqi f2
      refine ⟨_, rfl, a, _, 0, _, rfl, rfl, SqT.of ha, at0, rfl, _, rfl, ite2 (fun c => absurd c (neK (by decide +kernel))) (fun _ => ?_)⟩
      refine ⟨_, rfl, a, _, 3, _, rfl, rfl, SqT.of ha, at3, b, _, 0, _, rfl, rfl, SqT.of hb, at0, rfl, _, rfl, ite2 (fun c => absurd c (neK (by decide +kernel))) (fun _ => ?_)⟩
      exact ⟨_, rfl, _, _, rfl, rfl, .inr ⟨by decide, by decide⟩, .inl ⟨_, rfl, _, rfl, a, _, 3, _, rfl, rfl, SqT.of ha, at3, b, _, 1, _, rfl, rfl, SqT.of hb, at1, _, _, rfl, rfl, q⟩⟩
end
end VL

set_option Elab.async false
set_option linter.all false
set_option pp.maxSteps 700
set_option maxRecDepth 100000
set_option maxHeartbeats 4000000
namespace VL
open PySem PySem.Spec PyProof.Rows L2
def spLP : Sp := fun vs H Q _ => ∃ (sa L : Addr) (b v : Int) (sq : Addr) (ps : List Addr) (us : List Up) (ls : List Int) (G : Hp) (M : List (Addr × HO)), vs = [.ref sa, .ref L] ∧ Sb G H ((sq, .lst (ps.map V.ref)) :: M) ∧ G sa = some (.lst [.int b, .ref sq, .int v]) ∧ Paired (UpA G) ps us ∧ G L = some (.lst (ls.map V.int)) ∧ us.length ≤ 59 ∧
  ∀ sa' sq' ps' G' H', Sb G' H' ((sq', .lst (ps'.map V.ref)) :: (sq, .lst (ps.map V.ref)) :: M) → Same G G' → G' sa' = some (.lst [.int (prc ls b us).b, .ref sq', .int (prc ls b us).v]) → Paired (UpA G') ps' (prc ls b us).r → Q (.ref sa') H'
theorem cutV_1 (x : V) (xs : List V) : cutV (x :: xs) (some 1) none = xs := by
  unfold cutV
  have h1 : HT.sIx (x :: xs).length 0 (some 1) = 1 := by
    have := HT.sIx_nat (n := (x :: xs).length) (d := 0) (k := 1)
    rw [show ((1 : Nat) : Int) = 1 from rfl] at this
    rw [this]
    simp only [List.length_cons]
    omega
  have h2 : HT.sIx (x :: xs).length (x :: xs).length none = (x :: xs).length := rfl
  rw [h1, h2, List.length_cons]
  simp
section
variable {P : Program} {w : World} {K : PySem.W.Frag} {mg : Str → Option Value} {base : Heap} {C : Ad}
theorem sc__law_processed : FnScope ["state", "lanes", "base", "entry", "queue", "_law_turn", "value"] ["state", "lanes"] (defScope s__law_processed) := ⟨rfl, rfl, rfl, by decide +kernel, rfl, by decide +kernel, by decide +kernel⟩
theorem ok_lp (T : Txt K w mg C) : Cal P w K mg base 2 "_law_processed" spLP := by
  have G_law_apply : Cal P w K mg base 1 "_law_apply" spLA := ok_la T
  refine cal_of T.d__law_processed sc__law_processed (fun vs H Q E h => ?_) (fun f cdv A outer s H vs Q E hr h => ?_)
  · obtain ⟨sa, L, b, v, sq, ps, us, ls, G, M, rfl, _⟩ := h
    rfl
  · obtain ⟨sa, L, b, v, sq, ps, us, ls, G, M, rfl, S, hsa, pu, hL, ul, q⟩ := h
    have big : 100000 < sizeLine := by decide
    have pl := paired_ln pu
    refine ⟨_, (pss_cons (ps_set (i := 2) sc__law_processed.nd rfl (Or.inl rfl) (pe_ix ix_list (pv 0) pe_int (fun _ _ => rfl))) (pss_cons (ps_setLc (i := 4) (own := [("entry", 3)]) (g := gName 3) (tt := tYes) rfl sc__law_processed.nd rfl rfl (sw_true rfl rfl rfl (by decide +kernel)) (pi_list (pe_ix ix_list (pv 0) pe_int (fun _ _ => rfl))) (blkOk_by (N := ["state", "lanes", "base", "entry", "queue", "_law_turn", "value"]) (sc := (defScope s__law_processed)) (by decide +kernel)) (fun _ _ _ _ _ => pg_name (i := 3) sc__law_processed.nd rfl (Or.inl rfl)) (fun _ _ _ _ _ => pts_nil) (fun _ _ _ _ _ => (pe_lst (pa_cons (pe_or (pe_ix (ix_listS (K := K) rfl) (pv 3) pe_int (fun _ _ => rfl)) (pe_one (pe_cmpR (op_in_seqS (K := K) rfl) (pe_ix (ix_listS (K := K) rfl) (pv 3) pe_int (fun _ _ => rfl)) (pv 1) rfl))) (pa_cons (pe_ix (ix_listS (K := K) rfl) (pv 3) pe_int (fun _ _ => rfl)) (pa_cons (pe_ix (ix_listS (K := K) rfl) (pv 3) pe_int (fun _ _ => rfl)) (pa_cons (pe_ix (ix_listS (K := K) rfl) (pv 3) pe_int (fun _ _ => rfl)) pa_nil))))))) (C8.pss_cut (ps_for PassesOwn.never rfl (pi_range1 (by rfl) T.z_range (pa_cons pe_int pa_nil)) (pg_name (i := 5) sc__law_processed.nd rfl (Or.inl rfl)) (pss_cons (ps_if (PW.pt (pw_or (pt_cmpR op_eq (pe_callB call_len_seq (by rfl) T.z_len PySem.boot_len (pa_cons (pv 4) pa_nil)) pe_int (nomark _)) (pw_or1 (pt_not (pt_val (pe_ix ix_list (pe_ix ix_list (pv 4) pe_int (fun _ _ => rfl)) pe_int (fun _ _ => rfl))))))) (pss_one ps_break) pss_nil) (pss_cons (ps_set (i := 2) sc__law_processed.nd rfl (Or.inl rfl) (pe_c G_law_apply hr (by decide) (by rfl) (pa_cons (pv 2) (pa_cons (pe_ix ix_list (pv 4) pe_int (fun _ _ => rfl)) pa_nil)))) (pss_one (ps_set (i := 4) sc__law_processed.nd rfl (Or.inl rfl) (pe_slice sl_list (pv 4) (po_some pe_int) po_none)))))) (pss_cons (ps_set (i := 6) sc__law_processed.nd rfl (Or.inl rfl) (pv 2)) (C8.pss_cut (ps_for PassesOwn.never rfl (pi_list (pv 4)) (pg_name (i := 3) sc__law_processed.nd rfl (Or.inl rfl)) (pss_one (ps_if (pt_val (pe_ix ix_list (pv 3) pe_int (fun _ _ => rfl))) (pss_one (ps_set (i := 6) sc__law_processed.nd rfl (Or.inl rfl) (pe_c G_law_apply hr (by decide) (by rfl) (pa_cons (pv 6) (pa_cons (pv 3) pa_nil))))) pss_nil))) (pss_one (ps_ret (pe_lst (pa_cons (pv 2) (pa_cons (pv 4) (pa_cons (pv 6) pa_nil))))))))))), ?_⟩
    refine ⟨_, rfl, sa, _, 0, _, rfl, rfl, SqL.of (S.s _ _ hsa), at0, ?_⟩
    refine ⟨_, rfl, sa, _, 1, _, rfl, rfl, SqL.of (S.s _ _ hsa), at1, sq, rfl, ⟨_, SqL.of S.hd⟩, fun D hD => ?_⟩
    refine lc_it (walk_list (K := K) (a := sq) (xs := ps.map V.ref)) (fun i H' => ∃ (G1 : Hp) (rs : List Addr), Sb G1 H' ((D, .lst (rs.map V.ref)) :: (sq, .lst (ps.map V.ref)) :: M) ∧ Same G G1 ∧ Paired (UpA G1) rs ((us.take i).map (mrk ls))) ⟨G, [], S.add hD, SmM.refl, .nil⟩ (fun i H' _ ⟨G1, rs, S1, _⟩ => SqL.of S1.hd2) ?_ ?_
    · rintro i x H1 H2 hi ⟨G1, rs, S1, g1, pr⟩ ⟨rfl, hx⟩
      obtain ⟨p, u, rfl, hui, v1, d1, e1, e2, e3⟩ := paired_get (paired_same g1 pu) hx
      have tk : (us.take (i + 1)).map (mrk ls) = (us.take i).map (mrk ls) ++ [mrk ls u] := by rw [List.take_add_one, hui, List.map_append]; rfl
      have rl := paired_ln pr
      rw [List.length_map, List.length_take] at rl
      refine ⟨rfl, ?_⟩
      have hp := S1.s _ _ e1
      refine ⟨_, rfl, p, _, 0, _, rfl, rfl, SqL.of hp, at0, u.m, rfl, ?_⟩
      have fin : ∀ m : Bool, m = (mrk ls u).m → tCons (tOp (rIxL K) (tVar 3) (tC (V.int 1))) (tCons (tOp (rIxL K) (tVar 3) (tC (V.int 2))) (tCons (tOp (rIxL K) (tVar 3) (tC (V.int 3))) tNil)) [some (.ref sa), some (.ref L), some (.int b), some (.ref p), none, none, none] H2 (fun vs H4 => (.bl m :: vs).length ≤ sizeLine ∧ ∀ t, H4 t = none → ∃ acc, (upd H4 t (.lst (.bl m :: vs))) D = some (.lst acc) ∧ acc.length < sizeLine ∧ ∃ (G1 : Hp) (rs : List Addr), Sb G1 (upd (upd H4 t (.lst (.bl m :: vs))) D (.lst (acc ++ [.ref t]))) ((D, .lst (rs.map V.ref)) :: (sq, .lst (ps.map V.ref)) :: M) ∧ Same G G1 ∧ Paired (UpA G1) rs ((us.take (i + 1)).map (mrk ls))) := by
        intro m hm
        refine ⟨_, rfl, p, _, 1, _, rfl, rfl, SqL.of hp, at1, _, rfl, p, _, 2, _, rfl, rfl, SqL.of hp, at2, _, rfl, p, _, 3, _, rfl, rfl, SqL.of hp, at3, by show 4 ≤ sizeLine; decide, fun t ht => ?_⟩
        have S2 := S1.alloc (o := .lst [.bl m, .int u.l, v1, .ref d1]) ht
        have g2 := S1.grow (o := .lst [.bl m, .int u.l, v1, .ref d1]) ht
        refine ⟨_, S2.hd, by rw [List.length_map]; omega, _, rs ++ [t], by rw [List.map_append]; exact S2.put, SmM.trans g1 g2, ?_⟩
        rw [tk]
        refine paired_snc ⟨v1, d1, ?_, e2.same g2, g2 _ _ e3⟩ (paired_same g2 pr)
        rw [hm] <;> exact upd_same
      cases hm : u.m with
      | true =>
        refine iteT ?_
        exact fin true (by simp [mrk, hm])
      | false =>
        refine iteF ⟨_, rfl, p, _, 1, _, rfl, rfl, SqL.of hp, at1, _, rfl, L, _, rfl, .inl (SqL.of (S1.s _ _ (g1 _ _ hL))), rfl, flat_ints, ?_⟩
        rw [if_neg (by decide), inv_ints]
        exact fin _ (by simp [mrk, hm])
    · rintro H1 ⟨G1, rs, S1, g1, pr⟩
      rw [List.length_map, pl, List.take_length] at pr
      have ql : (us.map (mrk ls)).length ≤ 59 := by rw [List.length_map]; exact ul
      have epr := prc_lead us b (ls := ls)
      rw [epr] at q
      generalize us.map (mrk ls) = qus at pr ql q
      refine ⟨fun σ' H' => ∃ (G3 : Hp) (qa : Addr) (qs : List Addr) (b1 : Int) (us1 : List Up) (y5 : Option V), Sb G3 H' ((qa, .lst (qs.map V.ref)) :: (sq, .lst (ps.map V.ref)) :: M) ∧ Same G G3 ∧ Paired (UpA G3) qs us1 ∧ lead b qus = (b1, us1) ∧
        σ' = [some (.ref sa), some (.ref L), some (.int b1), none, some (.ref qa), y5, none], ?_, ?_⟩
      · refine ⟨_, rfl, by decide, by decide, ?_⟩
        refine for_it (walk_range (lo := 0) (n := (60 : Int).toNat)) (fun i σ H' => ∃ (G3 : Hp) (qa : Addr) (qs : List Addr) (b1 : Int) (us1 : List Up) (y5 : Option V), Sb G3 H' ((qa, .lst (qs.map V.ref)) :: (sq, .lst (ps.map V.ref)) :: M) ∧ Same G G3 ∧ Paired (UpA G3) qs us1 ∧ lead b qus = lead b1 us1 ∧ us1.length + i = qus.length ∧
          σ = [some (.ref sa), some (.ref L), some (.int b1), none, some (.ref qa), y5, none]) ⟨G1, D, rs, b, qus, none, S1, g1, pr, rfl, rfl, rfl⟩ (fun _ _ _ _ _ => trivial) ?_ ?_
        · rintro i x σ H2 H3 hi ⟨G3, qa, qs, b1, us1, y5, S3, g3, pr3, le, ln, rfl⟩ ⟨rfl, rfl⟩
          refine ⟨_, rfl, qa, _, rfl, .inl (SqL.of S3.hd), rfl, _, rfl, ?_⟩
          cases pr3 with
          | nil =>
            refine iteT (iteT ?_)
            exact ⟨G3, qa, [], b1, [], _, S3, g3, .nil, le, rfl⟩
          | @cons p u qs us1 pu1 pr3 =>
            refine ite2 (fun c => absurd (V.int.inj (of_decide_eq_true c)) (by simp only [List.map_cons, List.length_cons]; omega)) (fun _ => ?_)
            obtain ⟨v1, d1, e1, e2, e3⟩ := id pu1
            refine ⟨_, rfl, qa, _, 0, _, rfl, rfl, SqL.of S3.hd, at0, p, _, 0, _, rfl, rfl, SqL.of (S3.s _ _ e1), at0, u.m, rfl, ?_⟩
            cases hm : u.m with
            | false =>
              refine iteT ?_
              refine ⟨G3, qa, p :: qs, b1, u :: us1, _, S3, g3, .cons pu1 pr3, ?_, rfl⟩
              rw [le]
              simp [lead, hm]
            | true =>
              refine iteF ?_
              refine ⟨_, rfl, _, rfl, qa, _, 0, _, rfl, rfl, SqL.of S3.hd, at0, b1, p, u, rfl, pu1.same S3.s, ?_⟩
              refine ⟨_, rfl, _, rfl, qa, _, rfl, SqL.of S3.hd, fun t ht => ?_⟩
              rw [List.map_cons, cutV_1]
              have S4 := S3.add (o := .lst (qs.map V.ref)) ht
              obtain ⟨S5, g5⟩ := S4.swap.drop
              refine ⟨_, t, qs, ap b1 u, us1, _, S5, SmM.trans g3 g5, paired_same g5 pr3, ?_, by rw [← ln, List.length_cons]; omega, rfl⟩
              rw [le]
              simp [lead, hm]
        · rintro σ H2 ⟨G3, qa, qs, b1, us1, y5, S3, g3, pr3, le, ln, rfl⟩
          have : (60 : Int).toNat = 60 := rfl
          omega
      · rintro σ H2 ⟨G3, qa, qs, b1, us1, y5, S3, g3, pr3, le, rfl⟩
        rw [le] at q
        simp only at q
        have l3 := paired_ln pr3
        refine ⟨_, rfl, ?_⟩
        refine ⟨fun σ' H' => H' = H2 ∧ ∃ y3, σ' = [some (.ref sa), some (.ref L), some (.int b1), y3, some (.ref qa), y5, some (.int (valF b1 us1))], ?_, ?_⟩
        · refine ⟨_, rfl, qa, rfl, ⟨_, SqL.of S3.hd⟩, ?_⟩
          refine for_it (walk_list (K := K) (a := qa) (xs := qs.map V.ref)) (fun i σ H' => H' = H2 ∧ ∃ y3, σ = [some (.ref sa), some (.ref L), some (.int b1), y3, some (.ref qa), y5, some (.int (valF b1 (us1.take i)))]) ⟨rfl, _, rfl⟩ (fun i σ H' _ z => by rw [z.1]; exact SqL.of S3.hd) ?_ ?_
          · rintro i x σ H4 H5 hi ⟨e0, y3, rfl⟩ ⟨e00, hx⟩
            subst e00
            subst e0
            obtain ⟨p, u, rfl, hui, pu1⟩ := paired_get pr3 hx
            obtain ⟨v1, d1, e1, e2, e3⟩ := id pu1
            have tk : us1.take (i + 1) = us1.take i ++ [u] := by rw [List.take_add_one, hui]; rfl
            have vv : valF b1 (us1.take (i + 1)) = if u.m then ap (valF b1 (us1.take i)) u else valF b1 (us1.take i) := by rw [tk]; unfold valF; rw [List.foldl_append]; rfl
            refine ⟨_, rfl, p, _, 0, _, rfl, rfl, SqL.of (S3.s _ _ e1), at0, u.m, rfl, ?_⟩
            cases hm : u.m with
            | false =>
              rw [hm] at vv
              refine iteF ⟨rfl, some (.ref p), ?_⟩
              rw [vv] <;> rfl
            | true =>
              rw [hm] at vv
              refine iteT ⟨_, rfl, _, rfl, _, p, u, rfl, pu1.same S3.s, rfl, some (.ref p), ?_⟩
              rw [vv] <;> rfl
          · rintro σ H4 ⟨rfl, y3, rfl⟩
            rw [List.length_map, l3, List.take_length]
            exact ⟨rfl, _, rfl⟩
        · rintro σ H4 ⟨rfl, y3, rfl⟩
          refine ⟨_, rfl, _, rfl, _, rfl, by show 3 ≤ sizeLine; decide, fun t ht => ?_⟩
          have S6 := S3.alloc (o := .lst [.int b1, .ref qa, .int (valF b1 us1)]) ht
          have g6 := S3.grow (o := .lst [.int b1, .ref qa, .int (valF b1 us1)]) ht
          exact q t qa qs _ _ S6 (SmM.trans g3 g6) upd_same (paired_same g6 pr3)
end
end VL

set_option Elab.async false
set_option linter.all false
set_option pp.maxSteps 700
set_option maxRecDepth 100000
set_option maxHeartbeats 4000000
namespace VL
open PySem PySem.Spec PyProof.Rows L2
def spLS (CC : Addr) : Sp := fun vs H Q _ => ∃ (c : Addr) (b v : Int) (q : Addr) (ps : List Addr) (us : List Up) (sa sq : Addr) (sps : List Addr), vs = [.ref c, .ref sa] ∧ ObA CC H c b v q ∧ H q = some (.lst (ps.map V.ref)) ∧ Paired (UpA H) ps us ∧ H sa = some (.lst [.int b, .ref sq, .int v]) ∧ H sq = some (.lst (sps.map V.ref)) ∧ Paired (UpA H) sps us ∧ (∀ u ∈ us, OkU u) ∧ us.length ≤ 59 ∧ ∀ H', Same H H' → Q (.bl true) H'
theorem dpAll_ints {K : PySem.W.Frag} {H : Hp} : ∀ ns : List Int, DpAll K H (ns.map V.int) (ns.map PyData.int)
  | [] => .nil
  | a :: ns => .cons (.int a) (dpAll_ints ns)
theorem plain_ints (ns : List Int) : PyData.plain (.list (ns.map PyData.int)) = true := by
  show PyData.plainAll _ = true
  induction ns with
  | nil => rfl
  | cons a ns ih =>
    show (PyData.plain (.int a) && PyData.plainAll (ns.map PyData.int)) = true
    rw [ih]
    rfl
abbrev fL (us : List Up) (l : Int) : Bool := us.any fun u => !u.m && decide (u.l = l)
theorem fL_sn (us : List Up) (u : Up) (l : Int) : fL (us ++ [u]) l = (fL us l || (!u.m && decide (u.l = l))) := by simp [fL]
theorem four_take {i : Nat} (h : i < 4) : ([0, 1, 2, 3] : List Int).take (i + 1) = ([0, 1, 2, 3] : List Int).take i ++ [(i : Int)] := by
  rcases (show i = 0 ∨ i = 1 ∨ i = 2 ∨ i = 3 by omega) with rfl | rfl | rfl | rfl <;> rfl
section
variable {P : Program} {w : World} {K : PySem.W.Frag} {mg : Str → Option Value} {base : Heap} {C : Ad}
theorem sc__law_same : FnScope ["cell", "state", "k", "lanes", "lane", "e"] ["cell", "state"] (defScope s__law_same) := ⟨rfl, rfl, rfl, by decide +kernel, rfl, by decide +kernel, by decide +kernel⟩
theorem ok_ls (T : Txt K w mg C) : Cal P w K mg base 4 "_law_same" (spLS C.Cell) := by
  have Ppresent : Pro P w K mg base 2 C.Cell "present" (spPres C.Cell) := ok_present T
  have Popen_lanes : Pro P w K mg base 1 C.Cell "open_lanes" (spOpen C.Cell) := ok_open T
  refine cal_of T.d__law_same sc__law_same (fun vs H Q E h => ?_) (fun f cdv A outer s H vs Q E hr h => ?_)
  · obtain ⟨c, b, v, q, ps, us, sa, sq, sps, rfl, _⟩ := h
    rfl
  · obtain ⟨c, b, v, q, ps, us, sa, sq, sps, rfl, ob, hq, pu, hsa, hsq, spu, ok, ul, k⟩ := h
    have big : 100000 < sizeLine := by decide
    obtain ⟨dx, hc⟩ := id ob
    have l1 := paired_ln pu
    have l2 := paired_ln spu
    refine ⟨_, (pss_cons (ps_if (PW.pt (pw_or (pt_cmpR op_ne (pe_fld (pv 0) rfl) pe_str (nomark _)) (pw_or (pt_cmpR op_ne (pe_fld (pv 0) rfl) (pe_ix ix_list (pv 1) pe_int (fun _ _ => rfl)) (nomark _)) (pw_or (pt_cmpR op_ne (pe_pr Ppresent hr (by decide) (pv 0)) (pe_ix ix_list (pv 1) pe_int (fun _ _ => rfl)) (nomark _)) (pw_or1 (pt_cmpR op_ne (pe_callB call_len_seq (by rfl) T.z_len PySem.boot_len (pa_cons (pe_fld (pv 0) rfl) pa_nil)) (pe_callB call_len_seq (by rfl) T.z_len PySem.boot_len (pa_cons (pe_ix ix_list (pv 1) pe_int (fun _ _ => rfl)) pa_nil)) (nomark _))))))) (pss_one (ps_ret pe_bl)) pss_nil) (pss_cons (ps_for PassesOwn.never rfl (pi_range1 (by rfl) T.z_range (pa_cons (pe_callB call_len_seq (by rfl) T.z_len PySem.boot_len (pa_cons (pe_ix ix_list (pv 1) pe_int (fun _ _ => rfl)) pa_nil)) pa_nil)) (pg_name (i := 2) sc__law_same.nd rfl (Or.inl rfl)) (pss_one (ps_if (pt_cmpR (op_neQ hr.units) (pe_callTy call_list_of (by rfl) T.z_list (by decide +kernel) (pa_cons (pe_ix ix_list (pe_fld (pv 0) rfl) (pv 2) (fun _ _ => rfl)) pa_nil)) (pe_ix ix_list (pe_ix ix_list (pv 1) pe_int (fun _ _ => rfl)) (pv 2) (fun _ _ => rfl)) (nomark _)) (pss_one (ps_ret pe_bl)) pss_nil))) (pss_cons (ps_setLc (i := 3) (own := [("lane", 4)]) (g := gName 4) (tt := _) rfl sc__law_same.nd rfl rfl (sw_true rfl rfl rfl (by decide +kernel)) (pi_range1 (by rfl) T.z_range (pa_cons pe_int pa_nil)) (blkOk_by (N := ["cell", "state", "k", "lanes", "lane", "e"]) (sc := (defScope s__law_same)) (by decide +kernel)) (fun _ _ _ _ _ => pg_name (i := 4) sc__law_same.nd rfl (Or.inr rfl)) (fun _ _ _ _ _ => pts_one (pt_cmpR op_gt (pe_callB (call_len_seqS (K := K) rfl) (by rfl) T.z_len PySem.boot_len (pa_cons (pe_lc (own := [("e", 5)]) (g := gName 5) (tt := _) rfl sc__law_same.nd (pi_listS (K := K) rfl (pe_ix (ix_listS (K := K) rfl) (pv 1) pe_int (fun _ _ => rfl))) (by exact blkOk_by (by rfl)) (fun _ _ _ _ _ => pg_name (i := 5) sc__law_same.nd rfl (Or.inl rfl)) (fun _ _ _ _ _ => pts_one (PW.pt (pw_and (pt_not (pt_val (pe_ix (ix_listS (K := K) rfl) (pv 5) pe_int (fun _ _ => rfl)))) (pw_and1 (pt_cmpR op_eq (pe_ix (ix_listS (K := K) rfl) (pv 5) pe_int (fun _ _ => rfl)) (pv 4) (nomark _)))))) (fun _ _ _ _ _ => (pv 5))) pa_nil)) pe_int (nomark _))) (fun _ _ _ _ _ => (pv 4))) (pss_one (ps_ret (pe_cmpR (op_eqP (K := K) rfl hr.units) (pe_pr Popen_lanes hr (by decide) (pv 0)) (pv 3) (nomark _))))))), ?_⟩
    refine ⟨_, rfl, c, _, dx, _, _, rfl, hc, T.cl_Cell, T.n_Cell_name, fsC_name b v q, rfl, _, rfl, ite2 (fun c => absurd c (by simp)) (fun _ => ?_)⟩
    refine ⟨_, rfl, c, _, dx, _, _, rfl, hc, T.cl_Cell, T.n_Cell_base, fsC_base b v q, _, rfl, sa, _, 0, _, rfl, rfl, SqL.of hsa, at0, rfl, _, rfl, ite2 (fun c => absurd c (by simp)) (fun _ => ?_)⟩
    refine ⟨_, rfl, c, dx, _, rfl, hc, c, b, v, q, rfl, ob, _, rfl, sa, _, 2, _, rfl, rfl, SqL.of hsa, at2, rfl, _, rfl, ite2 (fun c => absurd c (by simp)) (fun _ => ?_)⟩
    refine ⟨_, rfl, c, _, dx, _, _, rfl, hc, T.cl_Cell, T.n_Cell_queue, fsC_queue b v q, q, _, rfl, .inl (SqL.of hq), _, rfl, sa, _, 1, _, rfl, rfl, SqL.of hsa, at1, sq, _, rfl, .inl (SqL.of hsq), rfl, _, rfl, ite2 (fun c => absurd c (by simp [l1, l2])) (fun _ => ?_)⟩
    refine ⟨_, rfl, sa, _, 1, _, rfl, rfl, SqL.of hsa, at1, sq, _, rfl, .inl (SqL.of hsq), _, rfl, by rw [List.length_map]; omega, by rw [List.length_map]; omega, ?_⟩
    refine for_it (walk_range (lo := 0) (n := (((sps.map V.ref).length : Nat) : Int).toNat)) (fun i σ H' => Same H H' ∧ ∃ y2, σ = [some (.ref c), some (.ref sa), y2, none, none, none]) ⟨SmM.refl, _, rfl⟩ (fun _ _ _ _ _ => trivial) ?_ ?_
    · rintro i x σ H1 H2 hi ⟨s1, y2, rfl⟩ ⟨rfl, rfl⟩
      have hi2 : i < us.length := by
        rw [List.length_map] at hi
        have : ((sps.length : Nat) : Int).toNat = sps.length := rfl
        omega
      obtain ⟨p, hp⟩ : ∃ p, ps[i]? = some p := ⟨_, List.getElem?_eq_getElem (by omega)⟩
      obtain ⟨p', hp'⟩ : ∃ p, sps[i]? = some p := ⟨_, List.getElem?_eq_getElem (by omega)⟩
      obtain ⟨_, u, e0, hu1, ua⟩ := paired_get pu (x := .ref p) (i := i) (by rw [List.getElem?_map, hp]; rfl)
      cases e0
      obtain ⟨_, u', e0, hu2, ub⟩ := paired_get spu (x := .ref p') (i := i) (by rw [List.getElem?_map, hp']; rfl)
      cases e0
      rw [hu1] at hu2
      cases hu2
      have atp : ∀ {zs : List Addr} {z : Addr}, zs[i]? = some z → atI (zs.map V.ref) (0 + (i : Int)) = some (.ref z) := fun {zs z} h => by
        unfold atI ixN
        have hl := (List.getElem?_eq_some_iff.mp h).1
        rw [Int.zero_add, if_pos (by omega), if_pos (by rw [List.length_map]; omega)]
        show (zs.map V.ref)[(i : Int).toNat]? = _
        rw [Int.toNat_natCast, List.getElem?_map, h]
        rfl
      have da := (ua.same s1).dq
      have db := (ub.same s1).dq
      obtain ⟨_, zs, e0, hz, dz⟩ := dq_list da
      cases e0
      refine ⟨_, rfl, c, _, dx, _, _, rfl, s1 _ _ hc, T.cl_Cell, T.n_Cell_queue, fsC_queue b v q, _, rfl, q, _, _, _, rfl, rfl, SqL.of (s1 _ _ hq), atp hp, p, _, rfl, .inl (SqL.of hz), fun l hl => ?_⟩
      have s2 := Sm.new (o := .lst zs) hl
      have dl : Dq (upd H2 l (.lst zs)) (.ref l) (.list [.bool u.m, .int u.l, encX u.e, .dict [(.str "k", .int u.k)]]) := .lst upd_same (dz.same s2)
      generalize upd H2 l (.lst zs) = H3 at s2 dl ⊢
      refine ⟨_, rfl, sa, _, 1, _, rfl, rfl, SqL.of (s2 _ _ (s1 _ _ hsa)), at1, _, rfl, sq, _, _, _, rfl, rfl, SqL.of (s2 _ _ (s1 _ _ hsq)), atp hp', _, ?_, dl, db.same s2, _, rfl, iteF ?_⟩
      · cases u.e <;> simp [encX, PyData.depth, PyData.depthAll, PyData.depthKv]
      exact ⟨SmM.trans s1 s2, _, rfl⟩
    · rintro σ H1 ⟨s1, y2, rfl⟩
      refine ⟨_, rfl, by decide, by decide, fun D hD => ?_⟩
      have hDH : H D = none := not_new s1 hD
      refine lc_it (walk_range (lo := 0) (n := (4 : Int).toNat)) (fun i H' => Same H H' ∧ H' D = some (.lst ((((([0, 1, 2, 3] : List Int).take i).filter (fL us))).map V.int))) ⟨SmM.trans s1 (Sm.new hD), upd_same⟩ (fun _ _ _ _ => trivial) ?_ ?_
      · rintro i x H2 H3 hi ⟨s2, hD2⟩ ⟨rfl, rfl⟩
        have hi4 : i < 4 := hi
        have tk4 := four_take hi4
        have fl : (([0, 1, 2, 3] : List Int).take i).length ≤ 4 := by rw [List.length_take]; omega
        have fl2 : ((([0, 1, 2, 3] : List Int).take i).filter (fL us)).length ≤ 4 := Nat.le_trans (List.length_filter_le _ _) fl
        refine ⟨rfl, ?_⟩
        refine ⟨_, rfl, sa, _, 1, _, rfl, rfl, SqL.of (s2 _ _ hsa), at1, sq, rfl, ⟨_, SqL.of (s2 _ _ hsq)⟩, fun D2 hD2' => ?_⟩
        have nD : D ≠ D2 := fun e => by rw [← e, hD2] at hD2'; exact (nomatch hD2')
        refine lc_it (walk_list (K := K) (a := sq) (xs := sps.map V.ref)) (fun j H' => Same H3 H' ∧ ∃ ys : List V, H' D2 = some (.lst ys) ∧ ys.length ≤ j ∧ decide (0 < ys.length) = fL (us.take j) (i : Int)) ⟨Sm.new hD2', [], upd_same, Nat.le_refl _, rfl⟩ (fun j H' _ z => SqL.of (z.1 _ _ (s2 _ _ hsq))) ?_ ?_
        · rintro j y H4 H5 hj ⟨s4, ys, hys, yl, ye⟩ ⟨rfl, hy⟩
          obtain ⟨p, u, rfl, hui, ua⟩ := paired_get spu hy
          obtain ⟨v1, d1, e1, e2, e3⟩ := (ua.same s2).same s4
          have tk : us.take (j + 1) = us.take j ++ [u] := by rw [List.take_add_one, hui]; rfl
          rw [List.length_map] at hj
          refine ⟨rfl, ?_⟩
          have keep : ∀ b : Bool, (!u.m && decide (u.l = (i : Int))) = b → b = false → Same H3 H5 ∧ ∃ ys : List V, H5 D2 = some (.lst ys) ∧ ys.length ≤ j + 1 ∧ decide (0 < ys.length) = fL (us.take (j + 1)) (i : Int) := fun b hb hf => by
            refine ⟨s4, ys, hys, by omega, ?_⟩
            rw [tk, fL_sn, ← ye, hb, hf, Bool.or_false]
          refine ⟨_, rfl, p, _, 0, _, rfl, rfl, SqL.of e1, at0, u.m, rfl, ?_⟩
          cases hm : u.m with
          | true =>
            refine iteF (iteF ?_)
            exact keep _ rfl (by rw [hm]; rfl)
          | false =>
            refine iteT ?_
            refine ⟨_, rfl, p, _, 1, _, rfl, rfl, SqL.of e1, at1, _, rfl, rfl, _, rfl, ?_⟩
            by_cases hl : u.l = (i : Int)
            · have e0 : decide (V.int u.l = V.int (0 + (i : Int))) = true := by simp [hl]
              show (if decide (V.int u.l = V.int (0 + (i : Int))) = true then _ else _)
              rw [e0]
              refine iteT ⟨_, rfl, ys, hys, by omega, fun b o eb => ?_, ys ++ [.ref p], upd_same, by rw [List.length_append, List.length_singleton]; omega, ?_⟩
              · rw [upd_ne (ne_of_none eb hD2')]
                exact s4 _ _ eb
              · rw [tk, fL_sn, hm, decide_eq_true hl]
                simp
            · have e0 : decide (V.int u.l = V.int (0 + (i : Int))) = false := by simp [hl]
              show (if decide (V.int u.l = V.int (0 + (i : Int))) = true then _ else _)
              rw [e0]
              refine iteF ?_
              exact keep _ rfl (by rw [hm, decide_eq_false hl]; rfl)
        · rintro H4 ⟨s4, ys, hys, yl, ye⟩
          rw [List.length_map, l2, List.take_length] at ye
          refine ⟨D2, ys, rfl, .inl (SqL.of hys), _, _, rfl, rfl, _, rfl, ?_⟩
          have s24 : ∀ b o, H3 b = some o → H4 b = some o := s4
          have e1 : decide ((0 : Int) < (ys.length : Int)) = fL us (i : Int) := by
            rw [← ye]
            by_cases z : 0 < ys.length
            · rw [decide_eq_true z, decide_eq_true (by omega)]
            · rw [decide_eq_false z, decide_eq_false (by omega)]
          rw [e1]
          cases hf : fL us (i : Int) with
          | true =>
            refine iteT ⟨_, rfl, _, s4 _ _ hD2, by rw [List.length_map]; omega, fun b o eb => ?_, ?_⟩
            · rw [upd_ne (ne_of_none eb hDH)]
              exact s4 _ _ (s2 _ _ eb)
            · rw [upd_same, tk4, List.filter_append, List.map_append]
              have : ([(i : Int)] : List Int).filter (fL us) = [(i : Int)] := by simp [hf]
              rw [this]
              simp
          | false =>
            refine iteF ⟨SmM.trans s2 s4, ?_⟩
            rw [tk4, List.filter_append]
            have : ([(i : Int)] : List Int).filter (fL us) = [] := by simp [hf]
            rw [this, List.append_nil]
            exact s4 _ _ hD2
      · rintro H2 ⟨s2, hD2⟩
        have e4 : (([0, 1, 2, 3] : List Int).take (4 : Int).toNat).filter (fL us) = openL us := rfl
        rw [e4] at hD2
        refine ⟨_, rfl, c, dx, _, rfl, s2 _ _ hc, c, b, v, q, ps, us, rfl, ob.same s2, s2 _ _ hq, paired_same s2 pu, ok, by omega, fun p H3 s3 hp => ?_⟩
        have pi := plain_ints (openL us)
        refine ⟨_, rfl, _, _, .lst (SqL.of hp) (dpAll_ints _), .lst (SqL.of (s3 _ _ hD2)) (dpAll_ints _), pi, pi, ?_, ?_⟩
        · have : ∀ l : List Int, PyData.depthAll (l.map PyData.int) = 0 := fun l => by
            induction l with
            | nil => rfl
            | cons a l ih =>
              show max (PyData.depth (.int a)) (PyData.depthAll (l.map PyData.int)) = 0
              rw [ih]
              rfl
          simp only [PyData.depth, this]
          omega
        · rw [PySem.SeqAt.eqv_refl_plain _ pi]
          exact k H3 (SmM.trans s2 s3)
end
end VL

set_option Elab.async false
set_option linter.all false
set_option pp.maxSteps 700
set_option maxRecDepth 100000
set_option maxHeartbeats 4000000
namespace VL
open PySem PySem.Spec PyProof.Rows L2
def spLaw (K : PySem.W.Frag) : Sp := fun vs H Q _ => ∃ (a : Addr) (ns : List Int), vs = [.ref a] ∧ SqL K H a (ns.map V.int) ∧ ns.length ≤ 63 ∧ ∀ H', Q (.bl true) H'
theorem lead_len : ∀ (us : List Up) (b : Int), (lead b us).2.length ≤ us.length
  | [], b => Nat.le_refl _
  | u :: us, b => by
    simp only [lead]
    split
    · have := lead_len us (ap b u)
      rw [List.length_cons]
      omega
    · exact Nat.le_refl _
/-- the cell and the law's state -/
structure CL (CC : Addr) (G H : Hp) (M : List (Addr × HO)) (ra : Addr) (R : List Int) (n : Nat) (c q : Addr) (ps : List Addr) (b v : Int) (us : List Up) (st sq : Addr) (sps : List Addr) (j : Nat) : Prop where
  S : Sb G H ((q, .lst (ps.map V.ref)) :: (sq, .lst (sps.map V.ref)) :: M)
  rw : G ra = some (.lst (R.map V.int))
  ob : ObA CC G c b v q
  st : G st = some (.lst [.int b, .ref sq, .int v])
  pu : Paired (UpA G) ps us
  spu : Paired (UpA G) sps us
  ok : ∀ u ∈ us, OkU u
  sm : Sml j b
  n : j + us.length ≤ n
  l : us.length ≤ 50
theorem CL.same {CC : Addr} {G H : Hp} {M : List (Addr × HO)} {ra : Addr} {R : List Int} {n : Nat} {c q : Addr} {ps : List Addr} {b v : Int} {us : List Up} {st sq : Addr} {sps : List Addr} {j : Nat}
    (W : CL CC G H M ra R n c q ps b v us st sq sps j) {G' H' : Hp} (S' : Sb G' H' ((q, .lst (ps.map V.ref)) :: (sq, .lst (sps.map V.ref)) :: M)) (g : Same G G') : CL CC G' H' M ra R n c q ps b v us st sq sps j :=
  ⟨S', g _ _ W.rw, W.ob.same g, g _ _ W.st, paired_same g W.pu, paired_same g W.spu, W.ok, W.sm, W.n, W.l⟩
theorem Sb.perm {G H : Hp} {M N : List (Addr × HO)} (h : M.Perm N) (S : Sb G H M) : Sb G H N := ⟨S.s, fun p hp => S.m p (h.mem_iff.mpr hp), (h.map _).nodup_iff.mp S.nd⟩
theorem P3 {α : Type} {a b c : α} {l : List α} : (a :: b :: c :: l).Perm (c :: a :: b :: l) := ((List.Perm.swap c b l).cons a).trans (List.Perm.swap c a (b :: l))
theorem Sb.has {G H : Hp} {M : List (Addr × HO)} {t : Addr} {o : HO} (S : Sb G H M) (hg : G t = none) (h : H t = some o) (hm : ∀ p ∈ M, p.1 ≠ t) : Sb G H ((t, o) :: M) := by
  refine ⟨S.s, fun p hp => ?_, ?_⟩
  · rcases List.mem_cons.mp hp with rfl | hp
    · exact ⟨hg, h⟩
    · exact S.m p hp
  · rw [List.map_cons, List.nodup_cons]
    refine ⟨fun hx => ?_, S.nd⟩
    obtain ⟨p, hp, e⟩ := List.mem_map.mp hx
    exact hm p hp e
theorem send_two {CC c d q : Addr} {b v l k : Int} {ps : List Addr} {x : V} {e : Ex} {G H : Hp} {M : List (Addr × HO)} {Q : VK} {E : XK} (S : Sb G H ((q, .lst (ps.map V.ref)) :: M)) (ob : ObA CC G c b v q) (hl : ps.length ≤ 50) (hx : Dq H x (encX e)) (hd : H d = some (.dK (eK k)))
    (k1 : ps.length < 50 → ∀ p G' H', Sb G' H' ((q, .lst ((ps ++ [p]).map V.ref)) :: M) → Same G G' → UpA G' p ⟨false, l, e, k⟩ → Q (.bl true) H') (k2 : ps.length = 50 → Q (.bl false) H) : spSend CC [.ref c, .int l, x, .ref d] H Q E :=
  ⟨c, b, v, q, ps, l, x, d, e, k, G, M, rfl, S, ob, hl, hx, hd, k1, k2⟩
theorem send_any {CC c d q : Addr} {b v l k : Int} {ps : List Addr} {x : V} {e : Ex} {G H : Hp} {M : List (Addr × HO)} {Q : VK} {E : XK} (S : Sb G H ((q, .lst (ps.map V.ref)) :: M)) (ob : ObA CC G c b v q) (hl : ps.length ≤ 50) (hx : Dq H x (encX e)) (hd : H d = some (.dK (eK k)))
    (kk : ∀ r psx G' H', Sb G' H' ((q, .lst (List.map V.ref psx)) :: M) → Same G G' → Q (.bl r) H') : spSend CC [.ref c, .int l, x, .ref d] H Q E :=
  send_two S ob hl hx hd (fun _ p G' H' S' g _ => kk _ (ps ++ [p]) G' H' S' g) fun _ => kk _ ps G H S SmM.refl
section
variable {P : Program} {w : World} {K : PySem.W.Frag} {mg : Str → Option Value} {base : Heap} {C : Ad}
theorem sc_law : FnScope ["script", "rows", "start", "cell", "state", "flood", "k", "row", "entry", "environment", "told", "lanes", "before", "made", "lane"] ["script"] (defScope s_law) := ⟨rfl, rfl, rfl, by decide +kernel, rfl, by decide +kernel, by decide +kernel⟩
theorem ok_law {f : Addr} {fd : FuncData} (F : Fun K "law" "law" s_law f fd) (T : Txt K w mg C) : FnOk P w K mg base CX0 12 f fd ["script"] (spLaw K) := by
  have KCell : Mak P w K mg base 2 "Cell" C.Cell (spInit C.Cell) := ok_init T
  have Msend : Met P w K mg base 7 C.Cell "send" (spSend C.Cell) := ok_send T
  have Mcopied : Met P w K mg base 8 C.Cell "copied" (spCopied C.Cell) := ok_cop T
  have Mprocessed : MetK P w K mg base 11 C.Cell "processed" (spProc C.Cell) 2 ["owner"] catG := ok_proc T
  have G_law_rows : Cal P w K mg base 1 "_law_rows" (spRows K) := ok_rows T
  have G_law_update : Cal P w K mg base 1 "_law_update" spLU := ok_lu T
  have G_law_same : Cal P w K mg base 4 "_law_same" (spLS C.Cell) := ok_ls T
  have G_law_processed : Cal P w K mg base 2 "_law_processed" spLP := ok_lp T
  obtain ⟨fE, fdE, psE, _, mE, FE, bE⟩ := (ok_eq (P := P) (base := base) T).ex
  refine F.ok sc_law (fun vs H Q E h => ?_) (fun cdv A outer s H vs Q E hr h => ?_)
  · obtain ⟨a, ns, rfl, _⟩ := h
    rfl
  · obtain ⟨sa, ns, rfl, hS, hlen, k⟩ := h
    have big : 100000 < sizeLine := by decide
    have hu := hu_of hr
    refine ⟨_, (pss_cons (ps_set (i := 1) sc_law.nd rfl (Or.inl rfl) (pe_c G_law_rows hr (by decide) (by rfl) (pa_cons (pv 0) (pa_cons pe_int pa_nil)))) (pss_cons (ps_set (i := 2) sc_law.nd rfl (Or.inl rfl) (pe_op op_mod (pe_callTy call_int1 (by rfl) T.z_int (by decide +kernel) (pa_cons (pe_ix ix_list (pv 1) pe_int (fun _ _ => rfl)) pa_nil)) pe_int)) (pss_cons (ps_set (i := 3) sc_law.nd rfl (Or.inl rfl) (pe_mk KCell hr (by decide) (by rfl) (pa_cons pe_str (pa_cons (pv 2) pa_nil)))) (pss_cons (ps_set (i := 4) sc_law.nd rfl (Or.inl rfl) (pe_lst (pa_cons (pv 2) (pa_cons (pe_lst pa_nil) (pa_cons (pv 2) pa_nil))))) (pss_cons (ps_set (i := 5) sc_law.nd rfl (Or.inl rfl) (pe_cmpR op_eq (pe_op op_mod (pe_op op_fdiv (pe_ix ix_list (pv 1) pe_int (fun _ _ => rfl)) pe_int) pe_int) pe_int (nomark _))) (pss_cons (ps_for PassesOwn.never rfl (pi_range2 (by rfl) T.z_range (pa_cons pe_int (pa_cons pe_int pa_nil))) (pg_name (i := 6) sc_law.nd rfl (Or.inl rfl)) (pss_cons (ps_set (i := 7) sc_law.nd rfl (Or.inr rfl) (pe_ix ix_list (pv 1) (pv 6) (fun _ _ => rfl))) (C8.pss_cut (ps_if (PW.pt (pw_or (pt_cmpR op_gt (pe_op op_mod (pv 7) pe_int) pe_int (nomark _)) (pw_or1 (pt_val (pv 5))))) (pss_cons (ps_set (i := 8) sc_law.nd rfl (Or.inl rfl) (pe_lst (pa_cons pe_bl (pa_cons (pe_op op_mod (pe_callTy call_int1 (by rfl) T.z_int (by decide +kernel) (pa_cons (pe_op op_fdiv (pv 7) pe_int) pa_nil)) pe_int) (pa_cons (pe_c G_law_update hr (by decide) (by rfl) (pa_cons (pe_op op_fdiv (pv 7) pe_int) pa_nil)) (pa_cons (pe_disp (pps_cons pe_str (pe_op op_mod (pe_callTy call_int1 (by rfl) T.z_int (by decide +kernel) (pa_cons (pe_op op_fdiv (pv 7) pe_int) pa_nil)) pe_int) pps_nil) (by rfl) (by rfl) (fun z => by cases z) (by decide)) pa_nil)))))) (pss_cons (ps_set (i := 9) sc_law.nd rfl (Or.inl rfl) (pe_callTy call_dictD (by rfl) T.z_dict (by decide +kernel) (pa_cons (pe_ix ix_list (pv 8) pe_int (fun _ _ => rfl)) pa_nil))) (pss_cons (ps_set (i := 10) sc_law.nd rfl (Or.inl rfl) (pe_mt Msend hr (by decide) (pv 3) (pa_cons (pe_ix ix_list (pv 8) pe_int (fun _ _ => rfl)) (pa_cons (pe_ix ix_list (pv 8) pe_int (fun _ _ => rfl)) (pa_cons (pv 9) pa_nil))))) (pss_cons (ps_dput hu (pv 9) pe_str pe_int rfl) (pss_cons (ps_if (PW.pt (pw_or (pt_cmpR op_ne (pv 10) (pe_cmpR op_lt (pe_callB call_len_seq (by rfl) T.z_len PySem.boot_len (pa_cons (pe_ix ix_list (pv 4) pe_int (fun _ _ => rfl)) pa_nil)) pe_int (nomark _)) (nomark _)) (pw_or1 (pt_not (pt_val (pe_callB call_isi (by rfl) T.z_isinstance (by decide +kernel) (pa_cons (pv 10) (pa_cons (pe_bltn (v := .ty "bool") (by rfl) T.z_bool (by decide +kernel) rfl) pa_nil)))))))) (pss_one (ps_ret pe_bl)) pss_nil) (pss_one (ps_if (pt_val (pv 10)) (pss_one (ps_expr (pe_bm PySem.F.plainAttrs_list PySem.F.slot_list_append PySem.F.type_list_append mt_append (pe_ix ix_list (pv 4) pe_int (fun _ _ => rfl)) (pa_cons (pv 8) pa_nil)))) pss_nil))))))) (pss_cons (ps_setLc (i := 11) (own := [("lane", 14)]) (g := gName 14) (tt := _) rfl sc_law.nd rfl rfl (sw_true rfl rfl rfl (by decide +kernel)) (pi_range1 (by rfl) T.z_range (pa_cons pe_int pa_nil)) (blkOk_by (N := ["script", "rows", "start", "cell", "state", "flood", "k", "row", "entry", "environment", "told", "lanes", "before", "made", "lane"]) (sc := (defScope s_law)) (by decide +kernel)) (fun _ _ _ _ _ => pg_name (i := 14) sc_law.nd rfl (Or.inl rfl)) (fun _ _ _ _ _ => pts_one (pt_cmpR op_eq (pe_op op_mod (pe_callTy call_int1 (by rfl) T.z_int (by decide +kernel) (pa_cons (pe_op op_fdiv (pv 7) (pe_ix (ix_listS (K := K) rfl) (pe_lst (pa_cons pe_int (pa_cons pe_int (pa_cons pe_int (pa_cons pe_int pa_nil))))) (pv 14) (fun _ _ => rfl))) pa_nil)) pe_int) pe_int (nomark _))) (fun _ _ _ _ _ => (pv 14))) (pss_cons (ps_set (i := 12) sc_law.nd rfl (Or.inl rfl) (pe_mt0 Mcopied hr (by decide) (pv 3))) (pss_cons (ps_set (i := 13) sc_law.nd rfl (Or.inl rfl) (pe_mtK Mprocessed hr (by decide) (pv 3) (pa_cons (pv 11) pa_nil) (pk_cons pe_int pk_nil))) (pss_cons (ps_if (PW.pt (pw_or (pt_not (pt_val (pe_c G_law_same hr (by decide) (by rfl) (pa_cons (pv 3) (pa_cons (pv 4) pa_nil))))) (pw_or (pt_not (pt_val (pe_c G_law_same hr (by decide) (by rfl) (pa_cons (pv 12) (pa_cons (pv 4) pa_nil))))) (pw_or1 (pt_cmpR (op_neIns FE T.ne_Cell.1 T.ne_Cell.2 mE.at_ mE.fn bE pass0 (hr.mono (by decide))) (pv 12) (pv 3) (nomark _)))))) (pss_one (ps_ret pe_bl)) pss_nil) (pss_cons (ps_expr (pe_mt Msend hr (by decide) (pv 3) (pa_cons pe_int (pa_cons (pe_tup (pa_cons pe_str (pa_cons pe_int pa_nil))) (pa_cons (pe_disp (pps_cons pe_str pe_int pps_nil) (by rfl) (by rfl) (fun z => by cases z) (by decide)) pa_nil))))) (pss_cons (ps_if (pt_cmpR op_ne (pe_callB call_len_seq (by rfl) T.z_len PySem.boot_len (pa_cons (pe_fld (pv 12) rfl) pa_nil)) (pe_callB call_len_seq (by rfl) T.z_len PySem.boot_len (pa_cons (pe_ix ix_list (pv 4) pe_int (fun _ _ => rfl)) pa_nil)) (nomark _)) (pss_one (ps_ret pe_bl)) pss_nil) (pss_cons (ps_set (i := 3) sc_law.nd rfl (Or.inl rfl) (pv 13)) (pss_one (ps_set (i := 4) sc_law.nd rfl (Or.inl rfl) (pe_c G_law_processed hr (by decide) (by rfl) (pa_cons (pv 4) (pa_cons (pv 11) pa_nil))))))))))))) (pss_one (ps_if (pt_not (pt_val (pe_c G_law_same hr (by decide) (by rfl) (pa_cons (pv 3) (pa_cons (pv 4) pa_nil))))) (pss_one (ps_ret pe_bl)) pss_nil))))) (pss_one (ps_ret pe_bl)))))))), ?_⟩
    refine ⟨_, rfl, sa, ns, 60, rfl, hS, hlen, by decide, fun ra R H1 s1 nra rw1 rl => ?_⟩
    have gR : ∀ (j : Int), 0 ≤ j → j < 60 → ∃ z, atI (R.map V.int) j = some (.int z) := fun j h0 h1 => map_int_atR h0 (by rw [rl]; exact h1)
    obtain ⟨z0, hz0⟩ := gR 0 (by decide) (by decide)
    have m0 : 0 ≤ z0 % 50 := Int.emod_nonneg _ (by decide)
    have m1 : z0 % 50 < 50 := Int.emod_lt_of_pos z0 (by decide)
    refine ⟨_, rfl, ra, _, _, .int z0, rfl, rfl, SqL.of rw1, hz0, .inl ⟨_, rfl, _, _, rfl, rfl, (by show (0 : Int) < 50; decide), ?_⟩⟩
    refine ⟨_, rfl, fun c dx hc hdx nx => ?_⟩
    have S1 := ((Sb.nil (H := H1)).call (Sm.new (o := .own c) hdx)).add (t := c) (o := .ins C.Cell dx []) (by rw [upd_ne nx.symm]; exact hc)
    have g1 : Same H1 (joinH H1 (newer H1 (upd H1 dx (.own c)))) := joinH_l
    generalize joinH H1 (newer H1 (upd H1 dx (.own c))) = G1 at S1 g1
    generalize hH2 : upd (upd H1 dx (.own c)) c (.ins C.Cell dx []) = H2 at S1 ⊢
    refine ⟨c, dx, z0 % 50, rfl, S1.hd, fun q H3 hq hc3 hq3 kp => ⟨rfl, ?_⟩⟩
    have S2 := S1.mod kp hc3
    have gq := S1.gnone hq
    have S3 := (S2.has gq hq3 (fun p hp e => by
      rw [List.mem_singleton.mp hp] at e
      have e : c = q := e
      have := S1.hd
      rw [e, hq] at this
      exact nomatch this)).swap.drop
    obtain ⟨S3, g3⟩ := S3
    have ob3 : ObA C.Cell (upd G1 c (.ins C.Cell dx (fsC (z0 % 50) (z0 % 50) q))) c (z0 % 50) (z0 % 50) q := ⟨dx, upd_same⟩
    generalize upd G1 c _ = G3 at S3 g3 ob3
    have rw3 := g3 _ _ (g1 _ _ rw1)
    refine ⟨_, rfl, by show 0 ≤ sizeLine; decide, fun sq hsq => ⟨_, rfl, by show 3 ≤ sizeLine; decide, fun st hst => ?_⟩⟩
    have S4 := ((S3.add (o := .lst []) hsq).swap).alloc (o := .lst [.int (z0 % 50), .ref sq, .int (z0 % 50)]) hst
    have g4 := ((S3.add (o := .lst []) hsq).swap).grow (o := .lst [.int (z0 % 50), .ref sq, .int (z0 % 50)]) hst
    have W0 : CL C.Cell _ _ [] ra R 0 c q [] (z0 % 50) (z0 % 50) [] st sq [] 0 := ⟨S4, g4 _ _ rw3, ob3.same g4, upd_same, .nil, .nil, (fun _ h => nomatch h), ⟨m0, by show z0 % 50 + 8 ≤ 58 * 1; omega⟩, Nat.le_refl _, Nat.zero_le _⟩
    refine ⟨_, rfl, ra, _, _, .int z0, rfl, rfl, SqL.of (S4.s _ _ (g4 _ _ rw3)), hz0, _, _, rfl, rfl, ⟨by decide, by decide⟩, _, _, rfl, rfl, (by show (0 : Int) < 6; decide), rfl, ?_⟩
    generalize upd G3 st _ = G4 at S4 g4 W0
    generalize upd (upd H3 sq _) st _ = H4 at S4 W0 ⊢
    clear S1 S2 S3 S4 hc3 hq3 kp gq ob3 rw3 g1 g3 g4 hq hsq hst hH2 rw1 nra s1
    generalize decide (V.int (z0 / 50 % 6) = V.int 0) = fl
    refine ⟨_, _, rfl, ⟨by decide, by decide, by decide, by decide⟩, ?_⟩
    refine for_range (lo := 1) (n := ((60 : Int) - 1).toNat) (fun i σ H' => ∃ (G : Hp) (c q : Addr) (ps : List Addr) (b v : Int) (us : List Up) (st sq : Addr) (sps : List Addr) (j : Nat) (y6 y7 y8 y9 y10 y11 y12 y13 y14 : Option V), CL C.Cell G H' [] ra R i c q ps b v us st sq sps j ∧
      σ = [some (.ref sa), some (.ref ra), some (.int (z0 % 50)), some (.ref c), some (.ref st), some (.bl fl), y6, y7, y8, y9, y10, y11, y12, y13, y14]) ⟨G4, c, q, [], _, _, [], st, sq, [], 0, none, none, none, none, none, none, none, none, none, W0, rfl⟩ ?_ ?_
    · rintro i σ H5 hi ⟨G, c, q, ps, b, v, us, st, sq, sps, j, y6, y7, y8, y9, y10, y11, y12, y13, y14, W, rfl⟩
      have hi' : i < 59 := hi
      obtain ⟨z, hz⟩ := gR (1 + (i : Int)) (by omega) (by omega)
      refine ⟨_, rfl, _, rfl, ra, _, _, .int z, rfl, rfl, SqL.of (W.S.s _ _ W.rw), hz, ?_⟩
      refine ⟨fun σ' H' => ∃ (G : Hp) (c q : Addr) (ps : List Addr) (b v : Int) (us : List Up) (st sq : Addr) (sps : List Addr) (j : Nat) (y6 y7 y8 y9 y10 y11 y12 y13 y14 : Option V), CL C.Cell G H' [] ra R (i + 1) c q ps b v us st sq sps j ∧
        σ' = [some (.ref sa), some (.ref ra), some (.int (z0 % 50)), some (.ref c), some (.ref st), some (.bl fl), y6, y7, y8, y9, y10, y11, y12, y13, y14], ?_, ?_⟩
      · refine ⟨_, rfl, _, _, rfl, rfl, (by show (0 : Int) < 3; decide), _, _, rfl, rfl, _, rfl, ite2 (fun _ => iteT ?S1) (fun _ => ⟨_, rfl, fl, rfl, ite2 (fun _ => ?S2) (fun _ => ?E)⟩)⟩
        case E =>
          refine ⟨_, rfl, by decide, by decide, fun D hD => ?_⟩
          have hDG := W.S.gnone hD
          refine lc_it (walk_range (lo := 0) (n := (4 : Int).toNat)) (fun i H' => Same H5 H' ∧ ∃ ls : List Int, H' D = some (.lst (ls.map V.int)) ∧ ls.length ≤ i) ⟨Sm.new hD, [], upd_same, Nat.le_refl _⟩ (fun _ _ _ _ => trivial) ?_ ?_
          · rintro i x H2 H3 hi ⟨s2, ls, hD2, ll⟩ ⟨rfl, rfl⟩
            have hi4 : i < 4 := hi
            refine ⟨rfl, ?_⟩
            obtain ⟨dv, hd1, hd2, hd3⟩ : ∃ d : Int, 0 < d ∧ d < 1073741824 ∧ atI [V.int 3, .int 6, .int 12, .int 24] (0 + (i : Int)) = some (.int d) := by
              rcases (show i = 0 ∨ i = 1 ∨ i = 2 ∨ i = 3 by omega) with rfl | rfl | rfl | rfl
              · exact ⟨3, by decide, by decide, rfl⟩
              · exact ⟨6, by decide, by decide, rfl⟩
              · exact ⟨12, by decide, by decide, rfl⟩
              · exact ⟨24, by decide, by decide, rfl⟩
            refine ⟨_, rfl, by show 4 ≤ sizeLine; decide, fun p hp => ?_⟩
            have nD : D ≠ p := fun e => by rw [← e, hD2] at hp; exact (nomatch hp)
            have s3 := Sm.new (o := .lst [V.int 3, .int 6, .int 12, .int 24]) hp
            refine ⟨_, rfl, p, _, _, _, rfl, rfl, SqL.of upd_same, hd3, _, _, rfl, rfl, ?_, ?_⟩
            · exact ⟨hd1, hd2⟩
            refine .inl ⟨_, rfl, _, _, rfl, rfl, (by show (0 : Int) < 2; decide), rfl, _, rfl, ?_⟩
            refine ite2 (fun _ => ?_) (fun _ => ?_)
            · refine ⟨_, rfl, _, s3 _ _ hD2, by rw [List.length_map]; omega, fun b o eb => ?_, ls ++ [(i : Int)], ?_, by rw [List.length_append, List.length_singleton]; omega⟩
              · rw [upd_ne (ne_of_none eb hD)]
                exact s3 _ _ (s2 _ _ eb)
              · rw [upd_same, List.map_append]
                simp
            · exact ⟨SmM.trans s2 s3, ls, s3 _ _ hD2, by omega⟩
          · rintro H6 ⟨s2, ls, hD2, ll⟩
            have S6 := W.S.call s2
            have g6 : Same G (joinH G (newer H5 H6)) := joinH_l
            have hDG6 : joinH G (newer H5 H6) D = some (.lst (ls.map V.int)) := joinH_r W.S.s _ _ (newer_mk hD hD2)
            generalize joinH G (newer H5 H6) = G6 at S6 g6 hDG6
            have W6 := W.same S6 g6
            have wl := W6.l
            have wn := W6.n
            obtain ⟨dx, hc⟩ := W6.ob.same S6.s
            refine ⟨_, rfl, c, dx, _, rfl, hc, rfl, c, b, v, q, ps, us, G6, _, rfl, S6, W6.ob, W6.pu, by omega, fun c1 q1 ps1 G7 H7 S7 g7 ob7 pu7 => ?_⟩
            have ob7c := W6.ob.same g7
            obtain ⟨dx, hc⟩ := ob7c.same S7.s
            refine ⟨_, rfl, c, dx, _, rfl, hc, rfl, _, rfl, rfl, rfl, c, b, v, q, ps, us, D, ls, _, j, G7, _, rfl, S7.swap, ob7c, paired_same g7 W6.pu, g7 _ _ hDG6, W6.sm, by omega, W6.ok, fun c2 q2 ps2 G8 H8 S8 g8 ob8 pu8 => ?_⟩
            have g68 := SmM.trans g7 g8
            have m3 : ∀ {G H : Hp} {p1 p2 p3 p4 : Addr × HO}, Sb G H [p1, p2, p3, p4] → H p3.1 = some p3.2 := fun S => (S.m _ (by simp)).2
            have m4 : ∀ {G H : Hp} {p1 p2 p3 p4 : Addr × HO}, Sb G H [p1, p2, p3, p4] → H p4.1 = some p4.2 := fun S => (S.m _ (by simp)).2
            refine ⟨_, rfl, _, rfl, c, b, v, q, ps, us, st, sq, sps, rfl, (ob7c.same g8).same S8.s, S8.hd2, paired_same S8.s (paired_same g68 W6.pu), S8.s _ _ (g68 _ _ W6.st), m4 S8, paired_same S8.s (paired_same g68 W6.spu), W6.ok, by omega, fun H9 s9 => ⟨true, rfl, iteF ?_⟩⟩
            obtain ⟨G9, S9, g9⟩ := S8.more s9
            have g79 := SmM.trans g8 g9
            have g69 := SmM.trans g68 g9
            refine ⟨_, rfl, _, rfl, c1, b, v, q1, ps1, us, st, sq, sps, rfl, (ob7.same g79).same S9.s, m3 S9, paired_same S9.s (paired_same g79 pu7), S9.s _ _ (g69 _ _ W6.st), m4 S9, paired_same S9.s (paired_same g69 W6.spu), W6.ok, by omega, fun H10 s10 => ⟨true, rfl, iteF ?_⟩⟩
            obtain ⟨G10, S10, g10⟩ := S9.more s10
            have g7a := SmM.trans g79 g10
            have g6a := SmM.trans g69 g10
            obtain ⟨dx1, i1⟩ := (ob7.same g7a).same S10.s
            obtain ⟨dx0, i0⟩ := (ob7c.same g7a).same S10.s
            refine ⟨_, rfl, _, rfl, ⟨c1, c, dx1, dx0, _, _, rfl, rfl, i1, i0, b, v, q1, q, ps1, ps, us, ⟨_, i1⟩, ⟨_, i0⟩, m3 S10, S10.hd2, paired_same S10.s (paired_same g7a pu7), paired_same S10.s (paired_same g6a W6.pu)⟩, fun H11 s11 => ⟨_, rfl, iteF ?_⟩⟩
            obtain ⟨G11, S11, g11⟩ := S10.more s11
            have g7b := SmM.trans g7a g11
            have g6b := SmM.trans g6a g11
            have g8b := SmM.trans g9 (SmM.trans g10 g11)
            obtain ⟨S12, g12⟩ := (S11.perm P3).drop
            have eq1 : upd G11 q1 (.lst (ps1.map V.ref)) q1 = some (.lst (ps1.map V.ref)) := upd_same
            generalize upd G11 q1 _ = G12 at S12 g12 eq1
            have g7c := SmM.trans g7b g12
            have g6c := SmM.trans g6b g12
            have g8c := SmM.trans g8b g12
            obtain ⟨dxc, hcc⟩ := (ob7c.same g7c).same S12.s
            refine ⟨_, rfl, c, dxc, _, rfl, hcc, rfl, by show 2 ≤ sizeLine; decide, fun t1 ht1 => ?_⟩
            have S13 := S12.swap.alloc (o := .tup [.str "number", .int 1]) ht1
            have g13 := S12.swap.grow (o := .tup [.str "number", .int 1]) ht1
            have dq1 : Dq (upd H11 t1 (.tup [.str "number", .int 1])) (.ref t1) (encX (.num 1)) := .tup upd_same (.cons (.str _) (.cons (.int _) .nil))
            refine fun d hd => ⟨upd_same, [(.inr "k", .int 1)], rfl, by show 1 ≤ 15; decide, ?_⟩
            rw [upd_upd]
            have em : mergeK ([] : List (Key × V)) [(.inr "k", .int 1)] = eK 1 := rfl
            rw [em]
            have S14 := S13.alloc (o := .dK (eK 1)) hd
            have g14 := S13.grow (o := .dK (eK 1)) hd
            have g7d := SmM.trans g7c (SmM.trans g13 g14)
            have g6d := SmM.trans g6c (SmM.trans g13 g14)
            have g8d := SmM.trans g8c (SmM.trans g13 g14)
            have ppl := paired_ln W6.pu
            have spl := paired_ln W6.spu
            have ppl1 := paired_ln pu7
            have eq1 := g14 _ _ (g13 _ _ eq1)
            generalize upd (upd G12 t1 _) d _ = G14 at S14 g7d g6d g8d eq1
            dsimp only [tNil]
            refine send_any (c := c) (d := d) (e := .num 1) (k := 1) S14 (ob7c.same g7d) (by omega) (dq1.same (Sm.new hd)) upd_same fun r psx G' H' S' g' => ?_
            obtain ⟨U, gU⟩ := S'.drop
            have gU := SmM.trans g' gU
            have g7e := SmM.trans g7d gU
            have g6e := SmM.trans g6d gU
            have g8e := SmM.trans g8d gU
            have stU := g6e _ _ W6.st
            obtain ⟨dxe, i1⟩ := (ob7.same g7e).same U.s
            refine ⟨_, rfl, c1, _, dxe, _, _, rfl, i1, T.cl_Cell, T.n_Cell_queue, fsC_queue b v q1, q1, _, rfl, .inl (SqL.of (U.s _ _ (gU _ _ eq1))), _, rfl, st, _, 1, _, rfl, rfl, SqL.of (U.s _ _ stU), at1, sq, _, rfl, .inl (SqL.of U.hd2), rfl, _, rfl, ite2 (fun c => absurd c (by simp [ppl1, spl])) (fun _ => ?_)⟩
            refine ⟨_, rfl, _, rfl, _, rfl, st, D, b, v, sq, sps, us, ls, _, _, rfl, U.swap, stU, paired_same g6e W6.spu, g6e _ _ hDG6, by omega, fun sa' sq' ps' G9' H9' S9' g9' est pu9 => ?_⟩
            obtain ⟨S10', g10'⟩ := S9'.swap.drop
            have gF := SmM.trans g9' g10'
            have g8f := SmM.trans g8e gF
            have g6f := SmM.trans g6e gF
            obtain ⟨pv, ⟨i', pb1, pb2, _⟩, po⟩ := prc_pi (ls := ls) W6.sm us W6.ok
            have WN : CL C.Cell _ _ [] ra R (i + 1) c2 q2 ps2 (prc ls b us).b (prc ls b us).v (prc ls b us).r sa' sq' ps' (j + i') := ⟨S10'.swap, g6f _ _ W6.rw, ob8.same g8f, g10' _ _ est, paired_same g8f pu8, paired_same g10' pu9, po, pb1, by omega, by omega⟩
            exact ⟨_, c2, q2, ps2, _, _, _, sa', sq', ps', _, _, _, _, _, _, _, _, _, _, WN, rfl⟩
        all_goals
          have l0 : 0 ≤ z / 3 % 4 := Int.emod_nonneg _ (by decide)
          have l1 : z / 3 % 4 < 4 := Int.emod_lt_of_pos _ (by decide)
          have k0 : 0 ≤ z / 400 % 7 := Int.emod_nonneg _ (by decide)
          have k1 : z / 400 % 7 < 7 := Int.emod_lt_of_pos _ (by decide)
          refine ⟨_, rfl, _, _, rfl, rfl, ⟨by decide, by decide⟩, .inl ⟨_, rfl, _, _, rfl, rfl, (by show (0 : Int) < 4; decide), ?_⟩⟩
          refine ⟨_, rfl, _, _, rfl, rfl, ⟨by decide, by decide⟩, _, rfl, fun x e H6 s6 hx he => ?_⟩
          have S6 := W.S.call s6
          have g6 : Same G (joinH G (newer H5 H6)) := joinH_l
          have hxG : Dq (joinH G (newer H5 H6)) x (encX e) := hx.same (joinH_r W.S.s)
          generalize joinH G (newer H5 H6) = G6 at S6 g6 hxG
          have W6 := W.same S6 g6
          refine fun d hd => ⟨_, rfl, _, _, rfl, rfl, ⟨by decide, by decide⟩, .inl ⟨_, rfl, _, _, rfl, rfl, (by show (0 : Int) < 7; decide), upd_same, [(.inr "k", .int (z / 400 % 7))], rfl, by show 1 ≤ 15; decide, ?_⟩⟩
          rw [upd_upd]
          have em : mergeK ([] : List (Key × V)) [(.inr "k", .int (z / 400 % 7))] = eK (z / 400 % 7) := rfl
          rw [em]
          have S7 := S6.alloc (o := .dK (eK (z / 400 % 7))) hd
          have g7 := S6.grow (o := .dK (eK (z / 400 % 7))) hd
          refine ⟨by show 4 ≤ sizeLine; decide, fun t ht => ?_⟩
          have S8 := S7.alloc (o := .lst [.bl false, .int (z / 3 % 4), x, .ref d]) ht
          have g8 := S7.grow (o := .lst [.bl false, .int (z / 3 % 4), x, .ref d]) ht
          have W8 := (W6.same S7 g7).same S8 g8
          have ut : UpA (upd (upd G6 d (.dK (eK (z / 400 % 7)))) t (.lst [.bl false, .int (z / 3 % 4), x, .ref d])) t ⟨false, z / 3 % 4, e, z / 400 % 7⟩ := ⟨x, d, upd_same, (hxG.same g7).same g8, g8 _ _ upd_same⟩
          generalize upd (upd G6 d _) t _ = G8 at S8 W8 ut
          generalize upd (upd H6 d _) t _ = H8 at S8 W8 ⊢
          obtain ⟨x', d', e1, e2, e3⟩ := id ut
          have e1H := S8.s _ _ e1
          refine ⟨_, rfl, t, _, 3, _, rfl, rfl, SqL.of e1H, at3, d', _, rfl, .inl (S8.s _ _ e3), fun de hde => ?_⟩
          have S9 := (S8.add (o := .dK (eK (z / 400 % 7))) hde).swap
          have e1I := S9.s _ _ e1
          have l50 : ps.length ≤ 50 := by have := paired_ln W8.pu; have := W8.l; omega
          obtain ⟨dxc, hcc⟩ := W8.ob.same S9.s
          refine ⟨_, rfl, c, dxc, _, rfl, hcc, rfl, _, rfl, t, _, 1, _, rfl, rfl, SqL.of e1I, at1, _, rfl, t, _, 2, _, rfl, rfl, SqL.of e1I, at2, _, rfl, c, b, v, q, ps, _, x', de, e, z / 400 % 7, G8, _, rfl, S9, W8.ob, l50, e2.same S9.s, S9.hd2, fun lt p G' H' S' g' up => ?_, fun eq => ?_⟩
          · refine ⟨_, rfl, de, _, rfl, DPut.k (k := .inr "k") S'.hd2 (by show 1 < _; decide), ?_⟩
            generalize hX : upd H' de _ = X
            have T1 : Sb G' X ((de, .dK (eK 99)) :: (q, .lst ((ps ++ [p]).map V.ref)) :: (sq, .lst (sps.map V.ref)) :: []) := by
              rw [← hX]
              exact S'.swap.put (u := .dK (eK 99))
            obtain ⟨T2, g2⟩ := T1.drop
            generalize upd G' de _ = G2 at T2 g2
            have stT := T2.s _ _ (g2 _ _ (g' _ _ W8.st))
            have sqT := T2.hd2
            have spl := paired_ln W8.spu
            have ppl := paired_ln W8.pu
            refine ⟨_, rfl, _, rfl, st, _, 1, _, rfl, rfl, SqL.of stT, at1, sq, _, rfl, .inl (SqL.of sqT), _, _, rfl, rfl, rfl, _, rfl, ?_⟩
            have dl : decide ((((sps.map V.ref).length : Nat) : Int) < 50) = true := by rw [List.length_map]; exact decide_eq_true (by omega)
            refine ite2 (fun c => by
              have c' : (!decide (V.bl true = V.bl (decide ((((sps.map V.ref).length : Nat) : Int) < 50)))) = true := c
              rw [dl] at c'
              exact absurd c' (by decide)) (fun _ => ?_)
            refine ⟨_, rfl, _, _, _, _, true, rfl, .ty _, .base (.bl _), by rfl, true, rfl, iteF ⟨_, rfl, true, rfl, iteT ?_⟩⟩
            refine ⟨_, rfl, st, _, 1, _, rfl, rfl, SqL.of stT, at1, .inl ⟨rfl, _, SqL.of sqT⟩, _, rfl, sq, _, _, rfl, rfl, sqT, by rw [List.length_map]; omega, ?_⟩
            have gg := SmM.trans g' g2
            have T3 : Sb G2 (upd X sq (.lst (sps.map V.ref ++ [.ref t]))) ((q, .lst ((ps ++ [p]).map V.ref)) :: (sq, .lst ((sps ++ [t]).map V.ref)) :: []) := by
              rw [List.map_append (l₁ := sps)]
              exact T2.put2
            suffices WN : CL C.Cell G2 (upd X sq (.lst (sps.map V.ref ++ [.ref t]))) [] ra R (i + 1) c q (ps ++ [p]) b v (us ++ [⟨false, z / 3 % 4, e, z / 400 % 7⟩]) st sq (sps ++ [t]) j from ⟨G2, c, q, ps ++ [p], b, v, _, st, sq, sps ++ [t], j, _, _, _, _, _, _, _, _, _, WN, rfl⟩
            refine ⟨T3, gg _ _ W8.rw, W8.ob.same gg, gg _ _ W8.st, paired_snc (up.same g2) (paired_same gg W8.pu), paired_snc (ut.same gg) (paired_same gg W8.spu), fun u hu => ?_, W8.sm, ?_, ?_⟩
            · rcases List.mem_append.mp hu with hu | hu
              · exact W8.ok u hu
              · rw [List.mem_singleton.mp hu]
                exact ⟨⟨l0, by show z / 3 % 4 ≤ 3; omega⟩, ⟨k0, by show z / 400 % 7 ≤ 6; omega⟩, he⟩
            · have := W8.n
              rw [List.length_append, List.length_singleton]
              omega
            · rw [List.length_append, List.length_singleton]
              omega
          · refine ⟨_, rfl, de, _, rfl, DPut.k (k := .inr "k") S9.hd2 (by show 1 < _; decide), ?_⟩
            generalize hX : upd (upd H8 de _) de _ = X
            have T1 : Sb G8 X ((de, .dK (eK 99)) :: (q, .lst (ps.map V.ref)) :: (sq, .lst (sps.map V.ref)) :: []) := by
              rw [← hX]
              exact S9.swap.put (u := .dK (eK 99))
            obtain ⟨T2, g2⟩ := T1.drop
            have stT := T2.s _ _ (g2 _ _ W8.st)
            have sqT := T2.hd2
            have spl := paired_ln W8.spu
            have ppl := paired_ln W8.pu
            refine ⟨_, rfl, _, rfl, st, _, 1, _, rfl, rfl, SqL.of stT, at1, sq, _, rfl, .inl (SqL.of sqT), _, _, rfl, rfl, rfl, _, rfl, ?_⟩
            have dl : decide ((((sps.map V.ref).length : Nat) : Int) < 50) = false := by rw [List.length_map]; exact decide_eq_false (by omega)
            refine ite2 (fun c => by
              have c' : (!decide (V.bl false = V.bl (decide ((((sps.map V.ref).length : Nat) : Int) < 50)))) = true := c
              rw [dl] at c'
              exact absurd c' (by decide)) (fun _ => ?_)
            refine ⟨_, rfl, _, _, _, _, true, rfl, .ty _, .base (.bl _), by rfl, true, rfl, iteF ⟨_, rfl, false, rfl, iteF ?_⟩⟩
            have W9 := W8.same T2 g2
            exact ⟨_, c, q, ps, b, v, us, st, sq, sps, j, _, _, _, _, _, _, _, _, _, { W9 with n := by have := W9.n; omega }, rfl⟩
      · rintro σ' H6 ⟨G, c, q, ps, b, v, us, st, sq, sps, j, y6, y7, y8, y9, y10, y11, y12, y13, y14, W, rfl⟩
        have wl := W.l
        refine ⟨_, rfl, _, rfl, c, b, v, q, ps, us, st, sq, sps, rfl, W.ob.same W.S.s, W.S.hd, paired_same W.S.s W.pu, W.S.s _ _ W.st, W.S.hd2, paired_same W.S.s W.spu, W.ok, by omega, fun H7 s7 => ⟨true, rfl, iteF ?_⟩⟩
        obtain ⟨G7, S7, g7⟩ := W.S.more s7
        exact ⟨G7, c, q, ps, b, v, us, st, sq, sps, j, _, _, _, _, _, _, _, _, _, W.same S7 g7, rfl⟩
    · rintro σ H5 ⟨G, c, q, ps, b, v, us, st, sq, sps, j, y6, y7, y8, y9, y10, y11, y12, y13, y14, W, rfl⟩
      exact k _
end
end VL

set_option Elab.async false
set_option linter.all false
set_option maxRecDepth 100000
set_option maxHeartbeats 4000000
namespace VL
open PySem PySem.Spec PyProof.Rows L2
theorem all_mk {l : PySem.W.OpenLaw} {w : World} {K : PySem.W.Frag} {h : Heap} {mg : Str → Option Value} {fa aCell aT_ACTIONS_signs aT_ACTIONS_evaluating f1 f2 f3 f4 f5 f6 f7 f8 f9 f10 f11 f12 f13 f14 f15 f16 f17 f18 f19 f20 p20 f21 p21 f22 f23 f24 f25 f26 f27 f28 f29 f30 f31 f32 f33 : Addr} (X : K.In h) (G : h.Ns mainGlobals mg) (hfa : mg "law" = some (.ref fa))
    {od1 an1 od2 an2 od3 an3 od4 an4 od5 an5 od6 an6 od7 an7 od8 an8 od9 an9 od10 an10 od11 an11 od12 an12 od13 an13 od14 an14 od15 an15 od16 an16 od17 an17 od18 an18 od19 an19 od20 an20 od21 an21 od22 an22 od23 an23 od24 an24 od25 an25 od26 an26 od27 an27 od28 an28 od29 an29 od30 an30 od31 an31 od32 an32 od33 an33 : Option Addr} {sl1 sl2 sl3 sl4 sl5 sl6 sl7 sl8 sl9 sl10 sl11 sl12 sl13 sl14 sl15 sl16 sl17 sl18 sl19 sl20 sl21 sl22 sl23 sl24 sl25 sl26 sl27 sl28 sl29 sl30 sl31 sl32 sl33 : Array (Option Value)} {v_LARGEST_NUMBER v_MOST_UPDATES oc1 kV1 dc1 pm1 cd1 ct1 oc2 kV2 dc2 pm2 cd2 ct2 oc3 kV3 dc3 pm3 cd3 ct3 oc4 kV4 dc4 pm4 cd4 ct4 oc5 kV5 dc5 pm5 cd5 ct5 oc6 kV6 dc6 pm6 cd6 ct6 oc7 kV7 dc7 pm7 cd7 ct7 oc8 kV8 dc8 pm8 cd8 ct8 oc9 kV9 dc9 pm9 cd9 ct9 oc10 kV10 dc10 pm10 cd10 ct10 oc11 kV11 dc11 pm11 cd11 ct11 oc12 kV12 dc12 pm12 cd12 ct12 oc13 kV13 dc13 pm13 cd13 ct13 oc14 kV14 dc14 pm14 cd14 ct14 oc15 kV15 dc15 pm15 cd15 ct15 oc16 kV16 dc16 pm16 cd16 ct16 oc17 kV17 dc17 pm17 cd17 ct17 oc18 kV18 dc18 pm18 cd18 ct18 oc19 kV19 dc19 pm19 cd19 ct19 oc20 kV20 dc20 pm20 cd20 ct20 oc21 kV21 dc21 pm21 cd21 ct21 oc22 kV22 dc22 pm22 cd22 ct22 oc23 kV23 dc23 pm23 cd23 ct23 oc24 kV24 dc24 pm24 cd24 ct24 oc25 kV25 dc25 pm25 cd25 ct25 oc26 kV26 dc26 pm26 cd26 ct26 oc27 kV27 dc27 pm27 cd27 ct27 oc28 kV28 dc28 pm28 cd28 ct28 oc29 kV29 dc29 pm29 cd29 ct29 oc30 kV30 dc30 pm30 cd30 ct30 oc31 kV31 dc31 pm31 cd31 ct31 oc32 kV32 dc32 pm32 cd32 ct32 oc33 kV33 dc33 pm33 cd33 ct33 : Value} {nT_ACTIONS_signs nT_ACTIONS_evaluating : Nat} {rs20 rs21 : List Value} {es_ACTIONS_signs es_ACTIONS_evaluating : Array DictEntry} 
    (q_Cell : PySem.W.nsIn K mainGlobals "Cell" = some (some (.ref aCell)))
    (pg_Cell : PySem.W.plainGet K aCell Str.empty = true)
    (hd_Cell : PySem.W.hasDictIn K aCell = true)
    (po_Cell : PySem.W.plainOver K aCell = true)
    (sa_Cell : PySem.W.findIn K (.ref aCell) "__setattr__" = some (some (.builtin "object.__setattr__")))
    (mk_Cell : PySem.W.makesIn K aCell = true)
    (kc_Cell : PySem.W.keepIn K (.ref aCell) = true)
    (ia_Cell : PySem.W.findIn K (.ref aCell) "__class__" = some (some (.builtin "object.__class__")))
    (ib_Cell : PySem.W.specialIn K (.builtin "object.__class__") "__get__" = some (some (.builtin "getset_descriptor.__get__")))
    (ix_Cell : PySem.W.takesIn K (.builtin "object.__class__") = some true)
    (id_Cell : PySem.W.mroIn K aCell (.type "object") = some true)
    (ie_Cell : PySem.W.kitOne K (.ref aCell) (.ref aCell) = some true)
    (nn_Cell : PySem.W.findIn K (.ref aCell) "__ne__" = some (some (.builtin "object.__ne__")))
    (nm_Cell : PySem.W.mroIn K aCell (.type "object") = some true)
    (n_Cell_name : PySem.W.findIn K (.ref aCell) "name" = some none)
    (n_Cell_base : PySem.W.findIn K (.ref aCell) "base" = some none)
    (n_Cell_queue : PySem.W.findIn K (.ref aCell) "queue" = some none)
    (n_Cell_value : PySem.W.findIn K (.ref aCell) "value" = some none)
    (z_NotImplemented : PySem.W.nsIn K mainGlobals "NotImplemented" = some none)
    (z_abs : PySem.W.nsIn K mainGlobals "abs" = some none)
    (z_bool : PySem.W.nsIn K mainGlobals "bool" = some none)
    (z_dict : PySem.W.nsIn K mainGlobals "dict" = some none)
    (z_int : PySem.W.nsIn K mainGlobals "int" = some none)
    (z_isinstance : PySem.W.nsIn K mainGlobals "isinstance" = some none)
    (z_len : PySem.W.nsIn K mainGlobals "len" = some none)
    (z_list : PySem.W.nsIn K mainGlobals "list" = some none)
    (z_property : PySem.W.nsIn K mainGlobals "property" = some none)
    (z_range : PySem.W.nsIn K mainGlobals "range" = some none)
    (z_sorted : PySem.W.nsIn K mainGlobals "sorted" = some none)
    (z_str : PySem.W.nsIn K mainGlobals "str" = some none)
    (z_tuple : PySem.W.nsIn K mainGlobals "tuple" = some none)
    (z_zip : PySem.W.nsIn K mainGlobals "zip" = some none)
    (g_LARGEST_NUMBER : PySem.W.nsIn K mainGlobals "LARGEST_NUMBER" = some (some v_LARGEST_NUMBER))
    (r_LARGEST_NUMBER : RelV (V.int 1000000000000000000000000000000) v_LARGEST_NUMBER)
    (g_MOST_UPDATES : PySem.W.nsIn K mainGlobals "MOST_UPDATES" = some (some v_MOST_UPDATES))
    (r_MOST_UPDATES : RelV (V.int 50) v_MOST_UPDATES)
    (gT_ACTIONS_signs : PySem.W.nsIn K mainGlobals "ACTIONS_signs" = some (some (.ref aT_ACTIONS_signs)))
    (lT_ACTIONS_signs : K.lookup aT_ACTIONS_signs = some ⟨.type "dict", none, .dict es_ACTIONS_signs nT_ACTIONS_signs, #[]⟩)
    (tT_ACTIONS_signs : PySem.W.KeysLit w.params es_ACTIONS_signs.toList)
    (eT_ACTIONS_signs_0 : PySem.W.nsIn K aT_ACTIONS_signs "+" = some (some (.ref f12)))
    (eT_ACTIONS_signs_1 : PySem.W.nsIn K aT_ACTIONS_signs "*" = some (some (.ref f13)))
    (gT_ACTIONS_evaluating : PySem.W.nsIn K mainGlobals "ACTIONS_evaluating" = some (some (.ref aT_ACTIONS_evaluating)))
    (lT_ACTIONS_evaluating : K.lookup aT_ACTIONS_evaluating = some ⟨.type "dict", none, .dict es_ACTIONS_evaluating nT_ACTIONS_evaluating, #[]⟩)
    (tT_ACTIONS_evaluating : PySem.W.KeysLit w.params es_ACTIONS_evaluating.toList)
    (eT_ACTIONS_evaluating_0 : PySem.W.nsIn K aT_ACTIONS_evaluating "number" = some (some (.ref f16)))
    (eT_ACTIONS_evaluating_1 : PySem.W.nsIn K aT_ACTIONS_evaluating "name" = some (some (.ref f17)))
    (eT_ACTIONS_evaluating_2 : PySem.W.nsIn K aT_ACTIONS_evaluating "binary" = some (some (.ref f18)))
    (a1 : PySem.W.nsIn K mainGlobals "is_number" = some (some (.ref f1)))
    (l1 : K.lookup f1 = some ⟨oc1, od1, .func (PySem.W.fnOf "is_number" "is_number" (defArgs s_is_number) (defBody s_is_number) (defScope s_is_number) .none kV1 dc1 pm1 an1 cd1 ct1), sl1⟩)
    (c1 : PySem.W.codeIn K cd1 "is_number" = true)
    (k1 : PySem.W.keepIn K (.ref f1) = true)
    (a2 : PySem.W.nsIn K mainGlobals "same" = some (some (.ref f2)))
    (l2 : K.lookup f2 = some ⟨oc2, od2, .func (PySem.W.fnOf "same" "same" (defArgs s_same) (defBody s_same) (defScope s_same) .none kV2 dc2 pm2 an2 cd2 ct2), sl2⟩)
    (c2 : PySem.W.codeIn K cd2 "same" = true)
    (k2 : PySem.W.keepIn K (.ref f2) = true)
    (a3 : PySem.W.nsIn K mainGlobals "same_records" = some (some (.ref f3)))
    (l3 : K.lookup f3 = some ⟨oc3, od3, .func (PySem.W.fnOf "same_records" "same_records" (defArgs s_same_records) (defBody s_same_records) (defScope s_same_records) .none kV3 dc3 pm3 an3 cd3 ct3), sl3⟩)
    (c3 : PySem.W.codeIn K cd3 "same_records" = true)
    (k3 : PySem.W.keepIn K (.ref f3) = true)
    (a4 : PySem.W.nsIn K mainGlobals "copied" = some (some (.ref f4)))
    (l4 : K.lookup f4 = some ⟨oc4, od4, .func (PySem.W.fnOf "copied" "copied" (defArgs s_copied) (defBody s_copied) (defScope s_copied) .none kV4 dc4 pm4 an4 cd4 ct4), sl4⟩)
    (c4 : PySem.W.codeIn K cd4 "copied" = true)
    (k4 : PySem.W.keepIn K (.ref f4) = true)
    (a5 : PySem.W.nsIn K mainGlobals "copy_of" = some (some (.ref f5)))
    (l5 : K.lookup f5 = some ⟨oc5, od5, .func (PySem.W.fnOf "copy_of" "copy_of" (defArgs s_copy_of) (defBody s_copy_of) (defScope s_copy_of) .none kV5 dc5 pm5 an5 cd5 ct5), sl5⟩)
    (c5 : PySem.W.codeIn K cd5 "copy_of" = true)
    (k5 : PySem.W.keepIn K (.ref f5) = true)
    (a6 : PySem.W.nsIn K mainGlobals "copied_names" = some (some (.ref f6)))
    (l6 : K.lookup f6 = some ⟨oc6, od6, .func (PySem.W.fnOf "copied_names" "copied_names" (defArgs s_copied_names) (defBody s_copied_names) (defScope s_copied_names) .none kV6 dc6 pm6 an6 cd6 ct6), sl6⟩)
    (c6 : PySem.W.codeIn K cd6 "copied_names" = true)
    (k6 : PySem.W.keepIn K (.ref f6) = true)
    (a7 : PySem.W.nsIn K mainGlobals "copied_source" = some (some (.ref f7)))
    (l7 : K.lookup f7 = some ⟨oc7, od7, .func (PySem.W.fnOf "copied_source" "copied_source" (defArgs s_copied_source) (defBody s_copied_source) (defScope s_copied_source) .none kV7 dc7 pm7 an7 cd7 ct7), sl7⟩)
    (c7 : PySem.W.codeIn K cd7 "copied_source" = true)
    (k7 : PySem.W.keepIn K (.ref f7) = true)
    (a8 : PySem.W.nsIn K mainGlobals "bounded_number" = some (some (.ref f8)))
    (l8 : K.lookup f8 = some ⟨oc8, od8, .func (PySem.W.fnOf "bounded_number" "bounded_number" (defArgs s_bounded_number) (defBody s_bounded_number) (defScope s_bounded_number) .none kV8 dc8 pm8 an8 cd8 ct8), sl8⟩)
    (c8 : PySem.W.codeIn K cd8 "bounded_number" = true)
    (k8 : PySem.W.keepIn K (.ref f8) = true)
    (a9 : PySem.W.nsIn K mainGlobals "need_truth" = some (some (.ref f9)))
    (l9 : K.lookup f9 = some ⟨oc9, od9, .func (PySem.W.fnOf "need_truth" "need_truth" (defArgs s_need_truth) (defBody s_need_truth) (defScope s_need_truth) .none kV9 dc9 pm9 an9 cd9 ct9), sl9⟩)
    (c9 : PySem.W.codeIn K cd9 "need_truth" = true)
    (k9 : PySem.W.keepIn K (.ref f9) = true)
    (a10 : PySem.W.nsIn K mainGlobals "need_number" = some (some (.ref f10)))
    (l10 : K.lookup f10 = some ⟨oc10, od10, .func (PySem.W.fnOf "need_number" "need_number" (defArgs s_need_number) (defBody s_need_number) (defScope s_need_number) .none kV10 dc10 pm10 an10 cd10 ct10), sl10⟩)
    (c10 : PySem.W.codeIn K cd10 "need_number" = true)
    (k10 : PySem.W.keepIn K (.ref f10) = true)
    (a11 : PySem.W.nsIn K mainGlobals "sign_value" = some (some (.ref f11)))
    (l11 : K.lookup f11 = some ⟨oc11, od11, .func (PySem.W.fnOf "sign_value" "sign_value" (defArgs s_sign_value) (defBody s_sign_value) (defScope s_sign_value) .none kV11 dc11 pm11 an11 cd11 ct11), sl11⟩)
    (c11 : PySem.W.codeIn K cd11 "sign_value" = true)
    (k11 : PySem.W.keepIn K (.ref f11) = true)
    (a12 : PySem.W.nsIn K mainGlobals "added" = some (some (.ref f12)))
    (l12 : K.lookup f12 = some ⟨oc12, od12, .func (PySem.W.fnOf "added" "added" (defArgs s_added) (defBody s_added) (defScope s_added) .none kV12 dc12 pm12 an12 cd12 ct12), sl12⟩)
    (c12 : PySem.W.codeIn K cd12 "added" = true)
    (k12 : PySem.W.keepIn K (.ref f12) = true)
    (a13 : PySem.W.nsIn K mainGlobals "multiplied" = some (some (.ref f13)))
    (l13 : K.lookup f13 = some ⟨oc13, od13, .func (PySem.W.fnOf "multiplied" "multiplied" (defArgs s_multiplied) (defBody s_multiplied) (defScope s_multiplied) .none kV13 dc13 pm13 an13 cd13 ct13), sl13⟩)
    (c13 : PySem.W.codeIn K cd13 "multiplied" = true)
    (k13 : PySem.W.keepIn K (.ref f13) = true)
    (a14 : PySem.W.nsIn K mainGlobals "evaluate" = some (some (.ref f14)))
    (l14 : K.lookup f14 = some ⟨oc14, od14, .func (PySem.W.fnOf "evaluate" "evaluate" (defArgs s_evaluate) (defBody s_evaluate) (defScope s_evaluate) .none kV14 dc14 pm14 an14 cd14 ct14), sl14⟩)
    (c14 : PySem.W.codeIn K cd14 "evaluate" = true)
    (k14 : PySem.W.keepIn K (.ref f14) = true)
    (a15 : PySem.W.nsIn K mainGlobals "value_of" = some (some (.ref f15)))
    (l15 : K.lookup f15 = some ⟨oc15, od15, .func (PySem.W.fnOf "value_of" "value_of" (defArgs s_value_of) (defBody s_value_of) (defScope s_value_of) .none kV15 dc15 pm15 an15 cd15 ct15), sl15⟩)
    (c15 : PySem.W.codeIn K cd15 "value_of" = true)
    (k15 : PySem.W.keepIn K (.ref f15) = true)
    (a16 : PySem.W.nsIn K mainGlobals "written_value" = some (some (.ref f16)))
    (l16 : K.lookup f16 = some ⟨oc16, od16, .func (PySem.W.fnOf "written_value" "written_value" (defArgs s_written_value) (defBody s_written_value) (defScope s_written_value) .none kV16 dc16 pm16 an16 cd16 ct16), sl16⟩)
    (c16 : PySem.W.codeIn K cd16 "written_value" = true)
    (k16 : PySem.W.keepIn K (.ref f16) = true)
    (a17 : PySem.W.nsIn K mainGlobals "name_value" = some (some (.ref f17)))
    (l17 : K.lookup f17 = some ⟨oc17, od17, .func (PySem.W.fnOf "name_value" "name_value" (defArgs s_name_value) (defBody s_name_value) (defScope s_name_value) .none kV17 dc17 pm17 an17 cd17 ct17), sl17⟩)
    (c17 : PySem.W.codeIn K cd17 "name_value" = true)
    (k17 : PySem.W.keepIn K (.ref f17) = true)
    (a18 : PySem.W.nsIn K mainGlobals "binary_value" = some (some (.ref f18)))
    (l18 : K.lookup f18 = some ⟨oc18, od18, .func (PySem.W.fnOf "binary_value" "binary_value" (defArgs s_binary_value) (defBody s_binary_value) (defScope s_binary_value) .none kV18 dc18 pm18 an18 cd18 ct18), sl18⟩)
    (c18 : PySem.W.codeIn K cd18 "binary_value" = true)
    (k18 : PySem.W.keepIn K (.ref f18) = true)
    (a19 : PySem.W.findIn K (.ref aCell) "__init__" = some (some (.ref f19)))
    (i19 : PySem.W.isFn K (.ref f19) = true)
    (l19 : K.lookup f19 = some ⟨oc19, od19, .func (PySem.W.fnOf "__init__" "Cell.__init__" (defArgs s_Cell___init__) (defBody s_Cell___init__) (defScope s_Cell___init__) .none kV19 dc19 pm19 an19 cd19 ct19), sl19⟩)
    (c19 : PySem.W.codeIn K cd19 "Cell.__init__" = true)
    (k19 : PySem.W.keepIn K (.ref f19) = true)
    (a20 : PySem.W.findIn K (.ref aCell) "present" = some (some (.ref p20)))
    (pq20 : PySem.W.specialIn K (.ref p20) "__get__" = some (some (.builtin "property.__get__")))
    (pt20 : PySem.W.takesIn K (.ref p20) = some true)
    (pr20 : PySem.W.recIn K p20 "property" = some (.ref f20 :: rs20))
    (l20 : K.lookup f20 = some ⟨oc20, od20, .func (PySem.W.fnOf "present" "Cell.present" (defArgs s_Cell_present) (defBody s_Cell_present) (defScope s_Cell_present) .none kV20 dc20 pm20 an20 cd20 ct20), sl20⟩)
    (c20 : PySem.W.codeIn K cd20 "Cell.present" = true)
    (k20 : PySem.W.keepIn K (.ref f20) = true)
    (a21 : PySem.W.findIn K (.ref aCell) "open_lanes" = some (some (.ref p21)))
    (pq21 : PySem.W.specialIn K (.ref p21) "__get__" = some (some (.builtin "property.__get__")))
    (pt21 : PySem.W.takesIn K (.ref p21) = some true)
    (pr21 : PySem.W.recIn K p21 "property" = some (.ref f21 :: rs21))
    (l21 : K.lookup f21 = some ⟨oc21, od21, .func (PySem.W.fnOf "open_lanes" "Cell.open_lanes" (defArgs s_Cell_open_lanes) (defBody s_Cell_open_lanes) (defScope s_Cell_open_lanes) .none kV21 dc21 pm21 an21 cd21 ct21), sl21⟩)
    (c21 : PySem.W.codeIn K cd21 "Cell.open_lanes" = true)
    (k21 : PySem.W.keepIn K (.ref f21) = true)
    (a22 : PySem.W.findIn K (.ref aCell) "__eq__" = some (some (.ref f22)))
    (i22 : PySem.W.isFn K (.ref f22) = true)
    (l22 : K.lookup f22 = some ⟨oc22, od22, .func (PySem.W.fnOf "__eq__" "Cell.__eq__" (defArgs s_Cell___eq__) (defBody s_Cell___eq__) (defScope s_Cell___eq__) .none kV22 dc22 pm22 an22 cd22 ct22), sl22⟩)
    (c22 : PySem.W.codeIn K cd22 "Cell.__eq__" = true)
    (k22 : PySem.W.keepIn K (.ref f22) = true)
    (a23 : PySem.W.findIn K (.ref aCell) "send" = some (some (.ref f23)))
    (i23 : PySem.W.isFn K (.ref f23) = true)
    (l23 : K.lookup f23 = some ⟨oc23, od23, .func (PySem.W.fnOf "send" "Cell.send" (defArgs s_Cell_send) (defBody s_Cell_send) (defScope s_Cell_send) .none kV23 dc23 pm23 an23 cd23 ct23), sl23⟩)
    (c23 : PySem.W.codeIn K cd23 "Cell.send" = true)
    (k23 : PySem.W.keepIn K (.ref f23) = true)
    (a24 : PySem.W.findIn K (.ref aCell) "copied" = some (some (.ref f24)))
    (i24 : PySem.W.isFn K (.ref f24) = true)
    (l24 : K.lookup f24 = some ⟨oc24, od24, .func (PySem.W.fnOf "copied" "Cell.copied" (defArgs s_Cell_copied) (defBody s_Cell_copied) (defScope s_Cell_copied) .none kV24 dc24 pm24 an24 cd24 ct24), sl24⟩)
    (c24 : PySem.W.codeIn K cd24 "Cell.copied" = true)
    (k24 : PySem.W.keepIn K (.ref f24) = true)
    (a25 : PySem.W.findIn K (.ref aCell) "processed" = some (some (.ref f25)))
    (i25 : PySem.W.isFn K (.ref f25) = true)
    (l25 : K.lookup f25 = some ⟨oc25, od25, .func (PySem.W.fnOf "processed" "Cell.processed" (defArgs s_Cell_processed) (defBody s_Cell_processed) (defScope s_Cell_processed) .none kV25 dc25 pm25 an25 cd25 ct25), sl25⟩)
    (c25 : PySem.W.codeIn K cd25 "Cell.processed" = true)
    (k25 : PySem.W.keepIn K (.ref f25) = true)
    (a26 : PySem.W.nsIn K mainGlobals "copied_update" = some (some (.ref f26)))
    (l26 : K.lookup f26 = some ⟨oc26, od26, .func (PySem.W.fnOf "copied_update" "copied_update" (defArgs s_copied_update) (defBody s_copied_update) (defScope s_copied_update) .none kV26 dc26 pm26 an26 cd26 ct26), sl26⟩)
    (c26 : PySem.W.codeIn K cd26 "copied_update" = true)
    (k26 : PySem.W.keepIn K (.ref f26) = true)
    (a27 : PySem.W.nsIn K mainGlobals "same_queues" = some (some (.ref f27)))
    (l27 : K.lookup f27 = some ⟨oc27, od27, .func (PySem.W.fnOf "same_queues" "same_queues" (defArgs s_same_queues) (defBody s_same_queues) (defScope s_same_queues) .none kV27 dc27 pm27 an27 cd27 ct27), sl27⟩)
    (c27 : PySem.W.codeIn K cd27 "same_queues" = true)
    (k27 : PySem.W.keepIn K (.ref f27) = true)
    (a28 : PySem.W.nsIn K mainGlobals "_law_rows" = some (some (.ref f28)))
    (l28 : K.lookup f28 = some ⟨oc28, od28, .func (PySem.W.fnOf "_law_rows" "_law_rows" (defArgs s__law_rows) (defBody s__law_rows) (defScope s__law_rows) .none kV28 dc28 pm28 an28 cd28 ct28), sl28⟩)
    (c28 : PySem.W.codeIn K cd28 "_law_rows" = true)
    (k28 : PySem.W.keepIn K (.ref f28) = true)
    (a29 : PySem.W.nsIn K mainGlobals "_law_update" = some (some (.ref f29)))
    (l29 : K.lookup f29 = some ⟨oc29, od29, .func (PySem.W.fnOf "_law_update" "_law_update" (defArgs s__law_update) (defBody s__law_update) (defScope s__law_update) .none kV29 dc29 pm29 an29 cd29 ct29), sl29⟩)
    (c29 : PySem.W.codeIn K cd29 "_law_update" = true)
    (k29 : PySem.W.keepIn K (.ref f29) = true)
    (a30 : PySem.W.nsIn K mainGlobals "_law_apply" = some (some (.ref f30)))
    (l30 : K.lookup f30 = some ⟨oc30, od30, .func (PySem.W.fnOf "_law_apply" "_law_apply" (defArgs s__law_apply) (defBody s__law_apply) (defScope s__law_apply) .none kV30 dc30 pm30 an30 cd30 ct30), sl30⟩)
    (c30 : PySem.W.codeIn K cd30 "_law_apply" = true)
    (k30 : PySem.W.keepIn K (.ref f30) = true)
    (a31 : PySem.W.nsIn K mainGlobals "_law_processed" = some (some (.ref f31)))
    (l31 : K.lookup f31 = some ⟨oc31, od31, .func (PySem.W.fnOf "_law_processed" "_law_processed" (defArgs s__law_processed) (defBody s__law_processed) (defScope s__law_processed) .none kV31 dc31 pm31 an31 cd31 ct31), sl31⟩)
    (c31 : PySem.W.codeIn K cd31 "_law_processed" = true)
    (k31 : PySem.W.keepIn K (.ref f31) = true)
    (a32 : PySem.W.nsIn K mainGlobals "_law_same" = some (some (.ref f32)))
    (l32 : K.lookup f32 = some ⟨oc32, od32, .func (PySem.W.fnOf "_law_same" "_law_same" (defArgs s__law_same) (defBody s__law_same) (defScope s__law_same) .none kV32 dc32 pm32 an32 cd32 ct32), sl32⟩)
    (c32 : PySem.W.codeIn K cd32 "_law_same" = true)
    (k32 : PySem.W.keepIn K (.ref f32) = true)
    (a33 : PySem.W.nsIn K mainGlobals "law" = some (some (.ref f33)))
    (l33 : K.lookup f33 = some ⟨oc33, od33, .func (PySem.W.fnOf "law" "law" (defArgs s_law) (defBody s_law) (defScope s_law) .none kV33 dc33 pm33 an33 cd33 ct33), sl33⟩)
    (c33 : PySem.W.codeIn K cd33 "law" = true)
    (k33 : PySem.W.keepIn K (.ref f33) = true)
    : ∃ fd : FuncData, (∀ (s : Shared) (v : Value), BindsTo s fd ⟨[v], []⟩ [("script", v)]) ∧ ∀ base : Heap, K.In base → base.Ns mainGlobals mg → FnOk l.prog w K mg base CX0 12 fa fd ["script"] (spLaw K) := by
  have e := hfa.symm.trans (PySem.W.mg_of X G a33)
  cases e
  have F1 := fun_mk (st := s_is_number) l1 c1 k1
  have b1 := F1.binds (ps := ["value"]) fun _ _ _ _ _ _ us hl => match us, hl with | [_], _ => rfl
  have F2 := fun_mk (st := s_same) l2 c2 k2
  have b2 := F2.binds (ps := ["a", "b"]) fun _ _ _ _ _ _ us hl => match us, hl with | [_, _], _ => rfl
  have F3 := fun_mk (st := s_same_records) l3 c3 k3
  have b3 := F3.binds (ps := ["a", "b"]) fun _ _ _ _ _ _ us hl => match us, hl with | [_, _], _ => rfl
  have F4 := fun_mk (st := s_copied) l4 c4 k4
  have b4 := F4.binds (ps := ["value"]) fun _ _ _ _ _ _ us hl => match us, hl with | [_], _ => rfl
  have F5 := fun_mk (st := s_copy_of) l5 c5 k5
  have b5 := F5.binds (ps := ["value"]) fun _ _ _ _ _ _ us hl => match us, hl with | [_], _ => rfl
  have F6 := fun_mk (st := s_copied_names) l6 c6 k6
  have b6 := F6.binds (ps := ["environment"]) fun _ _ _ _ _ _ us hl => match us, hl with | [_], _ => rfl
  have F7 := fun_mk (st := s_copied_source) l7 c7 k7
  have b7 := F7.binds (ps := ["part"]) fun _ _ _ _ _ _ us hl => match us, hl with | [_], _ => rfl
  have F8 := fun_mk (st := s_bounded_number) l8 c8 k8
  have b8 := F8.binds (ps := ["number"]) fun _ _ _ _ _ _ us hl => match us, hl with | [_], _ => rfl
  have F9 := fun_mk (st := s_need_truth) l9 c9 k9
  have b9 := F9.binds (ps := ["value"]) fun _ _ _ _ _ _ us hl => match us, hl with | [_], _ => rfl
  have F10 := fun_mk (st := s_need_number) l10 c10 k10
  have b10 := F10.binds (ps := ["value"]) fun _ _ _ _ _ _ us hl => match us, hl with | [_], _ => rfl
  have F11 := fun_mk (st := s_sign_value) l11 c11 k11
  have b11 := F11.binds (ps := ["sign", "a", "b"]) fun _ _ _ _ _ _ us hl => match us, hl with | [_, _, _], _ => rfl
  have F12 := fun_mk (st := s_added) l12 c12 k12
  have b12 := F12.binds (ps := ["a", "b"]) fun _ _ _ _ _ _ us hl => match us, hl with | [_, _], _ => rfl
  have F13 := fun_mk (st := s_multiplied) l13 c13 k13
  have b13 := F13.binds (ps := ["a", "b"]) fun _ _ _ _ _ _ us hl => match us, hl with | [_, _], _ => rfl
  have F14 := fun_mk (st := s_evaluate) l14 c14 k14
  have b14 := F14.binds (ps := ["expression", "environment", "owner"]) fun _ _ _ _ _ _ us hl => match us, hl with | [_, _, _], _ => rfl
  have F15 := fun_mk (st := s_value_of) l15 c15 k15
  have b15 := F15.binds (ps := ["expression", "environment", "owner"]) fun _ _ _ _ _ _ us hl => match us, hl with | [_, _, _], _ => rfl
  have F16 := fun_mk (st := s_written_value) l16 c16 k16
  have b16 := F16.binds (ps := ["expression", "environment", "owner"]) fun _ _ _ _ _ _ us hl => match us, hl with | [_, _, _], _ => rfl
  have F17 := fun_mk (st := s_name_value) l17 c17 k17
  have b17 := F17.binds (ps := ["expression", "environment", "owner"]) fun _ _ _ _ _ _ us hl => match us, hl with | [_, _, _], _ => rfl
  have F18 := fun_mk (st := s_binary_value) l18 c18 k18
  have b18 := F18.binds (ps := ["expression", "environment", "owner"]) fun _ _ _ _ _ _ us hl => match us, hl with | [_, _, _], _ => rfl
  have F19 := fun_mk (st := s_Cell___init__) l19 c19 k19
  have b19 := F19.binds (ps := ["self", "name", "value"]) fun _ _ _ _ _ _ us hl => match us, hl with | [_, _, _], _ => rfl
  have F20 := fun_mk (st := s_Cell_present) l20 c20 k20
  have b20 := F20.binds (ps := ["self"]) fun _ _ _ _ _ _ us hl => match us, hl with | [_], _ => rfl
  have F21 := fun_mk (st := s_Cell_open_lanes) l21 c21 k21
  have b21 := F21.binds (ps := ["self"]) fun _ _ _ _ _ _ us hl => match us, hl with | [_], _ => rfl
  have F22 := fun_mk (st := s_Cell___eq__) l22 c22 k22
  have b22 := F22.binds (ps := ["self", "other"]) fun _ _ _ _ _ _ us hl => match us, hl with | [_, _], _ => rfl
  have F23 := fun_mk (st := s_Cell_send) l23 c23 k23
  have b23 := F23.binds (ps := ["self", "lane", "expression", "environment"]) fun _ _ _ _ _ _ us hl => match us, hl with | [_, _, _, _], _ => rfl
  have F24 := fun_mk (st := s_Cell_copied) l24 c24 k24
  have b24 := F24.binds (ps := ["self"]) fun _ _ _ _ _ _ us hl => match us, hl with | [_], _ => rfl
  have F25 := fun_mk (st := s_Cell_processed) l25 c25 k25
  have b25 := fun_kbn F25 (ps := ["self", "lanes", "owner"]) 2 ["owner"] fun _ _ _ _ _ _ us ws hl hw => match us, ws, hl, hw with | [_, _], [_], _, _ => rfl
  have F26 := fun_mk (st := s_copied_update) l26 c26 k26
  have b26 := F26.binds (ps := ["update"]) fun _ _ _ _ _ _ us hl => match us, hl with | [_], _ => rfl
  have F27 := fun_mk (st := s_same_queues) l27 c27 k27
  have b27 := F27.binds (ps := ["a", "b"]) fun _ _ _ _ _ _ us hl => match us, hl with | [_, _], _ => rfl
  have F28 := fun_mk (st := s__law_rows) l28 c28 k28
  have b28 := F28.binds (ps := ["script", "count"]) fun _ _ _ _ _ _ us hl => match us, hl with | [_, _], _ => rfl
  have F29 := fun_mk (st := s__law_update) l29 c29 k29
  have b29 := F29.binds (ps := ["row"]) fun _ _ _ _ _ _ us hl => match us, hl with | [_], _ => rfl
  have F30 := fun_mk (st := s__law_apply) l30 c30 k30
  have b30 := F30.binds (ps := ["value", "entry"]) fun _ _ _ _ _ _ us hl => match us, hl with | [_, _], _ => rfl
  have F31 := fun_mk (st := s__law_processed) l31 c31 k31
  have b31 := F31.binds (ps := ["state", "lanes"]) fun _ _ _ _ _ _ us hl => match us, hl with | [_, _], _ => rfl
  have F32 := fun_mk (st := s__law_same) l32 c32 k32
  have b32 := F32.binds (ps := ["cell", "state"]) fun _ _ _ _ _ _ us hl => match us, hl with | [_, _], _ => rfl
  have T : Txt K w mg ⟨(), aCell⟩ := {
    g_Cell := ⟨_, PySem.W.mg_of X G q_Cell, rfl⟩,
    cl_Cell := ⟨pg_Cell, hd_Cell, po_Cell, sa_Cell⟩,
    ic_Cell := ⟨⟨pg_Cell, hd_Cell, po_Cell, sa_Cell⟩, ia_Cell, ib_Cell, ix_Cell, id_Cell, ie_Cell⟩,
    ne_Cell := ⟨nn_Cell, nm_Cell⟩,
    n_Cell_name := n_Cell_name,
    n_Cell_base := n_Cell_base,
    n_Cell_queue := n_Cell_queue,
    n_Cell_value := n_Cell_value,
    z_NotImplemented := PySem.W.mg_none_of X G z_NotImplemented,
    z_abs := PySem.W.mg_none_of X G z_abs,
    z_bool := PySem.W.mg_none_of X G z_bool,
    z_dict := PySem.W.mg_none_of X G z_dict,
    z_int := PySem.W.mg_none_of X G z_int,
    z_isinstance := PySem.W.mg_none_of X G z_isinstance,
    z_len := PySem.W.mg_none_of X G z_len,
    z_list := PySem.W.mg_none_of X G z_list,
    z_property := PySem.W.mg_none_of X G z_property,
    z_range := PySem.W.mg_none_of X G z_range,
    z_sorted := PySem.W.mg_none_of X G z_sorted,
    z_str := PySem.W.mg_none_of X G z_str,
    z_tuple := PySem.W.mg_none_of X G z_tuple,
    z_zip := PySem.W.mg_none_of X G z_zip,
    g_LARGEST_NUMBER := ⟨_, PySem.W.mg_of X G g_LARGEST_NUMBER, r_LARGEST_NUMBER⟩,
    g_MOST_UPDATES := ⟨_, PySem.W.mg_of X G g_MOST_UPDATES, r_MOST_UPDATES⟩,
    tb_ACTIONS_signs := ⟨_, ⟨_, PySem.W.mg_of X G gT_ACTIONS_signs, rfl⟩, ⟨_, PySem.W.mg_of X G a12, _, _, _, lT_ACTIONS_signs, tT_ACTIONS_signs, eT_ACTIONS_signs_0, rfl⟩, ⟨_, PySem.W.mg_of X G a13, _, _, _, lT_ACTIONS_signs, tT_ACTIONS_signs, eT_ACTIONS_signs_1, rfl⟩⟩,
    tb_ACTIONS_evaluating := ⟨_, ⟨_, PySem.W.mg_of X G gT_ACTIONS_evaluating, rfl⟩, ⟨_, PySem.W.mg_of X G a16, _, _, _, lT_ACTIONS_evaluating, tT_ACTIONS_evaluating, eT_ACTIONS_evaluating_0, rfl⟩, ⟨_, PySem.W.mg_of X G a17, _, _, _, lT_ACTIONS_evaluating, tT_ACTIONS_evaluating, eT_ACTIONS_evaluating_1, rfl⟩, ⟨_, PySem.W.mg_of X G a18, _, _, _, lT_ACTIONS_evaluating, tT_ACTIONS_evaluating, eT_ACTIONS_evaluating_2, rfl⟩⟩,
    d_is_number := ⟨_, _, F1, PySem.W.mg_of X G a1, b1⟩,
    d_same := ⟨_, _, F2, PySem.W.mg_of X G a2, b2⟩,
    d_same_records := ⟨_, _, F3, PySem.W.mg_of X G a3, b3⟩,
    d_copied := ⟨_, _, F4, PySem.W.mg_of X G a4, b4⟩,
    d_copy_of := ⟨_, _, F5, PySem.W.mg_of X G a5, b5⟩,
    d_copied_names := ⟨_, _, F6, PySem.W.mg_of X G a6, b6⟩,
    d_copied_source := ⟨_, _, F7, PySem.W.mg_of X G a7, b7⟩,
    d_bounded_number := ⟨_, _, F8, PySem.W.mg_of X G a8, b8⟩,
    d_need_truth := ⟨_, _, F9, PySem.W.mg_of X G a9, b9⟩,
    d_need_number := ⟨_, _, F10, PySem.W.mg_of X G a10, b10⟩,
    d_sign_value := ⟨_, _, F11, PySem.W.mg_of X G a11, b11⟩,
    d_added := ⟨_, _, F12, PySem.W.mg_of X G a12, b12⟩,
    d_multiplied := ⟨_, _, F13, PySem.W.mg_of X G a13, b13⟩,
    d_evaluate := ⟨_, _, F14, PySem.W.mg_of X G a14, b14⟩,
    d_value_of := ⟨_, _, F15, PySem.W.mg_of X G a15, b15⟩,
    d_written_value := ⟨_, _, F16, PySem.W.mg_of X G a16, b16⟩,
    d_name_value := ⟨_, _, F17, PySem.W.mg_of X G a17, b17⟩,
    d_binary_value := ⟨_, _, F18, PySem.W.mg_of X G a18, b18⟩,
    i_Cell := ⟨_, _, F19, ⟨mk_Cell, a19, i19, kc_Cell⟩, PySem.W.mg_of X G q_Cell, b19⟩,
    p_Cell_present := ⟨_, _, _, ⟨a20, pq20, pt20, _, pr20⟩, F20, b20⟩,
    p_Cell_open_lanes := ⟨_, _, _, ⟨a21, pq21, pt21, _, pr21⟩, F21, b21⟩,
    m_Cell___eq__ := ⟨_, _, F22, ⟨a22, i22, k22⟩, b22⟩,
    m_Cell_send := ⟨_, _, F23, ⟨a23, i23, k23⟩, b23⟩,
    m_Cell_copied := ⟨_, _, F24, ⟨a24, i24, k24⟩, b24⟩,
    m_Cell_processed := ⟨_, _, F25, ⟨a25, i25, k25⟩, b25⟩,
    d_copied_update := ⟨_, _, F26, PySem.W.mg_of X G a26, b26⟩,
    d_same_queues := ⟨_, _, F27, PySem.W.mg_of X G a27, b27⟩,
    d__law_rows := ⟨_, _, F28, PySem.W.mg_of X G a28, b28⟩,
    d__law_update := ⟨_, _, F29, PySem.W.mg_of X G a29, b29⟩,
    d__law_apply := ⟨_, _, F30, PySem.W.mg_of X G a30, b30⟩,
    d__law_processed := ⟨_, _, F31, PySem.W.mg_of X G a31, b31⟩,
    d__law_same := ⟨_, _, F32, PySem.W.mg_of X G a32, b32⟩ }
  exact ⟨_, fun s v => .of_eq rfl, fun base _ _ => ok_law (fun_mk (st := s_law) l33 c33 k33) T⟩
theorem walk {l : PySem.W.OpenLaw} {q : Program} {loose : List Str} {XP : (Str → Option Value) → Heap → Prop} {YP : World → Heap → Prop} {d : DefRec} {K : Params → PySem.W.Frag} (hn : l.most = some 63) (hdf : d.params.defaults = [])
    (hY : ∀ (w : World) (h : Heap), YP w h → (K w.params).In h)
    (F : ∀ (w : World) (mg : Str → Option Value) (fa : Addr) (h : Heap), (K w.params).In h → h.Ns mainGlobals mg → mg d.name = some (.ref fa) →
      ∃ fd : FuncData, (∀ (s : Shared) (u : Value), BindsTo s fd ⟨[u], []⟩ [("script", u)]) ∧ ∀ base : Heap, (K w.params).In base → base.Ns mainGlobals mg → FnOk l.prog w (K w.params) mg base CX0 12 fa fd ["script"] (spLaw (K w.params))) :
    PySem.W.WalkO q loose XP YP l.row.toRowW d [] (fun f vs => PySem.call f vs) :=
  L2.walk_of (n := 63) (k := 12) (x := "script") (CX := fun _ => CX0) (sp := fun w => spLaw (K w.params)) hn (by decide) hdf ⟨rfl, by decide, by decide⟩ hY F (fun _ _ a ns hl _ hS => ⟨a, ns, rfl, hS, hl, fun _ => rfl⟩) fun _ _ _ _ _ z => z
end VL

open PySem PySem.W PyProof.Rows in
set_option maxRecDepth 100000 in
set_option maxHeartbeats 0 in
set_option pp.maxSteps 60 in
theorem PySem.Challenge.cw_viewloom_k47_cells_and_their_queues_holds : PySem.Challenge.rw_viewloom_k47_cells_and_their_queues.Holds := by
  w_on; o_law; k_head; (case hw => w_witness2)
  k_fill
  refine VL.walk (l := PySem.Challenge.rw_viewloom_k47_cells_and_their_queues) rfl rfl (fun w h Y => PySem.W.kIn_of Y) ?F
  case F =>
    intro w mg fa h KX G hmg
    refine' VL.all_mk KX G hmg ?q_Cell ?pg_Cell ?hd_Cell ?po_Cell ?sa_Cell ?mk_Cell ?kc_Cell ?ia_Cell ?ib_Cell ?ix_Cell ?id_Cell ?ie_Cell ?nn_Cell ?nm_Cell ?n_Cell_name ?n_Cell_base ?n_Cell_queue ?n_Cell_value ?z_NotImplemented ?z_abs ?z_bool ?z_dict ?z_int ?z_isinstance ?z_len ?z_list ?z_property ?z_range ?z_sorted ?z_str ?z_tuple ?z_zip ?g_LARGEST_NUMBER ?r_LARGEST_NUMBER ?g_MOST_UPDATES ?r_MOST_UPDATES ?gT_ACTIONS_signs ?lT_ACTIONS_signs ?tT_ACTIONS_signs ?eT_ACTIONS_signs_0 ?eT_ACTIONS_signs_1 ?gT_ACTIONS_evaluating ?lT_ACTIONS_evaluating ?tT_ACTIONS_evaluating ?eT_ACTIONS_evaluating_0 ?eT_ACTIONS_evaluating_1 ?eT_ACTIONS_evaluating_2 ?a1 ?l1 ?c1 ?k1 ?a2 ?l2 ?c2 ?k2 ?a3 ?l3 ?c3 ?k3 ?a4 ?l4 ?c4 ?k4 ?a5 ?l5 ?c5 ?k5 ?a6 ?l6 ?c6 ?k6 ?a7 ?l7 ?c7 ?k7 ?a8 ?l8 ?c8 ?k8 ?a9 ?l9 ?c9 ?k9 ?a10 ?l10 ?c10 ?k10 ?a11 ?l11 ?c11 ?k11 ?a12 ?l12 ?c12 ?k12 ?a13 ?l13 ?c13 ?k13 ?a14 ?l14 ?c14 ?k14 ?a15 ?l15 ?c15 ?k15 ?a16 ?l16 ?c16 ?k16 ?a17 ?l17 ?c17 ?k17 ?a18 ?l18 ?c18 ?k18 ?a19 ?i19 ?l19 ?c19 ?k19 ?a20 ?pq20 ?pt20 ?pr20 ?l20 ?c20 ?k20 ?a21 ?pq21 ?pt21 ?pr21 ?l21 ?c21 ?k21 ?a22 ?i22 ?l22 ?c22 ?k22 ?a23 ?i23 ?l23 ?c23 ?k23 ?a24 ?i24 ?l24 ?c24 ?k24 ?a25 ?i25 ?l25 ?c25 ?k25 ?a26 ?l26 ?c26 ?k26 ?a27 ?l27 ?c27 ?k27 ?a28 ?l28 ?c28 ?k28 ?a29 ?l29 ?c29 ?k29 ?a30 ?l30 ?c30 ?k30 ?a31 ?l31 ?c31 ?k31 ?a32 ?l32 ?c32 ?k32 ?a33 ?l33 ?c33 ?k33
    (case q_Cell => k_is)
    (case pg_Cell => k_is)
    (case hd_Cell => k_is)
    (case po_Cell => k_is)
    (case sa_Cell => k_is)
    (case mk_Cell => k_is)
    (case kc_Cell => k_is)
    (case ia_Cell => k_is)
    (case ib_Cell => k_is)
    (case ix_Cell => k_is)
    (case id_Cell => k_is)
    (case ie_Cell => kit_is)
    (case nn_Cell => k_is)
    (case nm_Cell => k_is)
    (case n_Cell_name => k_is)
    (case n_Cell_base => k_is)
    (case n_Cell_queue => k_is)
    (case n_Cell_value => k_is)
    (case z_NotImplemented => k_is)
    (case z_abs => k_is)
    (case z_bool => k_is)
    (case z_dict => k_is)
    (case z_int => k_is)
    (case z_isinstance => k_is)
    (case z_len => k_is)
    (case z_list => k_is)
    (case z_property => k_is)
    (case z_range => k_is)
    (case z_sorted => k_is)
    (case z_str => k_is)
    (case z_tuple => k_is)
    (case z_zip => k_is)
    (case g_LARGEST_NUMBER => k_is)
    (case r_LARGEST_NUMBER => exact ⟨_, rfl⟩)
    (case g_MOST_UPDATES => k_is)
    (case r_MOST_UPDATES => exact ⟨_, rfl⟩)
    (case gT_ACTIONS_signs => k_is)
    (case lT_ACTIONS_signs => k_is)
    (case tT_ACTIONS_signs => k_keys)
    (case eT_ACTIONS_signs_0 => k_is)
    (case eT_ACTIONS_signs_1 => k_is)
    (case gT_ACTIONS_evaluating => k_is)
    (case lT_ACTIONS_evaluating => k_is)
    (case tT_ACTIONS_evaluating => k_keys)
    (case eT_ACTIONS_evaluating_0 => k_is)
    (case eT_ACTIONS_evaluating_1 => k_is)
    (case eT_ACTIONS_evaluating_2 => k_is)
    (case a1 => k_is)
    (case l1 => k_is)
    (case c1 => k_is)
    (case k1 => k_is)
    (case a2 => k_is)
    (case l2 => k_is)
    (case c2 => k_is)
    (case k2 => k_is)
    (case a3 => k_is)
    (case l3 => k_is)
    (case c3 => k_is)
    (case k3 => k_is)
    (case a4 => k_is)
    (case l4 => k_is)
    (case c4 => k_is)
    (case k4 => k_is)
    (case a5 => k_is)
    (case l5 => k_is)
    (case c5 => k_is)
    (case k5 => k_is)
    (case a6 => k_is)
    (case l6 => k_is)
    (case c6 => k_is)
    (case k6 => k_is)
    (case a7 => k_is)
    (case l7 => k_is)
    (case c7 => k_is)
    (case k7 => k_is)
    (case a8 => k_is)
    (case l8 => k_is)
    (case c8 => k_is)
    (case k8 => k_is)
    (case a9 => k_is)
    (case l9 => k_is)
    (case c9 => k_is)
    (case k9 => k_is)
    (case a10 => k_is)
    (case l10 => k_is)
    (case c10 => k_is)
    (case k10 => k_is)
    (case a11 => k_is)
    (case l11 => k_is)
    (case c11 => k_is)
    (case k11 => k_is)
    (case a12 => k_is)
    (case l12 => k_is)
    (case c12 => k_is)
    (case k12 => k_is)
    (case a13 => k_is)
    (case l13 => k_is)
    (case c13 => k_is)
    (case k13 => k_is)
    (case a14 => k_is)
    (case l14 => k_is)
    (case c14 => k_is)
    (case k14 => k_is)
    (case a15 => k_is)
    (case l15 => k_is)
    (case c15 => k_is)
    (case k15 => k_is)
    (case a16 => k_is)
    (case l16 => k_is)
    (case c16 => k_is)
    (case k16 => k_is)
    (case a17 => k_is)
    (case l17 => k_is)
    (case c17 => k_is)
    (case k17 => k_is)
    (case a18 => k_is)
    (case l18 => k_is)
    (case c18 => k_is)
    (case k18 => k_is)
    (case a19 => k_is)
    (case i19 => k_is)
    (case l19 => k_is)
    (case c19 => k_is)
    (case k19 => k_is)
    (case a20 => k_is)
    (case pq20 => k_is)
    (case pt20 => k_is)
    (case pr20 => k_is)
    (case l20 => k_is)
    (case c20 => k_is)
    (case k20 => k_is)
    (case a21 => k_is)
    (case pq21 => k_is)
    (case pt21 => k_is)
    (case pr21 => k_is)
    (case l21 => k_is)
    (case c21 => k_is)
    (case k21 => k_is)
    (case a22 => k_is)
    (case i22 => k_is)
    (case l22 => k_is)
    (case c22 => k_is)
    (case k22 => k_is)
    (case a23 => k_is)
    (case i23 => k_is)
    (case l23 => k_is)
    (case c23 => k_is)
    (case k23 => k_is)
    (case a24 => k_is)
    (case i24 => k_is)
    (case l24 => k_is)
    (case c24 => k_is)
    (case k24 => k_is)
    (case a25 => k_is)
    (case i25 => k_is)
    (case l25 => k_is)
    (case c25 => k_is)
    (case k25 => k_is)
    (case a26 => k_is)
    (case l26 => k_is)
    (case c26 => k_is)
    (case k26 => k_is)
    (case a27 => k_is)
    (case l27 => k_is)
    (case c27 => k_is)
    (case k27 => k_is)
    (case a28 => k_is)
    (case l28 => k_is)
    (case c28 => k_is)
    (case k28 => k_is)
    (case a29 => k_is)
    (case l29 => k_is)
    (case c29 => k_is)
    (case k29 => k_is)
    (case a30 => k_is)
    (case l30 => k_is)
    (case c30 => k_is)
    (case k30 => k_is)
    (case a31 => k_is)
    (case l31 => k_is)
    (case c31 => k_is)
    (case k31 => k_is)
    (case a32 => k_is)
    (case l32 => k_is)
    (case c32 => k_is)
    (case k32 => k_is)
    (case a33 => k_is)
    (case l33 => k_is)
    (case c33 => k_is)
    (case k33 => k_is)
#print axioms PySem.Challenge.cw_viewloom_k47_cells_and_their_queues_holds
