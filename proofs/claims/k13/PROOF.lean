import PyProof.Rows.All
import Wide.All
import OpenK.AllK
import Wide.FinOn
import HandS.ForMost
import HandS.More
import HandS.Codes
import HandS.StrMore
import HandS.ReplaceDef
import HandS.ReplaceLit
import HandS.ReplaceList
import HandS.FStr
import HandS.Ends
import PyProof.ReprRoads
import PyProof.ReprReads
import PyProof.RowDictHeap
import HandS.DictComp
import HandS.Walk
import KE.DataEq
import HandS.Defaults
import HandS.Property
import HandS.ClsMeth
import HandS.ExcIs
import HandS.RaiseMore
import HandS.ForExc
import HandS.IsInst
import HandS.DeepEq
import HandS.Deep
import PyProof.DictUpdate
import PyProof.DictDisplay
import HandS.Nested
import HandS.ExcInit
import KE.KSuper
import KE.KExcSuper
import HandS.ExcField
import KE.KExcIs
import HandS.ExcOwn
import HandS.IterVal
import HandS.Star
import HandS.DictTup
import HandS.ListItems
import KE.KDictCopyH
import KE.KDictList
import HandS.Steps
import HandS.Style
import HandS.TupLe
import HandS.Wide
import HandS.Comp
import HandS.List
import HandS.FStrTup
import PySem.Challenge.RW_viewloom_k13_values_that_are_the_same
set_option Elab.async false
set_option linter.all false
set_option maxRecDepth 100000
set_option maxHeartbeats 4000000
namespace VL
open PySem PySem.Spec PyProof.Rows L2

/-! ### defs, methods, classes, as callers see them -/
structure Cal (P : Program) (w : World) (K : PySem.W.Frag) (mg : Str → Option Value) (base : Heap) (k : Nat) (x : Str) (sp : Sp) : Prop where
  ex : ∃ (f : Addr) (fd : FuncData) (ps : List Str), FnOk P w K mg base CX0 k f fd ps sp ∧ mg x = some (.ref f) ∧ PySem.W.keepIn K (.ref f) = true ∧ Binds K fd ps []
structure Met (P : Program) (w : World) (K : PySem.W.Frag) (mg : Str → Option Value) (base : Heap) (k : Nat) (C : Addr) (m : Str) (sp : Sp) : Prop where
  ex : ∃ (f : Addr) (fd : FuncData) (ps : List Str), Cls K C ∧ Meth K C m f ∧ FnOk P w K mg base CX0 k f fd ps sp ∧ Binds K fd ps []
structure Mak (P : Program) (w : World) (K : PySem.W.Frag) (mg : Str → Option Value) (base : Heap) (k : Nat) (x : Str) (C : Addr) (sp : Sp) : Prop where
  ex : ∃ (f : Addr) (fd : FuncData) (ps : List Str), Mk K C f ∧ FnOk P w K mg base CX0 k f fd ps sp ∧ mg x = some (.ref C) ∧ Binds K fd ps []
section
variable {X : Cx} {k j : Nat} {C : Addr} {x m : Str} {sp : Sp} {p pos apos : Pos} {e o : Expr} {es : List Expr} {ta : TE} {t : TA}
theorem pe_c (c : Cal X.prog X.w X.K X.mg X.base k x sp) (hr : Room j X.A) (hk : k ≤ j) (hg : Gl X x) (ha : PA X (e :: es) t)
    (hdb : (x == ("__debug__" : Str)) = false := by decide) (he : starEach (e :: es) X.env = (false, eval e X.env) :: starEach es X.env := by rfl) (hpl : (backTo pos (starEach es X.env)).any (·.1) = false := by rfl) :
    PE X (.Call (.Name x p) (e :: es) [] pos) (tCall sp [] E0 t) := by
  obtain ⟨f, fd, ps, F, hm, kp, b⟩ := c.ex
  exact pe_call F (hr.mono hk) hg hm kp b .nil pass0 ha hdb he hpl
theorem pe_mk (c : Mak X.prog X.w X.K X.mg X.base k x C sp) (hr : Room j X.A) (hk : k + 1 ≤ j) (hg : Gl X x) (ha : PA X (e :: es) t)
    (hdb : (x == ("__debug__" : Str)) = false := by decide) (he : starEach (e :: es) X.env = (false, eval e X.env) :: starEach es X.env := by rfl) (hpl : (backTo pos (starEach es X.env)).any (·.1) = false := by rfl) :
    PE X (.Call (.Name x p) (e :: es) [] pos) (tMake C sp [] E0 t) := by
  obtain ⟨f, fd, ps, M, F, hm, b⟩ := c.ex
  exact pe_make M F (hr.mono hk) hg hm b .nil pass0 ha hdb he hpl
theorem pe_mk0 (c : Mak X.prog X.w X.K X.mg X.base k x C sp) (hr : Room j X.A) (hk : k + 1 ≤ j) (hg : Gl X x) (hdb : (x == ("__debug__" : Str)) = false := by decide) :
    PE X (.Call (.Name x p) [] [] pos) (tMake C sp [] E0 tNil) := by
  obtain ⟨f, fd, ps, M, F, hm, b⟩ := c.ex
  exact pe_make0 M F (hr.mono hk) hg hm b .nil pass0 hdb
theorem pe_mt {pl : Sem Bool} (c : Met X.prog X.w X.K X.mg X.base k C m sp) (hr : Room j X.A) (hk : k ≤ j) (he : PE X o ta) (ha : PA X (e :: es) t)
    (hst : starEach (e :: es) X.env = (false, eval e X.env) :: starEach es X.env := by rfl) (hpl : (backTo pos (starEach es X.env)).any (·.1) = false := by rfl)
    (ht : eval (.Call (.Attribute o m apos) (e :: es) [] pos) X.env = (do
      let ov ← eval o X.env
      standAt apos.atName
      let (f, first) ← holding [ov] (getMethod ov m pl)
      callWith pos f first (backTo pos (starEach (e :: es) X.env)) (backToKw pos (keywordEach [] X.env))) := by rfl) :
    PE X (.Call (.Attribute o m apos) (e :: es) [] pos) (tMeth C m sp [] E0 ta t) := by
  obtain ⟨f, fd, ps, hc, hm, F, b⟩ := c.ex
  exact pe_meth (pl := pl) he hc hm F (hr.mono hk) b .nil pass0 ha hst hpl ht
theorem pe_mt0 {pl : Sem Bool} (c : Met X.prog X.w X.K X.mg X.base k C m sp) (hr : Room j X.A) (hk : k ≤ j) (he : PE X o ta)
    (ht : eval (.Call (.Attribute o m apos) [] [] pos) X.env = (do
      let ov ← eval o X.env
      standAt apos.atName
      let (f, first) ← holding [ov] (getMethod ov m pl)
      callWith pos f first (backTo pos (starEach [] X.env)) (backToKw pos (keywordEach [] X.env))) := by rfl) :
    PE X (.Call (.Attribute o m apos) [] [] pos) (tMeth C m sp [] E0 ta tNil) := by
  obtain ⟨f, fd, ps, hc, hm, F, b⟩ := c.ex
  exact pe_meth0 (pl := pl) he hc hm F (hr.mono hk) b .nil pass0 ht
end

/-! ### what the text has -/
def DefE (K : PySem.W.Frag) (mg : Str → Option Value) (x : Str) (st : Stmt) (ps : List Str) : Prop := ∃ (f : Addr) (fd : FuncData), Fun K x x st f fd ∧ mg x = some (.ref f) ∧ Binds K fd ps []
def MethE (K : PySem.W.Frag) (C : Addr) (x qual : Str) (st : Stmt) (ps : List Str) : Prop := ∃ (f : Addr) (fd : FuncData), Fun K x qual st f fd ∧ Meth K C x f ∧ Binds K fd ps []
def InitE (K : PySem.W.Frag) (mg : Str → Option Value) (cn : Str) (C : Addr) (qual : Str) (st : Stmt) (ps : List Str) : Prop := ∃ (f : Addr) (fd : FuncData), Fun K "__init__" qual st f fd ∧ Mk K C f ∧ mg cn = some (.ref C) ∧ Binds K fd ps []
/-- a global name of the module has the value v -/
abbrev GV (mg : Str → Option Value) (x : Str) (v : V) : Prop := ∃ u, mg x = some u ∧ RelV v u
section
variable {P : Program} {w : World} {K : PySem.W.Frag} {mg : Str → Option Value} {base : Heap}
theorem cal_of {x : Str} {st : Stmt} {ps N : List Str} {k : Nat} {sp : Sp} (D : DefE K mg x st ps) (S : FnScope N ps (defScope st)) (len : ∀ vs H Q E, sp vs H Q E → vs.length = ps.length)
    (hbody : ∀ (f : Addr) (cdv : Value) (A : Around) (outer : List Env) (s : Shared) (H : Hp) (vs : List V) (Q : VK) (E : XK), Room k (A.deeper (envOfC x (defScope st) s.heap.objs.size f cdv)) → sp vs H Q E →
      ∃ t, PSs (cxOf CX0 P w K mg base N x (defScope st) f cdv A outer s H E).nox (defBody st) t ∧ t { nx := fun _ H' => Q .non H', rt := Q } (start N vs) H) : Cal P w K mg base (k + 1) x sp := by
  obtain ⟨f, fd, F, hm, b⟩ := D
  exact ⟨f, fd, ps, F.ok S len (hbody f), hm, F.kp, b⟩
theorem met_of {C : Addr} {x qual : Str} {st : Stmt} {ps N : List Str} {k : Nat} {sp : Sp} (D : MethE K C x qual st ps) (c : Cls K C) (S : FnScope N ps (defScope st)) (len : ∀ vs H Q E, sp vs H Q E → vs.length = ps.length)
    (hbody : ∀ (f : Addr) (cdv : Value) (A : Around) (outer : List Env) (s : Shared) (H : Hp) (vs : List V) (Q : VK) (E : XK), Room k (A.deeper (envOfC qual (defScope st) s.heap.objs.size f cdv)) → sp vs H Q E →
      ∃ t, PSs (cxOf CX0 P w K mg base N qual (defScope st) f cdv A outer s H E).nox (defBody st) t ∧ t { nx := fun _ H' => Q .non H', rt := Q } (start N vs) H) : Met P w K mg base (k + 1) C x sp := by
  obtain ⟨f, fd, F, hm, b⟩ := D
  exact ⟨f, fd, ps, c, hm, F.ok S len (hbody f), b⟩
theorem mak_of {C : Addr} {cn qual : Str} {st : Stmt} {ps N : List Str} {k : Nat} {sp : Sp} (D : InitE K mg cn C qual st ps) (S : FnScope N ps (defScope st)) (len : ∀ vs H Q E, sp vs H Q E → vs.length = ps.length)
    (hbody : ∀ (f : Addr) (cdv : Value) (A : Around) (outer : List Env) (s : Shared) (H : Hp) (vs : List V) (Q : VK) (E : XK), Room k (A.deeper (envOfC qual (defScope st) s.heap.objs.size f cdv)) → sp vs H Q E →
      ∃ t, PSs (cxOf CX0 P w K mg base N qual (defScope st) f cdv A outer s H E).nox (defBody st) t ∧ t { nx := fun _ H' => Q .non H', rt := Q } (start N vs) H) : Mak P w K mg base (k + 1) cn C sp := by
  obtain ⟨f, fd, F, M, hm, b⟩ := D
  exact ⟨f, fd, ps, M, F.ok S len (hbody f), hm, b⟩
end
theorem ps_str_loc : True := trivial
end VL

set_option Elab.async false
set_option linter.all false
set_option maxRecDepth 100000
set_option maxHeartbeats 4000000
namespace VL
open PySem PySem.Spec PyProof.Rows L2

/-! ### texts as lists of signs -/
abbrev TX (l : List Nat) : Str := ⟨l.toArray⟩
theorem TX_tl (l : List Nat) : (TX l).cps.toList = l := by simp
theorem TX_len (l : List Nat) : (TX l).length = l.length := by simp [Str.length]
theorem TX_cat (a b : List Nat) : TX a ++ TX b = TX (a ++ b) := SX.S_cat a b
theorem TX_inj {a b : List Nat} (h : TX a = TX b) : a = b := SX.S_inj h
theorem vstr_TX {a b : List Nat} : decide (V.str (TX a) = V.str (TX b)) = decide (a = b) := by
  by_cases e : a = b
  · subst e; simp
  · have : ¬ V.str (TX a) = V.str (TX b) := fun q => e (TX_inj (V.str.inj q))
    rw [decide_eq_false this, decide_eq_false e]
theorem one_eq {c d : Nat} : decide (V.str (TX [c]) = V.str (TX [d])) = decide (c = d) := by
  rw [vstr_TX]
  by_cases e : c = d
  · subst e; simp
  · simp [e]
/-- the sign at a place -/
theorem at_mid {pre r : List Nat} {c : Nat} {i : Int} (hi : i = (pre.length : Int)) : atI (TX (pre ++ c :: r)).cps.toList i = some c := by
  subst hi
  rw [TX_tl]
  unfold atI ixN
  rw [if_pos (by omega), if_pos (by simp; omega)]
  show (pre ++ c :: r)[(pre.length : Int).toNat]? = _
  rw [Int.toNat_natCast]
  simp
theorem getD_TX (l : List Nat) (v : Nat) : (TX l).cps.getD v 0 = l.getD v 0 := by
  simp only [Array.getD, List.getD_eq_getElem?_getD]
  by_cases h : v < l.length
  · rw [dif_pos (by simpa using h)]
    simp [h]
  · rw [dif_neg (by simpa using h), List.getElem?_eq_none (by omega)]
    rfl
theorem lt_one {c d : Nat} : ([c] < [d]) ↔ c < d := by
  constructor
  · intro h
    cases h with
    | rel h => exact h
    | cons h => cases h
  · intro h
    exact .rel h
/-- s.startswith(y, i) -/
theorem starts_at {pre R y : List Nat} {i : Int} (hi : i = (pre.length : Int)) : Txt.startswith3 (TX (pre ++ R)) (TX y) i = (R.take y.length == y) := by
  subst hi
  have e : fromIndex (TX (pre ++ R)).length (pre.length : Int) = pre.length := by
    unfold fromIndex
    rw [if_neg (by omega)]
    omega
  unfold Txt.startswith3
  rw [e, StrLaws.subAt_eq]
  have h1 : (TX (pre ++ R)).cps.toList.drop pre.length = R := by simp
  rw [h1, TX_len, TX_len]
  show (decide (pre.length + y.length ≤ (pre ++ R).length) && (R.take y.length == (TX y).cps.toList)) = _
  rw [TX_tl, List.length_append]
  by_cases h : y.length ≤ R.length
  · rw [decide_eq_true (by omega)]
    rfl
  · rw [decide_eq_false (by omega)]
    have : (R.take y.length == y) = false := by
      refine beq_eq_false_iff_ne.mpr fun q => h ?_
      have := congrArg List.length q
      rw [List.length_take] at this
      omega
    rw [this]
    rfl
/-- s.find("\n", i) -/
theorem find_nl {pre c r : List Nat} {d : Nat} {i : Int} (hi : i = (pre.length : Int)) (hc : d ∉ c) : Txt.find3 (TX (pre ++ (c ++ d :: r))) (TX [d]) i = ((pre.length + c.length : Nat) : Int) := by
  subst hi
  have e : fromIndex (TX (pre ++ (c ++ d :: r))).length (pre.length : Int) = pre.length := by
    unfold fromIndex
    rw [if_neg (by omega)]
    omega
  have hg : ∀ v, v < (pre ++ (c ++ d :: r)).length → (TX (pre ++ (c ++ d :: r))).cps.getD v 0 = (pre ++ (c ++ d :: r)).getD v 0 := fun v _ => getD_TX _ v
  have hat : (pre ++ (c ++ d :: r)).getD (pre.length + c.length) 0 = d := by simp [List.getD_eq_getElem?_getD]
  have hlt : pre.length + c.length < (pre ++ (c ++ d :: r)).length := by rw [List.length_append, List.length_append, List.length_cons]; omega
  rcases StrLaws.find3_spec (TX (pre ++ (c ++ d :: r))) d (pre.length : Int) with ⟨_, h2⟩ | ⟨k, h1, h2, h3, h4, h5⟩
  · rw [e, TX_len] at h2
    exact absurd (by rw [hg _ hlt]; exact hat) (h2 (pre.length + c.length) (by omega) hlt)
  · rw [e] at h2 h5
    rw [TX_len] at h3
    rw [h1]
    have hk : k = pre.length + c.length := by
      rcases Nat.lt_trichotomy k (pre.length + c.length) with q | q | q
      · exfalso
        rw [hg k h3] at h4
        have e3 : (pre ++ (c ++ d :: r)).getD k 0 = c.getD (k - pre.length) 0 := by
          rw [List.getD_eq_getElem?_getD, List.getD_eq_getElem?_getD, List.getElem?_append_right h2, List.getElem?_append_left (by omega)]
        rw [e3] at h4
        apply hc
        have hlt2 : k - pre.length < c.length := by omega
        rw [List.getD_eq_getElem?_getD, List.getElem?_eq_getElem hlt2] at h4
        have h4 : c[k - pre.length] = d := h4
        rw [← h4]
        exact List.getElem_mem hlt2
      · exact q
      · exfalso
        exact h5 (pre.length + c.length) (by omega) q (by rw [hg _ hlt]; exact hat)
    rw [hk]
/-- s[i:j] -/
theorem cut_mid {pre m r : List Nat} {i j : Int} (hi : i = (pre.length : Int)) (hj : j = ((pre.length + m.length : Nat) : Int)) : cutS (TX (pre ++ (m ++ r))) (some i) (some j) = TX m := by
  subst hi hj
  unfold cutS
  rw [TX_len, HT.sIx_nat, HT.sIx_nat, TX_tl]
  have e1 : min pre.length (pre ++ (m ++ r)).length = pre.length := by simp
  have e2 : min (pre.length + m.length) (pre ++ (m ++ r)).length = pre.length + m.length := by simp
  rw [e1, e2]
  refine congrArg TX ?_
  rw [List.drop_left, Nat.add_sub_cancel_left, List.take_left]

/-! ### rows -/
def rws : List Nat → List Nat → List (List Nat)
  | acc, [] => [acc]
  | acc, c :: r => if c = 10 then acc :: rws [] r else rws (acc ++ [c]) r
theorem spl_rws : ∀ (l acc : List Nat), TL.spl [10] 0 acc l = rws acc l
  | [], acc => by rw [TL.spl_nil]; rfl
  | c :: r, acc => by
    unfold rws
    by_cases h : c = 10
    · subst h
      rw [if_pos rfl, TL.spl_hit (by rfl)]
      exact congrArg (acc :: ·) (spl_rws r [])
    · rw [if_neg h, TL.spl_miss (by
        show TL.pre [10] (c :: r) = false
        unfold TL.pre
        simp [h])]
      exact spl_rws r _
theorem rws_ne : ∀ (l acc : List Nat), rws acc l ≠ []
  | [], acc => by unfold rws; simp
  | c :: r, acc => by
    unfold rws
    split
    · simp
    · exact rws_ne r _
def lnOf (l : List Nat) : Nat := (rws [] l).length
def clOf (l : List Nat) : Nat := ((rws [] l).getLast (rws_ne _ _)).length
theorem rws_plain : ∀ (l acc m : List Nat), 10 ∉ m → ∃ fr la, rws acc l = fr ++ [la] ∧ rws acc (l ++ m) = fr ++ [la ++ m]
  | [], acc, m, h => by
    refine ⟨[], acc, rfl, ?_⟩
    show rws acc m = [acc ++ m]
    induction m generalizing acc with
    | nil => rw [List.append_nil]; rfl
    | cons c m ih =>
      have hc : c ≠ 10 := fun e => h (by rw [e]; exact List.mem_cons_self)
      unfold rws
      rw [if_neg hc, ih _ fun e => h (List.mem_cons_of_mem _ e), List.append_assoc]
      rfl
  | c :: r, acc, m, h => by
    rw [List.cons_append]
    unfold rws
    by_cases hc : c = 10
    · rw [if_pos hc, if_pos hc]
      obtain ⟨fr, la, e1, e2⟩ := rws_plain r [] m h
      exact ⟨acc :: fr, la, by rw [e1]; rfl, by rw [e2]; rfl⟩
    · rw [if_neg hc, if_neg hc]
      exact rws_plain r _ m h
theorem rws_nl : ∀ (l acc : List Nat), rws acc (l ++ [10]) = rws acc l ++ [[]]
  | [], acc => by
    show rws acc [10] = [acc] ++ [[]]
    unfold rws
    rw [if_pos rfl]
    rfl
  | c :: r, acc => by
    rw [List.cons_append]
    unfold rws
    split
    · rw [rws_nl r []]; rfl
    · exact rws_nl r _
theorem getLast_of {α : Type} {l fr : List α} {la : α} (h : l ≠ []) (e : l = fr ++ [la]) : l.getLast h = la := by
  subst e
  simp
theorem ln_plain (l m : List Nat) (h : 10 ∉ m) : lnOf (l ++ m) = lnOf l := by
  obtain ⟨fr, la, e1, e2⟩ := rws_plain l [] m h
  unfold lnOf
  rw [e1, e2]
  simp
theorem cl_plain (l m : List Nat) (h : 10 ∉ m) : clOf (l ++ m) = clOf l + m.length := by
  obtain ⟨fr, la, e1, e2⟩ := rws_plain l [] m h
  unfold clOf
  rw [getLast_of _ e1, getLast_of _ e2, List.length_append]
theorem ln_nl (l : List Nat) : lnOf (l ++ [10]) = lnOf l + 1 := by
  unfold lnOf
  rw [rws_nl]
  simp
theorem cl_nl (l : List Nat) : clOf (l ++ [10]) = 0 := by
  unfold clOf
  rw [getLast_of _ (rws_nl l [])]
  rfl
theorem cl_le : ∀ l : List Nat, clOf l ≤ l.length := by
  intro l
  have : ∀ (l acc : List Nat), ((rws acc l).getLast (rws_ne _ _)).length ≤ acc.length + l.length := by
    intro l
    induction l with
    | nil => intro acc; simp [rws]
    | cons c r ih =>
      intro acc
      by_cases hc : c = 10
      · have e : rws acc (c :: r) = acc :: rws [] r := by
          show (if c = 10 then _ else _) = _
          rw [if_pos hc]
        have e2 : (rws acc (c :: r)).getLast (rws_ne _ _) = (rws [] r).getLast (rws_ne _ _) := by
          simp only [e]
          exact List.getLast_cons (rws_ne _ _)
        rw [e2]
        have := ih []
        simp at this ⊢
        omega
      · have e : rws acc (c :: r) = rws (acc ++ [c]) r := by
          show (if c = 10 then _ else _) = _
          rw [if_neg hc]
        have e2 : (rws acc (c :: r)).getLast (rws_ne _ _) = (rws (acc ++ [c]) r).getLast (rws_ne _ _) := by simp only [e]
        rw [e2]
        have := ih (acc ++ [c])
        simp at this ⊢
        omega
  have := this l []
  simpa [clOf] using this
/-- row = source.split("\n"): how many, and the last one's length -/
theorem split_rows (l : List Nat) : Txt.split (TX l) (TX [10]) = (rws [] l).map TX := by
  have := SX.split_S (a := l) (b := [10]) (by simp) (by decide)
  rw [spl_rws] at this
  exact this
theorem rows_last (l : List Nat) : ∃ la : List Nat, atI ((rws [] l).map fun r => V.str (TX r)) (-1) = some (.str (TX la)) ∧ la.length = clOf l := by
  refine ⟨(rws [] l).getLast (rws_ne _ _), ?_, rfl⟩
  have hp : 0 < (rws [] l).length := List.length_pos_iff.mpr (rws_ne _ _)
  unfold atI ixN
  rw [if_neg (by decide), if_pos (by rw [List.length_map]; omega)]
  show ((rws [] l).map fun r => V.str (TX r))[_]? = _
  have e : (-1 + (((rws [] l).map fun r => V.str (TX r)).length : Int)).toNat = (rws [] l).length - 1 := by rw [List.length_map]; omega
  rw [e, List.getElem?_map, List.getElem?_eq_getElem (by omega), List.getLast_eq_getElem]
  rfl

/-! ### signs -/
def isLet (c : Nat) : Bool := (decide (97 ≤ c) && decide (c ≤ 122)) || (decide (65 ≤ c) && decide (c ≤ 90))
def isDig (c : Nat) : Bool := decide (48 ≤ c) && decide (c ≤ 57)
def isWs (c : Nat) : Bool := isLet c || isDig c || decide (c = 95)
end VL

set_option Elab.async false
set_option linter.all false
set_option maxRecDepth 100000
set_option maxHeartbeats 4000000
namespace VL
open PySem PySem.Spec PyProof.Rows L2

/-! ### defs whose first deed is s.replace(..) of written texts: a parameter's token is out -/
section
variable {P : Program} {w : World} {K : PySem.W.Frag} {mg : Str → Option Value} {base : Heap}
theorem cal_ofT {x : Str} {st : Stmt} {ps N : List Str} {k : Nat} {sp : Sp} (D : DefE K mg x st ps) (S : FnScope N ps (defScope st)) (hnc : ∀ y ∈ (defScope st).names, y.2 ≠ .cell) (hps : 1 ≤ ps.length) (len : ∀ vs H Q E, sp vs H Q E → vs.length = ps.length)
    (hbody : ∀ (f : Addr) (cdv : Value) (A : Around) (outer : List Env) (s : Shared) (H : Hp) (vs : List V) (Q : VK) (E : XK), Room k (A.deeper (envOfC x (defScope st) s.heap.objs.size f cdv)) → sp vs H Q E →
      ∃ t, PSsT (cxOf CX0 P w K mg base N x (defScope st) f cdv A outer s H E) (defBody st) t ∧ t { nx := fun _ H' => Q .non H', rt := Q } (start N vs) H) : Cal P w K mg base (k + 1) x sp := by
  obtain ⟨f, fd, F, hm, b⟩ := D
  have kp := F.kp
  obtain ⟨oc, od, kV, doc, pm, an, cdv, ct, osl, rfl, lk, hcd⟩ := F.ex
  exact ⟨f, _, ps, fn_ofT lk hcd S hnc hps len (fun A outer s H vs Q E hr h => hbody f cdv A outer s H vs Q E hr h), hm, kp, b⟩
end
/-- x = e, e with s.replace(..) in it -/
theorem pst_set {X : Cx} {i : Nat} {x : Str} {e : Expr} {te : TE} {pos' pos : Pos} (hN : X.N.Nodup) (hi : X.N[i]? = some x) (hx : Loc X.env.scope x) (he : PET X e te)
    (hs : swapsWith e (some (.Name x pos')) pos.line X.env = pure false := by rfl) (hf : X.fn x = true ∨ X.env.scope.names.lookup x = some .local := by first | exact .inl rfl | exact .inr rfl | assumption) :
    PST X (.Assign [.Name x pos'] e pos) (tAsg te (gName i)) := by
  intro pins s σ H D h0 I h
  refine wpAny_Assign_Name (thn (he pins s σ H _ h0 I h) fun v s1 z => ?_) hs
  obtain ⟨y, H1, I1, r1, q1⟩ := z
  exact store_ok I1 hN hi hx r1 (fun s2 I2 => ⟨_, H1, I2, q1⟩) hf
/-- an f-string, its reading by name (for comprehensions) -/
def tJoined (ts : List TE) : TE := fun σ H Q => tJs ts Str.empty σ H fun out H1 => Q (.str out) H1
theorem pe_joinedT {X : Cx} {v1 v2 : Expr} {rest : List Expr} {ts : List TE} {pos : Pos} (h : PJ X (v1 :: v2 :: rest) ts) : PE X (.JoinedStr (v1 :: v2 :: rest) pos) (tJoined ts) := pe_joined h
/-- each sign c of a text becomes z -/
def rep1 (c : Nat) (z l : List Nat) : List Nat := l.flatMap fun d => if d = c then z else [d]
theorem replL_one (c : Nat) (z : List Nat) : ∀ l : List Nat, StrLaws.replL [c] z l = rep1 c z l
  | [] => by rw [StrLaws.replL_nil]; rfl
  | d :: l => by
    by_cases h : d = c
    · subst h
      rw [StrLaws.replL_hit (by simp) (by simp)]
      show z ++ StrLaws.replL [d] z l = _
      rw [replL_one d z l]
      simp [rep1]
    · rw [StrLaws.replL_miss (by simpa using h), replL_one c z l]
      simp [rep1, h]
theorem replace_TX {l z : List Nat} {c : Nat} : Txt.replace (TX l) (TX [c]) (TX z) = TX (rep1 c z l) := by
  have h := StrLaws.replace_list (x := TX l) (y := TX [c]) (z := TX z) (by rw [TX_len]; exact Nat.le_refl _)
  rw [TX_tl, TX_tl, TX_tl, replL_one] at h
  calc Txt.replace (TX l) (TX [c]) (TX z) = TX (Txt.replace (TX l) (TX [c]) (TX z)).cps.toList := by simp
    _ = _ := by rw [h]
theorem join_TX : ∀ ls : List (List Nat), Txt.join (TX []) (ls.map TX) = TX ls.flatten := by
  intro ls
  rw [TL.join_eq]
  induction ls with
  | nil => rfl
  | cons a r ih =>
    cases r with
    | nil =>
      show TX a = _
      simp
    | cons b r =>
      show TX a ++ TX [] ++ Str.join (TX []) ((b :: r).map TX) = _
      rw [ih, TX_cat, TX_cat]
      simp
theorem sum_TX (ls : List (List Nat)) : ((ls.map TX).map (·.length)).sum = ls.flatten.length := by
  induction ls with
  | nil => rfl
  | cons a r ih => simp only [List.map_cons, List.sum_cons, List.flatten_cons, List.length_append, ih, TX_len]
end VL

set_option Elab.async false
set_option linter.all false
set_option maxRecDepth 100000
set_option maxHeartbeats 4000000
namespace VL
open PySem PySem.Spec PyProof.Rows L2

/-! ### a def that is called where nothing is being shown: the law's own; repr of nested data there -/
structure FnG (P : Program) (w : World) (K : PySem.W.Frag) (mg : Str → Option Value) (base : Heap) (k : Nat) (f : Addr) (fd : FuncData) (ps : List Str) (sp : Sp) : Prop where
  run : ∀ (A : Around) (outer : List Env) (s : Shared) (H : Hp) (args : Args) (us : List Value) (vs : List V) (Q : VK) (E : XK), A.guards = some [] → Room k A → Env0 P w K mg base A outer s H → BindsTo s fd args (ps.zip us) → Vals vs us → sp vs H Q E →
    codeAny (model P w) A (.call (.ref f) args) (CR CX0 outer P w H s Q E) s
theorem fnG_of {P : Program} {w : World} {K : PySem.W.Frag} {mg : Str → Option Value} {base : Heap} {x qual : Str} {st : Stmt} {f : Addr} {fd : FuncData} {N ps : List Str} {k : Nat} {sp : Sp} (F : Fun K x qual st f fd) (S : FnScope N ps (defScope st)) (len : ∀ vs H Q E, sp vs H Q E → vs.length = ps.length)
    (hb0 : ∀ (cdv : Value) (A : Around) (outer : List Env) (s : Shared) (H : Hp) (vs : List V) (Q : VK) (E : XK), A.guards = some [] → Room k (A.deeper (envOfC qual (defScope st) s.heap.objs.size f cdv)) → sp vs H Q E →
      ∃ t, PSs (cxOf CX0 P w K mg base N qual (defScope st) f cdv A outer s H E).nox (defBody st) t ∧ t { nx := fun _ H' => Q .non H', rt := Q } (start N vs) H) : FnG P w K mg base (k + 1) f fd ps sp := by
  obtain ⟨oc, od, kV, doc, pm, an, cdv, ct, osl, rfl, lk, hcd⟩ := F.ex
  refine ⟨fun A outer s H args us vs Q E gd hr en hb rv hsp => ?_⟩
  have hlen := len _ _ _ _ hsp
  have kin : K.In s.heap := en.mod.kin.keeps fun b o e => (en.bs b o e).1
  have nl : s.heap.NoLimit := en.mod.nolimit.keeps fun b o e => (en.bs b o e).1
  have kinds : ∀ y ∈ ps.zip us, (defScope st).names.lookup y.1 = some .local ∨ ((defScope st).names.lookup y.1 = some .cell ∧ ((cellsFrom (s.heap.objs.size + 1) (defScope st).names []).lookup y.1).isSome = true) := fun ⟨n, v⟩ hy => by
    rcases S.par n (List.of_mem_zip hy).1 with c | c
    · exact .inl c
    · exact .inr ⟨c, PySem.W.cellsFrom_some _ _ _ (.inl c)⟩
  refine codeAny_call_function hr.depth (kin _ _ lk) rfl S.co S.gen rfl (PySem.W.codeRec_of kin hcd) (hb _ _ _ _ ?_)
  refine wpAny_newFunctionEnv_cells S.kind kinds fun env he s1 ic => ?_
  subst he
  refine ⟨nl.keeps ic.toInCall.keep, codeAny_func ?_⟩
  obtain ⟨t, hd, hq⟩ := hb0 cdv A outer s H vs Q E gd (hr.deeper _) hsp
  have J0 : Inv (cxOf CX0 P w K mg base N qual (defScope st) f cdv A outer s H E) [] (start N vs) H s1 := inv_start S hr.hd en hlen rv ic
  refine wpAny_mono (hd.nox.run [] s1 (start N vs) H _ J0 hq) (fun fl s2 hs => ?_) fun e s2 hs => hs
  have done : ∀ {σ2 : L2.St} {H2 : Hp} {v : V} {u : Value}, Inv (cxOf CX0 P w K mg base N qual (defScope st) f cdv A outer s H E) [] σ2 H2 s2 → RelV v u → Q v H2 → CE outer P w H s Q u s2 :=
    fun {σ2 H2 v u} J rw q => ⟨v, H2, J.os, J.bare, J.base, J.hok, rw, q⟩
  cases fl with
  | ret u =>
    obtain ⟨v, σ2, H2, J, rw, q⟩ := hs
    exact done J rw q
  | next =>
    obtain ⟨σ2, H2, J, q⟩ := hs
    exact done (v := V.non) (u := Value.none) J rfl q
  | brk => exact hs.elim fun _ z => z.elim fun _ z => z.2.elim
  | cont => exact hs.elim fun _ z => z.elim fun _ z => z.2.elim
/-- the law's call, where nothing is being shown -/
theorem law_callG {P : Program} {w : World} {K : PySem.W.Frag} {mg mb : Str → Option Value} {k : Nat} {fa a : Addr} {fd : FuncData} {x : Str} {sp : Sp} {s₁ : Shared} {vs : List Value} {ns : List Int}
    (kin : K.In s₁.heap) (ng : s₁.heap.Ns mainGlobals mg) (nb : s₁.heap.Ns builtinsNs mb) (bb : ∀ x : Str, x ≠ "__name__" → mb x = bootBuiltins x) (nl : s₁.heap.NoLimit) (hgen : s₁.gens = #[])
    (ea : s₁.heap.get? a = some { cls := .type "list", data := .seq vs.toArray }) (hi : IntsAre vs ns) (hz : ns.length ≤ sizeLine) (hr : Room k callerA)
    (F : ∀ base : Heap, K.In base → base.Ns mainGlobals mg → FnG P w K mg base k fa fd [x] sp) (hbind : ∀ (s : Shared) (u : Value), BindsTo s fd ⟨[u], []⟩ [(x, u)])
    (hsp : ∀ H : Hp, Only H → SqL K H a (ns.map V.int) → sp [.ref a] H (fun v _ => v = .bl true) fun _ _ _ => False) :
    codeAny (model P w) callerA (.call (.ref fa) ⟨[.ref a], []⟩) (fun r s2 => r = .ok (.ret (.bool true)) ∧ OldK s₁.heap s2.heap ∧ s2.os = s₁.os ∧ AllBare s2.gens) s₁ := by
  have rel := vals_ints hi
  have lv := hi.length
  have go : ∀ H : Hp, Only H → SqL K H a (ns.map V.int) → HOk P w H s₁.heap → (∀ b, H b ≠ none → b = a) → (H a ≠ none → K.lookup a = none) →
      codeAny (model P w) callerA (.call (.ref fa) ⟨[.ref a], []⟩) (fun r s2 => r = .ok (.ret (.bool true)) ∧ OldK s₁.heap s2.heap ∧ s2.os = s₁.os ∧ AllBare s2.gens) s₁ := by
    intro H ho hq ok only out
    have low : ∀ {b : Addr} {o : Obj}, s₁.heap.get? b = some o → H b = none → (hidT s₁.heap H).get? b = some o := fun e n => hidT_get e n
    have nod : ∀ {b : Addr} {o : Obj} {es : Array DictEntry} {ep : Nat}, s₁.heap.get? b = some o → o.data = .dict es ep → H b = none := fun {b o es ep} e d => by
      cases c : H b with
      | none => rfl
      | some u =>
        obtain rfl : b = a := only b (by rw [c]; simp)
        rw [ea] at e
        cases e
        exact nomatch (show Data.seq vs.toArray _ = Data.dict es ep from d)
    have nsl : ∀ {b : Addr} {m : Str → Option Value}, s₁.heap.Ns b m → (hidT s₁.heap H).Ns b m := fun {b m} ⟨o, es, ep, e, d, r⟩ => ⟨o, es, ep, low e (nod e d), d, r⟩
    have kl : K.In (hidT s₁.heap H) := fun b o e => low (kin b o e) (by
      cases c : H b with
      | none => rfl
      | some u =>
        obtain rfl : b = a := only b (by rw [c]; simp)
        rw [out (by rw [c]; simp)] at e
        exact nomatch e)
    have md : Mod K mg (hidT s₁.heap H) := ⟨kl, nsl ng, ⟨mb, nsl nb, bb⟩, let ⟨mc, h1, h2⟩ := nl; ⟨mc, nsl h1, h2⟩⟩
    have en : Env0 P w K mg (hidT s₁.heap H) callerA [] s₁ H := ⟨rfl, md, fun b o e => of_hidT e, Nat.le_of_eq (hidT_size _ _), trivial, fun b hb => absurd (show b ∈ ([] : List Addr) from hb) (by simp), ok, .of_eq hgen⟩
    refine codeAny_mono ((F _ kl (nsl ng)).run callerA [] s₁ H ⟨[.ref a], []⟩ [.ref a] [.ref a] _ _ rfl hr en (hbind s₁ (.ref a)) (.cons rfl .nil) (hsp H ho hq)) fun r s2 h => ?_
    cases r with
    | error e => exact False.elim h
    | ok fl =>
      cases fl with
      | next => exact h.elim
      | brk => exact h.elim
      | cont => exact h.elim
      | ret u =>
        obtain ⟨v, H2, os, bare, un, ok2, r2, q⟩ := h
        obtain rfl : v = .bl true := q
        obtain rfl : u = Value.bool true := r2
        refine ⟨rfl, OldK.of_keep fun b o e => ?_, os, bare⟩
        cases c : H b with
        | none => exact un.keep b o e c (by intro z; exact absurd (show b ∈ ([] : List Addr) from z) (by simp)) (by simp)
        | some u =>
          rcases ho b with z | ⟨ob, xs, z⟩
          · exact nomatch c.symm.trans z
          · obtain ⟨e1, _⟩ := ok b _ z
            obtain ⟨e2, _⟩ := ok2 b _ (un.frzs b ob _ z)
            rw [e] at e1
            cases e1
            exact e2
  cases hk : K.lookup a with
  | some o =>
    have e := kin a o hk
    rw [ea] at e
    cases e
    exact go (fun _ => none) (fun _ => .inl rfl) (.inr ⟨_, vs.toArray, _, hk, rfl, rfl, rfl, by rw [List.size_toArray, lv]; exact hz, by simpa using rel⟩) (fun b u z => nomatch (show (none : Option HO) = some u from z)) (fun b z => absurd rfl z) fun z => absurd rfl z
  | none =>
    refine go (fun b => if b = a then some (.frz { cls := .type "list", data := .seq vs.toArray } (.lst (ns.map V.int))) else none) (fun b => ?_) (.inl (.inr ⟨{ cls := .type "list", data := .seq vs.toArray }, if_pos rfl⟩)) (fun b u z => ?_) (fun b z => ?_) fun _ => hk
    · by_cases hb : b = a
      · exact Or.inr ⟨_, _, if_pos hb⟩
      · exact Or.inl (if_neg hb)
    · by_cases hb : b = a
      · cases (if_pos hb).symm.trans z
        subst hb
        exact ⟨ea, by rw [List.length_map]; exact hz, vs, _, rel, ea⟩
      · exact nomatch (if_neg hb).symm.trans z
    · by_cases hb : b = a
      · exact hb
      · exact absurd (if_neg hb) z
theorem walk_ofG {l : PySem.W.OpenLaw} {n k : Nat} {q : Program} {loose : List Str} {XP : (Str → Option Value) → Heap → Prop} {YP : World → Heap → Prop} {d : DefRec} {K : Params → PySem.W.Frag} {sp : World → Sp} {x : Str}
    (hn : l.most = some n) (hn2 : n ≤ sizeLine) (hdf : d.params.defaults = []) (hr : Room k callerA) (hY : ∀ (w : World) (h : Heap), YP w h → (K w.params).In h)
    (F : ∀ (w : World) (mg : Str → Option Value) (fa : Addr) (h : Heap), (K w.params).In h → h.Ns mainGlobals mg → mg d.name = some (.ref fa) →
      ∃ fd : FuncData, (∀ (s : Shared) (u : Value), BindsTo s fd ⟨[u], []⟩ [(x, u)]) ∧ ∀ base : Heap, (K w.params).In base → base.Ns mainGlobals mg → FnG l.prog w (K w.params) mg base k fa fd [x] (sp w))
    (hsp : ∀ (w : World) (H : Hp) (a : Addr) (ns : List Int), ns.length ≤ n → Only H → SqL (K w.params) H a (ns.map V.int) → sp w [.ref a] H (fun v _ => v = .bl true) fun _ _ _ => False) :
    PySem.W.WalkO q loose XP YP l.row.toRowW d [] (fun f vs => PySem.call f vs) := by
  refine Att.attach_call hn hdf fun w s₀ s₁ mg mb fa o pm cd doc a vs ns G Y ho hd hcd hmg hobj hints hlen hgen => ?_
  have kin := hY w _ Y
  obtain ⟨fd, hb, hF⟩ := F w mg fa _ kin G.T.g hmg
  exact law_callG kin G.T.g G.T.b G.T.builtins G.T.nolimit hgen hobj hints (Nat.le_trans hlen hn2) hr hF hb fun H ho hq => hsp w H a ns hlen ho hq
end VL

set_option Elab.async false
set_option linter.all false
set_option maxRecDepth 100000
set_option maxHeartbeats 4000000
namespace VL
open PySem PySem.Spec PyProof.Rows L2 PyProof.V

/-! ### repr of a dict of nested data, where nothing is being shown -/
def enK : Key → PyData
  | .inl i => .int i
  | .inr x => .str x
def zipK : List (Key × V) → List PyData → List (PyData × PyData)
  | p :: ks, d :: ds => (enK p.1, d) :: zipK ks ds
  | _, _ => []
theorem zipK_vals : ∀ {ks : List (Key × V)} {ds : List PyData}, ks.length = ds.length → (zipK ks ds).map (·.2) = ds
  | [], [], _ => rfl
  | p :: ks, d :: ds, h => by
    show d :: (zipK ks ds).map (·.2) = d :: ds
    rw [zipK_vals (Nat.succ.inj h)]
theorem dpAll_len {K : PySem.W.Frag} {H : Hp} : ∀ {vs : List V} {ds : List PyData}, DpAll K H vs ds → vs.length = ds.length
  | _, _, .nil => rfl
  | _, _, .cons _ h => by simp [dpAll_len h]
section
variable {X : Cx} {pins : List (Addr × Obj)} {σ : L2.St} {H : Hp} {s : Shared}
theorem enK_reads {h : Heap} {P : Program} {w : World} (k : Key) (key : Value) (e : (mixKind P w).is k key = true) : Reads h key (enK k) [] := by
  rcases keyIs_shape (show keyIs k key = true from e) with ⟨i, t, rfl, rfl⟩ | ⟨x, t, rfl, rfl⟩
  · exact Reads.int i t
  · exact Reads.str x t
theorem pairs_read (I : Inv X pins σ H s) : ∀ {ks : List (Key × V)} {vs : List (Key × Value)} {ds : List PyData}, KV ks vs → DpAll X.K H (ks.map (·.2)) ds → ∃ bs, PairsRead s.heap enK vs (zipK ks ds) bs
  | [], _, _, r, h => by
    cases r
    exact ⟨[], by unfold zipK; exact .nil⟩
  | p :: ks, _, _, r, h => by
    cases r with
    | @cons _ q _ qs h1 h2 =>
      cases h with
      | @cons _ _ d ds g1 g2 =>
        obtain ⟨k, v⟩ := q
        obtain ⟨kp, vp⟩ := p
        obtain ⟨rfl, rv⟩ := h1
        obtain ⟨as, r1⟩ := Dp.reads I d _ _ g1 rv
        obtain ⟨bs, r2⟩ := pairs_read I h2 g2
        exact ⟨as ++ bs, .cons r1 r2⟩
def rRepD (K : PySem.W.Frag) : List V → Hp → VK → Prop := fun xs H Q => ∃ (a : Addr) (ks : List (Key × V)) (ds : List PyData), xs = [.ref a] ∧ H a = some (.dK ks) ∧ DpAll K H (ks.map (·.2)) ds ∧ PyData.showableKv (zipK ks ds) = true ∧ PyData.hasDictAll ds = false ∧
  PyData.depthKv (zipK ks ds) ≤ 40 ∧ (dictText (PyData.shownKv (zipK ks ds))).length ≤ sizeLine ∧ Q (.str (dictText (PyData.shownKv (zipK ks ds)))) H
theorem call_repD (gd : X.A.guards = some []) (hu : X.A.units + 64 < cLine) : CallR X (.builtin "repr") (rRepD X.K) := by
  intro pins s σ H xs us Q I r h
  obtain ⟨a, ks, ds, rfl, ha, hd, sh, nd, dep, len, q⟩ := h
  obtain ⟨u, rfl, ru⟩ := vals1 r
  cases (show u = Value.ref a from ru)
  obtain ⟨_, hsys, vs, rk, dic⟩ := (show ObjOk X.prog X.w H s.heap a (.dK ks) from I.hok a _ ha)
  obtain ⟨bs, pr⟩ := pairs_read I rk hd
  have rd := reads_dictOf (fun k key e => enK_reads k key e) dic pr
  obtain ⟨o, es, ep, ho, hx, hdat, _, hp, _⟩ := dic
  obtain ⟨rk1, rk2⟩ := readsAll_of_pairs (fun k key e => enK_reads k key e) hp pr
  obtain ⟨sh1, sh2⟩ := PyData.showableKv_split _ sh
  have vv : (zipK ks ds).map (·.2) = ds := zipK_vals (by have := dpAll_len hd; rw [List.length_map] at this; exact this)
  obtain ⟨b1, hb1, k1⟩ := ReprAllK.of_readsAll (prog := X.prog) (w := X.w) rk1 sh1 (fun _ z => nomatch z) (fun t ht => let ⟨p, hp, hl⟩ := PyData.shownKv_key_le _ t ht; Nat.le_trans hl (Nat.le_trans (dictText_mem_le hp) len))
  obtain ⟨b2, hb2, k2⟩ := ReprAllK.of_readsAll (prog := X.prog) (w := X.w) rk2 sh2 (fun z => by rw [vv, nd] at z; exact nomatch z) (fun t ht => let ⟨p, hp, hl⟩ := PyData.shownKv_val_le _ t ht; Nat.le_trans hl (Nat.le_trans (dictText_mem_le hp) len))
  have rm : ReadAtMost s.heap (PyData.depthKv (zipK ks ds)) (b1 ++ b2) := (hb1.mono (PyData.depthAll_keys_le _)).append (hb2.mono (PyData.depthAll_vals_le _))
  have na : a ∉ b1 ++ b2 := not_mem_of_deeper rd (by simp only [PyData.depth]; omega) rm
  have EK := ReprEntriesK.of_two es.toList _ _ (k1.more_le (fun b z => List.mem_append_left b2 z) (PyData.depthAll_keys_le (zipK ks ds))) (k2.more_le (fun b z => List.mem_append_right b1 z) (PyData.depthAll_vals_le (zipK ks ds)))
  rw [← PyData.shownKv_eq] at EK
  refine call_repr_slot (T := "dict") (idr := "dict.__repr__") (by omega) ⟨o, ho, hx.1⟩ F.slot_dict_repr (call_dict_reprK (h₀ := s.heap) ho hx.1 hdat hsys na EK gd (fun b _ => Clear.nil b) (by show X.A.units + 1 + (PyData.depthKv (zipK ks ds) + 1) < cLine; omega) (fun _ _ e => e) (fun h2 u tk hk => ?_) len)
  exact ⟨_, _, rfl, .str _, H, I.kept hk, ⟨u, rfl⟩, q⟩
end
theorem strApp (x y : Str) : (x ++ y).length = x.length + y.length := strLen_append x y
theorem textFrom_le : ∀ (ts : List Str) (k : Nat) (acc : Str), (textFrom k acc ts).length ≤ acc.length + piled ts
  | [], k, acc => by show acc.length ≤ _; omega
  | t :: ts, k, acc => by
    have ih := textFrom_le ts (k + 1) (acc ++ (if k > 0 then ", " else "" : String) ++ t)
    have e : (acc ++ (if k > 0 then ", " else "" : String) ++ t).length ≤ acc.length + 2 + t.length := by
      rw [strApp, strApp]
      split
      · exact Nat.le_of_eq rfl
      · show acc.length + 0 + t.length ≤ _
        omega
    show (textFrom (k + 1) (acc ++ (if k > 0 then ", " else "" : String) ++ t) ts).length ≤ _
    have : piled (t :: ts) = t.length + 2 + piled ts := by simp [piled]
    omega
theorem listText_le (ts : List Str) : (listText ts).length ≤ 2 + piled ts := by
  have := textFrom_le ts 0 "["
  have e1 : (("[" : String) : Str).length = 1 := rfl
  have e2 : (("]" : String) : Str).length = 1 := rfl
  unfold listText
  rw [strApp, e2]
  omega
theorem dictText_le (ts : List Str) : (dictText ts).length ≤ 2 + piled ts := by
  have e1 : (("{" : String) : Str).length = 1 := rfl
  have e2 : (("}" : String) : Str).length = 1 := rfl
  unfold dictText
  rw [strApp, strApp, e1, e2]
  by_cases h : ts = []
  · subst h
    show 1 + 0 + 1 ≤ _
    omega
  · have := join_length_add ts h
    omega
theorem piled_le {c : Nat} : ∀ {ts : List Str}, (∀ t ∈ ts, t.length ≤ c) → piled ts ≤ ts.length * (c + 2)
  | [], _ => by simp [piled]
  | t :: ts, h => by
    have ih := piled_le (ts := ts) fun x hx => h x (List.mem_cons_of_mem _ hx)
    have := h t List.mem_cons_self
    have e : piled (t :: ts) = t.length + 2 + piled ts := by simp [piled]
    have e2 : (t :: ts).length * (c + 2) = ts.length * (c + 2) + (c + 2) := by rw [List.length_cons, Nat.succ_mul]
    omega
end VL

set_option Elab.async false
set_option linter.all false
set_option maxRecDepth 100000
set_option maxHeartbeats 4000000
namespace VL
open PySem PySem.Spec PyProof.Rows L2 PyProof.V

/-! ### nested data with dicts: what stands there; repr of it, where nothing is being shown -/
mutual
inductive Dq (H : Hp) : V → PyData → Prop
  | non : Dq H .non .none
  | bl (b : Bool) : Dq H (.bl b) (.bool b)
  | int (i : Int) : Dq H (.int i) (.int i)
  | str (x : Str) : Dq H (.str x) (.str x)
  | lst {a : Addr} {xs : List V} {ds : List PyData} : H a = some (.lst xs) → DqAll H xs ds → Dq H (.ref a) (.list ds)
  | tup {a : Addr} {xs : List V} {ds : List PyData} : H a = some (.tup xs) → DqAll H xs ds → Dq H (.ref a) (.tuple ds)
  | dic {a : Addr} {ks : List (Key × V)} {ds : List PyData} : H a = some (.dK ks) → (ks.map (·.1)).Nodup → DqAll H (ks.map (·.2)) ds → Dq H (.ref a) (.dict (zipK ks ds))
inductive DqAll (H : Hp) : List V → List PyData → Prop
  | nil : DqAll H [] []
  | cons {v : V} {vs : List V} {d : PyData} {ds : List PyData} : Dq H v d → DqAll H vs ds → DqAll H (v :: vs) (d :: ds)
end
theorem DqAll.len {H : Hp} : ∀ {vs : List V} {ds : List PyData}, DqAll H vs ds → vs.length = ds.length
  | _, _, .nil => rfl
  | _, _, .cons _ h => by simp [DqAll.len h]
theorem DqAll.of_each {H : Hp} {P : V → PyData → Prop} : ∀ {vs : List V} {ds : List PyData}, DqAll H vs ds → (∀ v d, Dq H v d → P v d) → Paired P vs ds
  | _, _, .nil, _ => .nil
  | _, _, .cons a b, f => .cons (f _ _ a) (DqAll.of_each b f)
theorem DqAll.paired {H : Hp} : ∀ {vs : List V} {ds : List PyData}, DqAll H vs ds → Paired (Dq H) vs ds
  | _, _, .nil => .nil
  | _, _, .cons a b => .cons a (DqAll.paired b)
theorem DqAll.of_paired {H : Hp} : ∀ {vs : List V} {ds : List PyData}, Paired (Dq H) vs ds → DqAll H vs ds
  | _, _, .nil => .nil
  | _, _, .cons a b => .cons a (DqAll.of_paired b)
theorem dKv_le : ∀ (ks : List (Key × V)) (ds : List PyData), ks.length = ds.length → PyData.depthAll ds ≤ PyData.depthKv (zipK ks ds)
  | [], [], _ => Nat.le_refl _
  | p :: ks, d :: ds, h => by
    have ih := dKv_le ks ds (Nat.succ.inj h)
    show max (PyData.depth d) (PyData.depthAll ds) ≤ max (max (PyData.depth (enK p.1)) (PyData.depth d)) (PyData.depthKv (zipK ks ds))
    omega
theorem dq_mono_n {H H' : Hp} (s : Same H H') : ∀ (n : Nat) (d : PyData) (v : V), PyData.depth d ≤ n → Dq H v d → Dq H' v d := by
  intro n
  induction n with
  | zero =>
    intro d v hn h
    cases h with
    | non => exact .non
    | bl b => exact .bl b
    | int i => exact .int i
    | str x => exact .str x
    | lst _ _ => exact absurd hn (by simp [PyData.depth])
    | tup _ _ => exact absurd hn (by simp [PyData.depth])
    | dic _ _ _ => exact absurd hn (by simp [PyData.depth])
  | succ n ih =>
    have all : ∀ {vs : List V} {ds : List PyData}, DqAll H vs ds → PyData.depthAll ds ≤ n → DqAll H' vs ds := by
      intro vs
      induction vs with
      | nil => intro ds h _; cases h; exact .nil
      | cons v vs iv =>
        intro ds h hd
        cases h with
        | @cons _ _ d ds a b =>
          have hd' : max (PyData.depth d) (PyData.depthAll ds) ≤ n := hd
          exact .cons (ih d v (by omega) a) (iv b (by omega))
    intro d v hn h
    cases h with
    | non => exact .non
    | bl b => exact .bl b
    | int i => exact .int i
    | str x => exact .str x
    | lst h1 h2 => exact .lst (s _ _ h1) (all h2 (by simp only [PyData.depth] at hn; omega))
    | tup h1 h2 => exact .tup (s _ _ h1) (all h2 (by simp only [PyData.depth] at hn; omega))
    | @dic a ks ds h1 nd h2 =>
      have := dKv_le ks ds (by have := h2.len; rwa [List.length_map] at this)
      exact .dic (s _ _ h1) nd (all h2 (by simp only [PyData.depth] at hn; omega))
theorem Dq.same {H H' : Hp} {v : V} {d : PyData} (h : Dq H v d) (s : Same H H') : Dq H' v d := dq_mono_n s _ d v (Nat.le_refl _) h
theorem DqAll.same {H H' : Hp} (s : Same H H') : ∀ {vs : List V} {ds : List PyData}, DqAll H vs ds → DqAll H' vs ds
  | _, _, .nil => .nil
  | _, _, .cons a b => .cons (a.same s) (DqAll.same s b)
section
variable {X : Cx} {pins : List (Addr × Obj)} {σ : L2.St} {H : Hp} {s : Shared}
/-- what repr asks of a value that reads as d -/
def RpOk (X : Cx) (s : Shared) (u : Value) (d : PyData) : Prop := ∃ as bs, Reads s.heap u d as ∧ ReadAtMost s.heap (PyData.depth d) bs ∧ ReprK X.prog X.w bs s.heap (PyData.depth d) u (PyData.shown d)
def RpAll (X : Cx) (s : Shared) (us : List Value) (ds : List PyData) : Prop := ∃ as bs, ReadsAll s.heap us ds as ∧ ReadAtMost s.heap (PyData.depthAll ds) bs ∧ ReprAllK X.prog X.w bs s.heap (PyData.depthAll ds) us (PyData.shownAll ds)
theorem rp_all {n : Nat} (ih : ∀ (d : PyData) (v : V) (u : Value), PyData.depth d ≤ n → Dq H v d → RelV v u → PyData.showable d = true → (PyData.shown d).length ≤ sizeLine → RpOk X s u d) :
    ∀ {vs : List V} {us : List Value} {ds : List PyData}, DqAll H vs ds → PyData.depthAll ds ≤ n → Vals vs us → PyData.showableAll ds = true → (∀ t ∈ PyData.shownAll ds, t.length ≤ sizeLine) → RpAll X s us ds
  | [], us, ds, h, _, r, _, _ => by
    cases h
    cases r
    exact ⟨[], [], .nil, (fun _ h => nomatch h), .nil⟩
  | v :: vs, us, ds, h, hd, r, hs, hz => by
    cases h with
    | @cons _ _ d ds a b =>
      cases r with
      | @cons _ u _ us r1 r2 =>
        have hd' : max (PyData.depth d) (PyData.depthAll ds) ≤ n := hd
        have hs' : PyData.showable d = true ∧ PyData.showableAll ds = true := by simpa [PyData.showableAll] using hs
        obtain ⟨as1, bs1, x1, y1, z1⟩ := ih d v u (by omega) a r1 hs'.1 (hz _ (by simp only [PyData.shownAll]; exact List.mem_cons_self))
        obtain ⟨as2, bs2, x2, y2, z2⟩ := rp_all ih b (by omega) r2 hs'.2 (fun t ht => hz t (by simp only [PyData.shownAll]; exact List.mem_cons_of_mem _ ht))
        refine ⟨as1 ++ as2, bs1 ++ bs2, .cons x1 x2, fun b hm => ?_, ?_⟩
        · show ∃ d' as', Reads s.heap (.ref b) d' as' ∧ PyData.depth d' ≤ max (PyData.depth d) (PyData.depthAll ds)
          rcases List.mem_append.mp hm with hm | hm
          · obtain ⟨d', as', r', hd'⟩ := y1 b hm
            exact ⟨d', as', r', by omega⟩
          · obtain ⟨d', as', r', hd'⟩ := y2 b hm
            exact ⟨d', as', r', by omega⟩
        · simp only [PyData.depthAll, PyData.shownAll]
          exact .cons ((z1.more fun b hb => List.mem_append_left bs2 hb).level_le (Nat.le_max_left _ _)) (z2.more_le (fun b hb => List.mem_append_right bs1 hb) (Nat.le_max_right _ _))
theorem pairs_vals {P : Program} {w : World} : ∀ {es : List DictEntry} {kvs : List (Key × Value)}, Pairs (mixKind P w) es kvs → es.map (·.val) = kvs.map (·.2)
  | _, _, .nil => rfl
  | _, _, .cons _ hv hp => by rw [List.map_cons, List.map_cons, hv, pairs_vals hp]
theorem pairs_keys {h : Heap} {P : Program} {w : World} : ∀ {es : List DictEntry} {vs : List (Key × Value)} {ks : List (Key × V)} {ds : List PyData}, Pairs (mixKind P w) es vs → KV ks vs → ks.length = ds.length → ReadsAll h (es.map (·.key)) ((zipK ks ds).map (·.1)) []
  | _, _, [], [], .nil, _, _ => .nil
  | _, _, p :: ks, d :: ds, .cons (kv := q) hk hv hp, r, hl => by
    cases r with
    | cons r1 r2 =>
      have hk' := hk
      rw [← r1.1] at hk'
      exact ReadsAll.cons (enK_reads _ _ hk') (pairs_keys hp r2 (Nat.succ.inj hl))
  | _, _, p :: ks, d :: ds, .nil, r, hl => by cases r
  | _, _, [], [], .cons _ _ _, r, _ => by cases r
  | _, _, [], d :: ds, _, _, hl => nomatch hl
  | _, _, p :: ks, [], _, _, hl => nomatch hl
theorem kv_vals : ∀ {ks : List (Key × V)} {vs : List (Key × Value)}, KV ks vs → Vals (ks.map (·.2)) (vs.map (·.2))
  | _, _, .nil => .nil
  | _, _, .cons r rs => .cons r.2 (kv_vals rs)
theorem dq_rp (I : Inv X pins σ H s) : ∀ (n : Nat) (d : PyData) (v : V) (u : Value), PyData.depth d ≤ n → Dq H v d → RelV v u → PyData.showable d = true → (PyData.shown d).length ≤ sizeLine → RpOk X s u d := by
  intro n
  induction n with
  | zero =>
    intro d v u hn h r hs hz
    cases h with
    | non => cases r; exact ⟨_, [], .none, (fun _ h => nomatch h), by simp only [PyData.shown]; exact .of_is ReprIs.none _ _ _⟩
    | bl b => cases r; exact ⟨_, [], .bool b, (fun _ h => nomatch h), by simp only [PyData.shown]; exact .of_is (ReprIs.bool b) _ _ _⟩
    | int i =>
      obtain ⟨t, rfl⟩ := r
      exact ⟨_, [], .int i t, (fun _ h => nomatch h), by simp only [PyData.shown]; exact .of_is (ReprIs.int t (by simpa [PyData.showable] using hs)) _ _ _⟩
    | str x =>
      obtain ⟨t, rfl⟩ := r
      exact ⟨_, [], .str x t, (fun _ h => nomatch h), by simp only [PyData.shown]; exact .of_is (ReprIs.str x t (by simpa only [PyData.shown] using hz)) _ _ _⟩
    | lst _ _ => exact absurd hn (by simp [PyData.depth])
    | tup _ _ => exact absurd hn (by simp [PyData.depth])
    | dic _ _ _ => exact absurd hn (by simp [PyData.depth])
  | succ n ih =>
    intro d v u hn h r hs hz
    cases h with
    | non => exact ih _ _ _ (Nat.zero_le _) .non r hs hz
    | bl b => exact ih _ _ _ (Nat.zero_le _) (.bl b) r hs hz
    | int i => exact ih _ _ _ (Nat.zero_le _) (.int i) r hs hz
    | str x => exact ih _ _ _ (Nat.zero_le _) (.str x) r hs hz
    | @lst a xs ds h1 h2 =>
      cases (show u = Value.ref a from r)
      obtain ⟨_, its, m, rv, ho⟩ := (show ObjOk X.prog X.w H s.heap a (.lst xs) from I.hok a _ h1)
      have zz : (listText (PyData.shownAll ds)).length ≤ sizeLine := by simpa only [PyData.shown] using hz
      obtain ⟨as, bs, ra, rm, rk⟩ := rp_all ih h2 (by simp only [PyData.depth] at hn; omega) rv (by simpa [PyData.showable] using hs) (fun t ht => Nat.le_trans (listText_mem_le ht) zz)
      have rd : Reads s.heap (.ref a) (.list ds) (a :: as) := .list ho rfl rfl ra
      have na : a ∉ bs := not_mem_of_deeper rd (by simp only [PyData.depth]; omega) rm
      refine ⟨_, a :: bs, rd, ReadAtMost.cons rd (by simp only [PyData.depth]; omega) rm, ?_⟩
      simp only [PyData.depth, PyData.shown]
      cases its with
      | nil =>
        cases ra
        simp only [PyData.shownAll, listText_nil]
        exact ReprK.listEmpty ho rfl rfl
      | cons x l => exact ReprK.list ho rfl rfl na (by simpa using rk.length_eq) (fun i y e => rk.item i y (by simpa using e))
    | @tup a xs ds h1 h2 =>
      cases (show u = Value.ref a from r)
      obtain ⟨_, its, rv, o, ho, oc, m, od⟩ := (show ObjOk X.prog X.w H s.heap a (.tup xs) from I.hok a _ h1)
      have zz : (tupleText (PyData.shownAll ds)).length ≤ sizeLine := by simpa only [PyData.shown] using hz
      obtain ⟨as, bs, ra, rm, rk⟩ := rp_all ih h2 (by simp only [PyData.depth] at hn; omega) rv (by simpa [PyData.showable] using hs) (fun t ht => Nat.le_trans (tupleText_mem_le ht) zz)
      have rd : Reads s.heap (.ref a) (.tuple ds) as := .tuple ho oc od ra
      have na : a ∉ bs := not_mem_of_deeper rd (by simp only [PyData.depth]; omega) rm
      refine ⟨_, a :: bs, rd, ReadAtMost.cons rd (by simp only [PyData.depth]; omega) rm, ?_⟩
      simp only [PyData.depth, PyData.shown]
      exact ReprK.tuple ho oc od na rk
    | @dic a ks ds h1 nd h2 =>
      cases (show u = Value.ref a from r)
      obtain ⟨_, hsys, vs, rkv, dof⟩ := (show ObjOk X.prog X.w H s.heap a (.dK ks) from I.hok a _ h1)
      have kl : ks.length = ds.length := by have := h2.len; rwa [List.length_map] at this
      have zz : (dictText (PyData.shownKv (zipK ks ds))).length ≤ sizeLine := by simpa only [PyData.shown] using hz
      obtain ⟨o, es, ep, ho, hx, hdat, _, hp, _⟩ := dof
      have vv : (zipK ks ds).map (·.2) = ds := zipK_vals kl
      obtain ⟨sh1, sh2⟩ := PyData.showableKv_split _ (show PyData.showableKv (zipK ks ds) = true by simpa [PyData.showable] using hs)
      rw [vv] at sh2
      have rk1 : ReadsAll s.heap (es.toList.map (·.key)) ((zipK ks ds).map (·.1)) [] := pairs_keys hp rkv kl
      have dle := dKv_le ks ds kl
      obtain ⟨as2, b2, ra2, hb2, k2⟩ := rp_all ih h2 (by simp only [PyData.depth] at hn; omega) (kv_vals rkv) sh2 (fun t ht => by
        rw [← vv] at ht
        obtain ⟨p, hp, hl⟩ := PyData.shownKv_val_le _ t ht
        exact Nat.le_trans hl (Nat.le_trans (dictText_mem_le hp) zz))
      obtain ⟨b1, hb1, k1⟩ := ReprAllK.of_readsAll (prog := X.prog) (w := X.w) rk1 sh1 (fun _ z => nomatch z) (fun t ht => let ⟨p, hp, hl⟩ := PyData.shownKv_key_le _ t ht; Nat.le_trans hl (Nat.le_trans (dictText_mem_le hp) zz))
      have ev : es.toList.map (·.val) = vs.map (·.2) := pairs_vals hp
      rw [← ev] at ra2 k2
      have ra2' : ReadsAll s.heap (es.toList.map (·.val)) ((zipK ks ds).map (·.2)) as2 := by rw [vv]; exact ra2
      have rd : Reads s.heap (.ref a) (.dict (zipK ks ds)) (a :: [] ++ as2) := .dict ho hx.1 hdat rk1 ra2'
      have rm : ReadAtMost s.heap (PyData.depthKv (zipK ks ds)) (b1 ++ b2) := (hb1.mono (PyData.depthAll_keys_le _)).append (hb2.mono dle)
      have na : a ∉ b1 ++ b2 := not_mem_of_deeper rd (by simp only [PyData.depth]; omega) rm
      refine ⟨_, a :: (b1 ++ b2), rd, ReadAtMost.cons rd (by simp only [PyData.depth]; omega) rm, ?_⟩
      have EK := ReprEntriesK.of_two es.toList _ _ (k1.more_le (fun b z => List.mem_append_left b2 z) (PyData.depthAll_keys_le (zipK ks ds))) (k2.more_le (fun b z => List.mem_append_right b1 z) dle)
      rw [show PyData.shownAll ds = PyData.shownAll ((zipK ks ds).map (·.2)) by rw [vv], ← PyData.shownKv_eq] at EK
      simp only [PyData.depth, PyData.shown]
      exact ReprK.dict ho hx.1 hdat hsys na EK
theorem rp_list (I : Inv X pins σ H s) {vs : List V} {us : List Value} {ds : List PyData} (h : DqAll H vs ds) (r : Vals vs us) (hs : PyData.showableAll ds = true) (hz : ∀ t ∈ PyData.shownAll ds, t.length ≤ sizeLine) : RpAll X s us ds :=
  rp_all (fun d v u hn => dq_rp I _ d v u hn) h (Nat.le_refl _) r hs hz
def rRepQ : List V → Hp → VK → Prop := fun xs H Q => ∃ (a : Addr) (d : PyData), xs = [.ref a] ∧ Dq H (.ref a) d ∧ PyData.showable d = true ∧ PyData.depth d ≤ 40 ∧ (PyData.shown d).length ≤ sizeLine ∧ Q (.str (PyData.shown d)) H
theorem call_repQ (gd : X.A.guards = some []) (hu : X.A.units + 64 < cLine) : CallR X (.builtin "repr") rRepQ := by
  intro pins s σ H xs us Q I r h
  obtain ⟨a, d, rfl, hd, hs, dep, hz, q⟩ := h
  obtain ⟨u, rfl, ru⟩ := vals1 r
  cases (show u = Value.ref a from ru)
  have fin : ∀ (h' : Heap) (v : Tok) (tk : Nat), (∀ b o, s.heap.get? b = some o → h'.get? b = some o) → EP X pins σ Q (.str (PyData.shown d) v) { s with heap := h', toks := tk } := fun h' v tk hk => ⟨.str _, H, I.kept hk, ⟨v, rfl⟩, q⟩
  cases hd with
  | @lst _ xs ds h1 h2 =>
    obtain ⟨_, its, m, rv, ho⟩ := (show ObjOk X.prog X.w H s.heap a (.lst xs) from I.hok a _ h1)
    have zz : (listText (PyData.shownAll ds)).length ≤ sizeLine := by simpa only [PyData.shown] using hz
    obtain ⟨as, bs, ra, rm, rk⟩ := rp_list I h2 rv (by simpa [PyData.showable] using hs) (fun t ht => Nat.le_trans (listText_mem_le ht) zz)
    have rd : Reads s.heap (.ref a) (.list ds) (a :: as) := .list ho rfl rfl ra
    have na : a ∉ bs := not_mem_of_deeper rd (by simp only [PyData.depth]; omega) rm
    simp only [PyData.depth] at dep
    simp only [PyData.shown] at fin
    cases its with
    | nil =>
      cases ra
      simp only [PyData.shownAll, listText_nil] at fin
      exact call_repr_slot (T := "list") (by omega) ⟨_, ho, rfl⟩ F.slot_list_repr.toG (call_list_repr_empty ⟨_, ho, rfl⟩ ho rfl ⟨_, _, rfl, fin s.heap _ _ fun _ _ e => e⟩)
    | cons x l =>
      exact call_repr_slot (T := "list") (by omega) ⟨_, ho, rfl⟩ F.slot_list_repr.toG (call_list_reprK (h₀ := s.heap) ho rfl rfl na (by simpa using rk.length_eq) (fun i y e => rk.item i y (by simpa using e)) gd (fun b _ => Clear.nil b) (by show X.A.units + 1 + _ < cLine; omega) (fun _ _ e => e) (fun h' v tk hk => ⟨_, _, rfl, fin h' v tk hk⟩) zz)
  | @tup _ xs ds h1 h2 =>
    obtain ⟨_, its, rv, o, ho, oc, m, od⟩ := (show ObjOk X.prog X.w H s.heap a (.tup xs) from I.hok a _ h1)
    have zz : (tupleText (PyData.shownAll ds)).length ≤ sizeLine := by simpa only [PyData.shown] using hz
    obtain ⟨as, bs, ra, rm, rk⟩ := rp_list I h2 rv (by simpa [PyData.showable] using hs) (fun t ht => Nat.le_trans (tupleText_mem_le ht) zz)
    have rd : Reads s.heap (.ref a) (.tuple ds) as := .tuple ho oc od ra
    have na : a ∉ bs := not_mem_of_deeper rd (by simp only [PyData.depth]; omega) rm
    simp only [PyData.depth] at dep
    simp only [PyData.shown] at fin
    exact call_repr_slot (T := "tuple") (by omega) ⟨_, ho, oc⟩ F.slot_tuple_repr (call_tuple_reprK (h₀ := s.heap) ho oc od na rk gd (fun b _ => Clear.nil b) (by show X.A.units + 1 + _ < cLine; omega) (fun _ _ e => e) (fun h' v tk hk => ⟨_, _, rfl, fin h' v tk hk⟩) zz)
  | @dic _ ks ds h1 nd h2 =>
    obtain ⟨_, hsys, vs, rkv, dof⟩ := (show ObjOk X.prog X.w H s.heap a (.dK ks) from I.hok a _ h1)
    have kl : ks.length = ds.length := by have := h2.len; rwa [List.length_map] at this
    have zz : (dictText (PyData.shownKv (zipK ks ds))).length ≤ sizeLine := by simpa only [PyData.shown] using hz
    obtain ⟨o, es, ep, ho, hx, hdat, _, hp, _⟩ := dof
    have vv : (zipK ks ds).map (·.2) = ds := zipK_vals kl
    obtain ⟨sh1, sh2⟩ := PyData.showableKv_split _ (show PyData.showableKv (zipK ks ds) = true by simpa [PyData.showable] using hs)
    rw [vv] at sh2
    have rk1 : ReadsAll s.heap (es.toList.map (·.key)) ((zipK ks ds).map (·.1)) [] := pairs_keys hp rkv kl
    have dle := dKv_le ks ds kl
    obtain ⟨as2, b2, ra2, hb2, k2⟩ := rp_list I h2 (kv_vals rkv) sh2 (fun t ht => by
      rw [← vv] at ht
      obtain ⟨p, hp, hl⟩ := PyData.shownKv_val_le _ t ht
      exact Nat.le_trans hl (Nat.le_trans (dictText_mem_le hp) zz))
    obtain ⟨b1, hb1, k1⟩ := ReprAllK.of_readsAll (prog := X.prog) (w := X.w) rk1 sh1 (fun _ z => nomatch z) (fun t ht => let ⟨p, hp, hl⟩ := PyData.shownKv_key_le _ t ht; Nat.le_trans hl (Nat.le_trans (dictText_mem_le hp) zz))
    have ev : es.toList.map (·.val) = vs.map (·.2) := pairs_vals hp
    rw [← ev] at ra2 k2
    have ra2' : ReadsAll s.heap (es.toList.map (·.val)) ((zipK ks ds).map (·.2)) as2 := by rw [vv]; exact ra2
    have rd : Reads s.heap (.ref a) (.dict (zipK ks ds)) (a :: [] ++ as2) := .dict ho hx.1 hdat rk1 ra2'
    have rm : ReadAtMost s.heap (PyData.depthKv (zipK ks ds)) (b1 ++ b2) := (hb1.mono (PyData.depthAll_keys_le _)).append (hb2.mono dle)
    have na : a ∉ b1 ++ b2 := not_mem_of_deeper rd (by simp only [PyData.depth]; omega) rm
    have EK := ReprEntriesK.of_two es.toList _ _ (k1.more_le (fun b z => List.mem_append_left b2 z) (PyData.depthAll_keys_le (zipK ks ds))) (k2.more_le (fun b z => List.mem_append_right b1 z) dle)
    rw [show PyData.shownAll ds = PyData.shownAll ((zipK ks ds).map (·.2)) by rw [vv], ← PyData.shownKv_eq] at EK
    simp only [PyData.depth] at dep
    simp only [PyData.shown] at fin
    exact call_repr_slot (T := "dict") (idr := "dict.__repr__") (by omega) ⟨o, ho, hx.1⟩ F.slot_dict_repr (call_dict_reprK (h₀ := s.heap) ho hx.1 hdat hsys na EK gd (fun b _ => Clear.nil b) (by show X.A.units + 1 + _ < cLine; omega) (fun _ _ e => e) (fun h' v tk hk => ⟨_, _, rfl, fin h' v tk hk⟩) zz)
end
end VL

set_option Elab.async false
set_option linter.all false
set_option maxRecDepth 100000
set_option maxHeartbeats 4000000
namespace VL
open PySem PySem.Spec PyProof.Rows L2
/-! ### dict comprehensions over any walk; dicts read while locked -/
theorem dc_itQ {J : It} {n : Nat} {G : Hp → Prop} {Y : Nat → Hp → V → Hp → Prop} (w : Walk J n G Y) {g : TG} {tt : TT} {tk tv : TE} {vs : List Nat} {σ : L2.St} {H1 : Hp} {D : Addr} {Qd : Hp → Prop} (Pv : Nat → Hp → Prop) (h0 : Pv 0 (upd H1 D (.dK []))) (hG : ∀ i H, i ≤ n → Pv i H → G H)
    (hs : ∀ i x H H', i < n → Pv i H → Y i H x H' → g x (wipe σ vs) H' fun σ2 H2 => wipe σ2 vs = wipe σ vs ∧ tt σ2 H2 fun b H3 =>
      if b = true then tk σ2 H3 fun y H4 => tv σ2 H4 fun z H5 => ∃ kvs k, y = kV k ∧ H5 D = some (.dK kvs) ∧ kvs.length < sizeLine ∧ Pv (i + 1) (upd H5 D (.dK (putK kvs k z))) else Pv (i + 1) H3) (hd : ∀ H, Pv n H → Qd H) :
    ∃ W : Nat → Nat → Hp → Prop, (∃ m, W 0 m (upd H1 D (.dK []))) ∧ ∀ i m H, W i m H →
      (J.stop i H ∧ Qd H) ∨ (J.go i H ∧ ∃ Nx : Hp → Prop, (∀ H', Nx H' → ∃ m', m' < m ∧ W (i + 1) m' H') ∧ ∀ x H', J.yld i H x H' → g x (wipe σ vs) H' fun σ2 H2 => wipe σ2 vs = wipe σ vs ∧ tt σ2 H2 fun b H3 =>
        if b = true then tk σ2 H3 fun y H4 => tv σ2 H4 fun z H5 => ∃ kvs k, y = kV k ∧ H5 D = some (.dK kvs) ∧ kvs.length < sizeLine ∧ Nx (upd H5 D (.dK (putK kvs k z))) else Nx H3) := by
  refine ⟨fun i m H => m = n - i ∧ i ≤ n ∧ Pv i H, ⟨n, by simp, Nat.zero_le _, h0⟩, ?_⟩
  rintro i m H ⟨rfl, hi, p⟩
  have q := hG i H hi p
  by_cases hlt : i < n
  · refine .inr ⟨w.goes i H hlt q, Pv (i + 1), fun H' p' => ⟨n - (i + 1), by omega, rfl, hlt, p'⟩, fun x H' y => hs i x H H' hlt p (w.yields i H x H' hlt q y)⟩
  · have e : i = n := by omega
    subst e
    exact .inl ⟨w.stops H q, hd H p⟩
theorem dget_fz {H : Hp} {a : Addr} {o : Obj} {kvs : List (Key × V)} {k : Key} (e : H a = some (.frz o (.dK kvs))) : DGet H a (kV k) (valV kvs k) := .inl ⟨kvs, k, .inr ⟨o, e⟩, rfl, rfl⟩
theorem putK_nw {ks : List (Key × V)} {k : Key} {v : V} (h : valV ks k = none) : putK ks k v = ks ++ [(k, v)] := by
  unfold putK
  rw [valV_any, h]
  rfl
theorem valV_out {ks : List (Key × V)} {k : Key} (h : k ∉ ks.map (·.1)) : valV ks k = none := by
  induction ks with
  | nil => rfl
  | cons p ks ih =>
    rw [valV_neg (fun z => h (by rw [List.map_cons, ← z]; exact List.mem_cons_self))]
    exact ih fun z => h (List.mem_cons_of_mem _ z)
theorem valV_nd : ∀ {ks : List (Key × V)} {i : Nat} {k : Key} {v : V}, (ks.map (·.1)).Nodup → ks[i]? = some (k, v) → valV ks k = some v
  | [], _, _, _, _, h => by simp at h
  | p :: ks, 0, k, v, nd, h => by
    simp at h
    subst h
    exact valV_pos rfl
  | p :: ks, i + 1, k, v, nd, h => by
    simp at h
    rw [List.map_cons, List.nodup_cons] at nd
    have hm : k ∈ ks.map (·.1) := List.mem_map.mpr ⟨_, List.mem_of_getElem? h, rfl⟩
    rw [valV_neg (fun z => nd.1 (by rw [z]; exact hm))]
    exact valV_nd nd.2 h
theorem zipK_keys : ∀ {ks ls : List (Key × V)} {ds : List PyData}, ks.map (·.1) = ls.map (·.1) → zipK ks ds = zipK ls ds
  | [], [], _, _ => by unfold zipK; rfl
  | p :: ks, q :: ls, [], h => by unfold zipK; rfl
  | p :: ks, q :: ls, d :: ds, h => by
    rw [List.map_cons, List.map_cons] at h
    injection h with h1 h2
    show (enK p.1, d) :: zipK ks ds = (enK q.1, d) :: zipK ls ds
    rw [h1, zipK_keys h2]
  | [], q :: ls, _, h => nomatch h
  | p :: ks, [], _, h => nomatch h
theorem zipK_app : ∀ {ks ls : List (Key × V)} {ds es : List PyData}, ks.length = ds.length → zipK (ks ++ ls) (ds ++ es) = zipK ks ds ++ zipK ls es
  | [], ls, [], es, _ => rfl
  | p :: ks, ls, d :: ds, es, h => by
    show (enK p.1, d) :: zipK (ks ++ ls) (ds ++ es) = (enK p.1, d) :: zipK ks ds ++ zipK ls es
    rw [zipK_app (Nat.succ.inj h)]
    rfl
theorem enK_inj {a b : Key} (h : enK a = enK b) : a = b := by
  cases a with
  | inl i => cases b with
    | inl j => injection h with h; rw [h]
    | inr y => exact nomatch h
  | inr x => cases b with
    | inl j => exact nomatch h
    | inr y => injection h with h; rw [h]
/-! ### what stands there is one thing -/
theorem dq_det_n {H : Hp} : ∀ (n : Nat) (d d' : PyData) (v : V), PyData.depth d ≤ n → Dq H v d → Dq H v d' → d = d' := by
  intro n
  induction n with
  | zero =>
    intro d d' v hn h h'
    cases h with
    | non => cases h'; rfl
    | bl b => cases h'; rfl
    | int i => cases h'; rfl
    | str x => cases h'; rfl
    | lst _ _ => exact absurd hn (by simp [PyData.depth])
    | tup _ _ => exact absurd hn (by simp [PyData.depth])
    | dic _ _ _ => exact absurd hn (by simp [PyData.depth])
  | succ n ih =>
    have all : ∀ {vs : List V} {ds es : List PyData}, DqAll H vs ds → DqAll H vs es → PyData.depthAll ds ≤ n → ds = es := by
      intro vs
      induction vs with
      | nil => intro ds es h h' _; cases h; cases h'; rfl
      | cons v vs iv =>
        intro ds es h h' hd
        cases h with
        | @cons _ _ d ds a b =>
          cases h' with
          | @cons _ _ e es a' b' =>
            have hd' : max (PyData.depth d) (PyData.depthAll ds) ≤ n := hd
            rw [ih d e v (by omega) a a', iv b b' (by omega)]
    intro d d' v hn h h'
    cases h with
    | non => cases h'; rfl
    | bl b => cases h'; rfl
    | int i => cases h'; rfl
    | str x => cases h'; rfl
    | lst h1 h2 =>
      simp only [PyData.depth] at hn
      cases h' with
      | lst g1 g2 => rw [h1] at g1; cases g1; rw [all h2 g2 (by omega)]
      | tup g1 g2 => rw [h1] at g1; cases g1
      | dic g1 _ g2 => rw [h1] at g1; cases g1
    | tup h1 h2 =>
      simp only [PyData.depth] at hn
      cases h' with
      | lst g1 g2 => rw [h1] at g1; cases g1
      | tup g1 g2 => rw [h1] at g1; cases g1; rw [all h2 g2 (by omega)]
      | dic g1 _ g2 => rw [h1] at g1; cases g1
    | @dic a ks ds h1 nd h2 =>
      have := dKv_le ks ds (by have := h2.len; rwa [List.length_map] at this)
      simp only [PyData.depth] at hn
      cases h' with
      | lst g1 g2 => rw [h1] at g1; cases g1
      | tup g1 g2 => rw [h1] at g1; cases g1
      | dic g1 _ g2 => rw [h1] at g1; cases g1; rw [all h2 g2 (by omega)]
theorem Dq.det {H : Hp} {v : V} {d d' : PyData} (h : Dq H v d) (h' : Dq H v d') : d = d' := dq_det_n _ d d' v (Nat.le_refl _) h h'
/-- a store at what is deeper changes nothing -/
theorem dq_upd_n {H : Hp} {a : Addr} {da : PyData} {o : HO} (ha : Dq H (.ref a) da) : ∀ (n : Nat) (d : PyData) (v : V), PyData.depth d ≤ n → PyData.depth d < PyData.depth da → Dq H v d → Dq (upd H a o) v d := by
  intro n
  induction n with
  | zero =>
    intro d v hn _ h
    cases h with
    | non => exact .non
    | bl b => exact .bl b
    | int i => exact .int i
    | str x => exact .str x
    | lst _ _ => exact absurd hn (by simp [PyData.depth])
    | tup _ _ => exact absurd hn (by simp [PyData.depth])
    | dic _ _ _ => exact absurd hn (by simp [PyData.depth])
  | succ n ih =>
    have all : ∀ {vs : List V} {ds : List PyData}, DqAll H vs ds → PyData.depthAll ds ≤ n → PyData.depthAll ds < PyData.depth da → DqAll (upd H a o) vs ds := by
      intro vs
      induction vs with
      | nil => intro ds h _ _; cases h; exact .nil
      | cons v vs iv =>
        intro ds h hd hl
        cases h with
        | @cons _ _ d ds b c =>
          have hd' : max (PyData.depth d) (PyData.depthAll ds) ≤ n := hd
          have hl' : max (PyData.depth d) (PyData.depthAll ds) < PyData.depth da := hl
          exact .cons (ih d v (by omega) (by omega) b) (iv c (by omega) (by omega))
    intro d v hn hl h
    have ne : ∀ b : Addr, v = .ref b → b ≠ a := fun b e z => by
      subst e
      subst z
      rw [h.det ha] at hl
      exact Nat.lt_irrefl _ hl
    cases h with
    | non => exact .non
    | bl b => exact .bl b
    | int i => exact .int i
    | str x => exact .str x
    | lst h1 h2 =>
      simp only [PyData.depth] at hn hl
      exact .lst (by rw [upd_ne (ne _ rfl)]; exact h1) (all h2 (by omega) (by omega))
    | tup h1 h2 =>
      simp only [PyData.depth] at hn hl
      exact .tup (by rw [upd_ne (ne _ rfl)]; exact h1) (all h2 (by omega) (by omega))
    | @dic b ks ds h1 nd h2 =>
      have := dKv_le ks ds (by have := h2.len; rwa [List.length_map] at this)
      simp only [PyData.depth] at hn hl
      exact .dic (by rw [upd_ne (ne _ rfl)]; exact h1) nd (all h2 (by omega) (by omega))
theorem Dq.upd {H : Hp} {a : Addr} {da d : PyData} {v : V} {o : HO} (h : Dq H v d) (ha : Dq H (.ref a) da) (hl : PyData.depth d < PyData.depth da) : Dq (upd H a o) v d := dq_upd_n ha _ d v (Nat.le_refl _) hl h
theorem mem_depth {d : PyData} : ∀ {ds : List PyData}, d ∈ ds → PyData.depth d ≤ PyData.depthAll ds
  | e :: ds, h => by
    show _ ≤ max (PyData.depth e) (PyData.depthAll ds)
    rcases List.mem_cons.mp h with rfl | h
    · omega
    · have := mem_depth h
      omega
/-! ### reading a dict's data -/
def keyB : PyData → Key → Bool
  | .int i, .inl j => decide (i = j)
  | .str x, .inr y => decide (x = y)
  | _, _ => false
theorem keyB_en (a b : Key) : keyB (enK a) b = decide (a = b) := by
  cases a with
  | inl i => cases b with
    | inl j => show decide (i = j) = decide (Sum.inl i = Sum.inl j); by_cases e : i = j <;> simp [e]
    | inr y => show false = decide (Sum.inl i = Sum.inr y); simp
  | inr x => cases b with
    | inl j => show false = decide (Sum.inr x = Sum.inl j); simp
    | inr y => show decide (x = y) = decide (Sum.inr x = Sum.inr y); by_cases e : x = y <;> simp [e]
def lkp : List (PyData × PyData) → Key → Option PyData
  | [], _ => none
  | p :: r, k => if keyB p.1 k = true then some p.2 else lkp r k
theorem lkp_at {H : Hp} {k : Key} : ∀ {ks : List (Key × V)} {ds : List PyData}, DqAll H (ks.map (·.2)) ds → (lkp (zipK ks ds) k = none ∧ valV ks k = none) ∨ ∃ d v, lkp (zipK ks ds) k = some d ∧ valV ks k = some v ∧ Dq H v d
  | [], ds, h => by
    cases h
    exact .inl ⟨rfl, rfl⟩
  | p :: ks, _, .cons (d := d) (ds := ds) a b => by
    have e : lkp (zipK (p :: ks) (d :: ds)) k = if keyB (enK p.1) k = true then some d else lkp (zipK ks ds) k := rfl
    rw [e, keyB_en]
    by_cases q : p.1 = k
    · rw [if_pos (decide_eq_true q), valV_pos q]
      exact .inr ⟨d, p.2, rfl, rfl, a⟩
    · rw [if_neg (by simp [q]), valV_neg q]
      exact lkp_at b
theorem dq_dict {H : Hp} {v : V} {kvs : List (PyData × PyData)} (h : Dq H v (.dict kvs)) : ∃ a ks, v = .ref a ∧ H a = some (.dK ks) ∧ (ks.map (·.1)).Nodup ∧ ks.length = kvs.length ∧
    ∀ k, (lkp kvs k = none ∧ valV ks k = none) ∨ ∃ d v, lkp kvs k = some d ∧ valV ks k = some v ∧ Dq H v d := by
  cases h with
  | @dic a ks ds h1 nd h2 =>
    refine ⟨a, ks, rfl, h1, nd, ?_, fun k => lkp_at h2⟩
    have e : ks.length = ds.length := by have := h2.len; rwa [List.length_map] at this
    have : ((zipK ks ds).map (·.2)).length = ds.length := by rw [zipK_vals e]
    rw [List.length_map] at this
    omega
theorem dq_list {H : Hp} {v : V} {ds : List PyData} (h : Dq H v (.list ds)) : ∃ a xs, v = .ref a ∧ H a = some (.lst xs) ∧ DqAll H xs ds := by
  cases h with
  | @lst a xs _ h1 h2 => exact ⟨a, xs, rfl, h1, h2⟩
theorem dq_tup {H : Hp} {v : V} {ds : List PyData} (h : Dq H v (.tuple ds)) : ∃ a xs, v = .ref a ∧ H a = some (.tup xs) ∧ DqAll H xs ds := by
  cases h with
  | @tup a xs _ h1 h2 => exact ⟨a, xs, rfl, h1, h2⟩
theorem dqAll_at {H : Hp} : ∀ {vs : List V} {ds : List PyData}, DqAll H vs ds → ∀ {i : Nat} {d : PyData}, ds[i]? = some d → ∃ v, vs[i]? = some v ∧ Dq H v d
  | _, _, .nil, i, d, h => by simp at h
  | _, _, .cons a b, 0, d, h => by
    simp at h
    subst h
    exact ⟨_, rfl, a⟩
  | _, _, .cons a b, i + 1, d, h => by
    simp at h
    obtain ⟨v, h1, h2⟩ := dqAll_at b h
    exact ⟨v, by simpa using h1, h2⟩
theorem dqAll_ap {H : Hp} : ∀ {vs ws : List V} {ds es : List PyData}, DqAll H vs ds → DqAll H ws es → DqAll H (vs ++ ws) (ds ++ es)
  | _, _, _, _, .nil, q => q
  | _, _, _, _, .cons a b, q => .cons a (dqAll_ap b q)
/-! ### small data -/
structure Small (c k : Nat) (d : PyData) : Prop where
  sh : PyData.showable d = true
  dp : PyData.depth d ≤ k
  ln : (PyData.shown d).length ≤ c
theorem Small.mono {c k c' k' : Nat} {d : PyData} (h : Small c k d) (h1 : c ≤ c') (h2 : k ≤ k') : Small c' k' d := ⟨h.sh, Nat.le_trans h.dp h2, Nat.le_trans h.ln h1⟩
theorem tupText_le (ts : List Str) : (tupleText ts).length ≤ 3 + piled ts := by
  have e1 : ((("(" : String) : Str)).length = 1 := rfl
  have e3 : (((if ts.length == 1 then ",)" else ")" : String) : Str)).length ≤ 2 := by split <;> decide
  unfold tupleText
  rw [strApp, strApp, e1]
  by_cases h : ts = []
  · subst h
    have : (Str.join ", " ([] : List Str)).length = 0 := rfl
    omega
  · have := join_length_add ts h
    omega
theorem shAll_mem : ∀ {ds : List PyData}, (∀ d ∈ ds, PyData.showable d = true) → PyData.showableAll ds = true
  | [], _ => rfl
  | d :: ds, h => by
    show (PyData.showable d && PyData.showableAll ds) = true
    rw [h d List.mem_cons_self, shAll_mem fun x hx => h x (List.mem_cons_of_mem _ hx)]
    rfl
theorem dpAll_mem {k : Nat} : ∀ {ds : List PyData}, (∀ d ∈ ds, PyData.depth d ≤ k) → PyData.depthAll ds ≤ k
  | [], _ => Nat.zero_le _
  | d :: ds, h => by
    show max (PyData.depth d) (PyData.depthAll ds) ≤ k
    have := h d List.mem_cons_self
    have := dpAll_mem fun x hx => h x (List.mem_cons_of_mem _ hx)
    omega
theorem shownAll_len : ∀ ds : List PyData, (PyData.shownAll ds).length = ds.length
  | [] => rfl
  | d :: ds => by
    show (PyData.shownAll ds).length + 1 = _
    rw [shownAll_len ds]
    rfl
theorem shownAll_mem : ∀ {ds : List PyData} {t : Str}, t ∈ PyData.shownAll ds → ∃ d ∈ ds, t = PyData.shown d
  | d :: ds, t, h => by
    rcases List.mem_cons.mp (show t ∈ PyData.shown d :: PyData.shownAll ds from h) with rfl | h
    · exact ⟨d, List.mem_cons_self, rfl⟩
    · obtain ⟨e, h1, h2⟩ := shownAll_mem h
      exact ⟨e, List.mem_cons_of_mem _ h1, h2⟩
theorem piledAll {c k : Nat} {ds : List PyData} (h : ∀ d ∈ ds, Small c k d) : piled (PyData.shownAll ds) ≤ ds.length * (c + 2) := by
  have := piled_le (c := c) (ts := PyData.shownAll ds) fun t ht => by
    obtain ⟨d, hd, rfl⟩ := shownAll_mem ht
    exact (h d hd).ln
  rwa [shownAll_len] at this
theorem small_list {c k n : Nat} {ds : List PyData} (h : ∀ d ∈ ds, Small c k d) (hl : ds.length ≤ n) : Small (2 + n * (c + 2)) (k + 1) (.list ds) := by
  refine ⟨?_, ?_, ?_⟩
  · show PyData.showableAll ds = true
    exact shAll_mem fun d hd => (h d hd).sh
  · show PyData.depthAll ds + 1 ≤ k + 1
    have := dpAll_mem fun d hd => (h d hd).dp
    omega
  · show (listText (PyData.shownAll ds)).length ≤ _
    have h1 := listText_le (PyData.shownAll ds)
    have h2 := piledAll h
    have h3 := Nat.mul_le_mul_right (c + 2) hl
    omega
theorem small_tup {c k n : Nat} {ds : List PyData} (h : ∀ d ∈ ds, Small c k d) (hl : ds.length ≤ n) : Small (3 + n * (c + 2)) (k + 1) (.tuple ds) := by
  refine ⟨?_, ?_, ?_⟩
  · show PyData.showableAll ds = true
    exact shAll_mem fun d hd => (h d hd).sh
  · show PyData.depthAll ds + 1 ≤ k + 1
    have := dpAll_mem fun d hd => (h d hd).dp
    omega
  · show (tupleText (PyData.shownAll ds)).length ≤ _
    have h1 := tupText_le (PyData.shownAll ds)
    have h2 := piledAll h
    have h3 := Nat.mul_le_mul_right (c + 2) hl
    omega
theorem small_dict {c k n : Nat} {kvs : List (PyData × PyData)} (h : ∀ p ∈ kvs, Small c k p.1 ∧ Small c k p.2) (hl : kvs.length ≤ n) : Small (2 + n * (2 * c + 4)) (k + 1) (.dict kvs) := by
  have sh : ∀ L : List (PyData × PyData), (∀ p ∈ L, Small c k p.1 ∧ Small c k p.2) → PyData.showableKv L = true ∧ PyData.depthKv L ≤ k ∧ piled (PyData.shownKv L) ≤ L.length * (2 * c + 4) := by
    intro L
    induction L with
    | nil => exact fun _ => ⟨rfl, Nat.zero_le _, by simp [PyData.shownKv, piled]⟩
    | cons p L ih =>
      intro hp
      obtain ⟨i1, i2, i3⟩ := ih fun x hx => hp x (List.mem_cons_of_mem _ hx)
      obtain ⟨a, b⟩ := hp p List.mem_cons_self
      refine ⟨?_, ?_, ?_⟩
      · show (PyData.showable p.1 && PyData.showable p.2 && PyData.showableKv L) = true
        rw [a.sh, b.sh, i1]
        rfl
      · show max (max (PyData.depth p.1) (PyData.depth p.2)) (PyData.depthKv L) ≤ k
        have := a.dp
        have := b.dp
        omega
      · have e : PyData.shownKv (p :: L) = (PyData.shown p.1 ++ (": " : Str) ++ PyData.shown p.2) :: PyData.shownKv L := rfl
        have e2 : piled (PyData.shownKv (p :: L)) = (PyData.shown p.1 ++ (": " : Str) ++ PyData.shown p.2).length + 2 + piled (PyData.shownKv L) := by rw [e]; simp [piled]
        have e3 : ((": " : String) : Str).length = 2 := rfl
        have := a.ln
        have := b.ln
        have e4 : (p :: L).length * (2 * c + 4) = L.length * (2 * c + 4) + (2 * c + 4) := by rw [List.length_cons, Nat.succ_mul]
        rw [e2, strApp, strApp]
        omega
  obtain ⟨i1, i2, i3⟩ := sh kvs h
  refine ⟨i1, ?_, ?_⟩
  · show PyData.depthKv kvs + 1 ≤ k + 1
    omega
  · show (dictText (PyData.shownKv kvs)).length ≤ _
    have h1 := dictText_le (PyData.shownKv kvs)
    have h3 := Nat.mul_le_mul_right (2 * c + 4) hl
    omega
end VL

set_option Elab.async false
set_option linter.all false
set_option maxRecDepth 100000
namespace VL
open PySem PySem.Spec PyProof.Rows L2
/-! ### != of lists of any texts; repr of a truth value or None -/
section
variable {X : Cx}
def rNeP (K : PySem.W.Frag) : R2 := fun x y H Q => ∃ d e, Dp K H x d ∧ Dp K H y e ∧ d.plain = true ∧ e.plain = true ∧ PyData.depth d ≤ 60 ∧ Q (.bl (!PyData.eqv d e)) H
theorem op_neP (hu : X.A.units + 64 < cLine) : OpR X (compareOp .NotEq) (rNeP X.K) := by
  intro pins s σ H x y v u Q I rx ry h
  obtain ⟨d, e, hd, he, sd, se, dp, q⟩ := h
  obtain ⟨as, r1⟩ := Dp.reads I d x v hd rx
  obtain ⟨bs, r2⟩ := Dp.reads I e y u he ry
  exact SeqAt.ne_plain r1 r2 sd se (by have := Nat.min_le_left d.depth e.depth; omega) ⟨.bl _, H, I, rfl, q⟩
def rEqP (K : PySem.W.Frag) : R2 := fun x y H Q => ∃ d e, Dp K H x d ∧ Dp K H y e ∧ d.plain = true ∧ e.plain = true ∧ PyData.depth d ≤ 60 ∧ Q (.bl (PyData.eqv d e)) H
theorem op_eqP {K : PySem.W.Frag} (hK : X.K = K) (hu : X.A.units + 64 < cLine) : OpR X (compareOp .Eq) (rEqP K) := by
  subst hK
  intro pins s σ H x y v u Q I rx ry h
  obtain ⟨d, e, hd, he, sd, se, dp, q⟩ := h
  obtain ⟨as, r1⟩ := Dp.reads I d x v hd rx
  obtain ⟨bs, r2⟩ := Dp.reads I e y u he ry
  exact SeqAt.eq_plain r1 r2 sd se (by have := Nat.min_le_left d.depth e.depth; omega) ⟨.bl _, H, I, rfl, q⟩
def rRepB : List V → Hp → VK → Prop := fun xs H Q => ∃ x : Str, (xs = [.non] ∧ x = "None" ∨ ∃ b : Bool, xs = [.bl b] ∧ x = if b then "True" else "False") ∧ Q (.str x) H
theorem call_repB : CallR X (.builtin "repr") rRepB := by
  intro pins s σ H xs us Q I r h
  obtain ⟨x, h, q⟩ := h
  have fin : ∀ (t : Tok) (tk : Nat), EP X pins σ Q (.str x t) { s with toks := tk } := fun t tk => ⟨.str _, H, I.kept (h' := s.heap) (fun _ _ e => e), ⟨t, rfl⟩, q⟩
  rcases h with ⟨rfl, rfl⟩ | ⟨b, rfl, rfl⟩
  · obtain ⟨u, rfl, ru⟩ := vals1 r
    cases (show u = Value.none from ru)
    exact P.repr_of_none (fin _ _)
  · obtain ⟨u, rfl, ru⟩ := vals1 r
    cases (show u = Value.bool b from ru)
    refine P.repr_of_bool ?_
    cases b
    · exact fin _ _
    · exact fin _ _
theorem dpAll_strT {K : PySem.W.Frag} {H : Hp} : ∀ ns : List Str, DpAll K H (ns.map V.str) (ns.map PyData.str)
  | [] => .nil
  | a :: ns => .cons (.str a) (dpAll_strT ns)
theorem plain_strs (ns : List Str) : PyData.plain (.list (ns.map PyData.str)) = true := by
  show PyData.plainAll _ = true
  induction ns with
  | nil => rfl
  | cons a ns ih =>
    show (PyData.plain (.str a) && PyData.plainAll (ns.map PyData.str)) = true
    rw [ih]
    rfl
theorem depth_strs (ns : List Str) : PyData.depth (.list (ns.map PyData.str)) = 1 := by
  have : ∀ ns : List Str, PyData.depthAll (ns.map PyData.str) = 0 := by
    intro ns
    induction ns with
    | nil => rfl
    | cons a ns ih => simp [PyData.depthAll, PyData.depth, ih]
  simp [PyData.depth, this]
end
end VL

set_option Elab.async false
set_option linter.all false
set_option maxRecDepth 100000
set_option maxHeartbeats 4000000
namespace VL
open PySem PySem.Spec PyProof.Rows L2
/-! ### data without dicts, as the rules of == and != see it -/
theorem upd_id {H : Hp} {a : Addr} {o : HO} (h : H a = some o) : upd H a o = H := by
  funext b
  by_cases e : b = a
  · subst e; rw [upd_same, h]
  · rw [upd_ne e]
theorem dq_dp_n {K : PySem.W.Frag} {H : Hp} : ∀ (n : Nat) (d : PyData) (v : V), PyData.depth d ≤ n → d.plain = true → Dq H v d → Dp K H v d := by
  intro n
  induction n with
  | zero =>
    intro d v hn hp h
    cases h with
    | non => exact .non
    | bl b => exact .bl b
    | int i => exact .int i
    | str x => exact .str x
    | lst _ _ => exact absurd hn (by simp [PyData.depth])
    | tup _ _ => exact absurd hn (by simp [PyData.depth])
    | dic _ _ _ => exact absurd hn (by simp [PyData.depth])
  | succ n ih =>
    have all : ∀ {vs : List V} {ds : List PyData}, DqAll H vs ds → PyData.depthAll ds ≤ n → PyData.plainAll ds = true → DpAll K H vs ds := by
      intro vs
      induction vs with
      | nil => intro ds h _ _; cases h; exact .nil
      | cons v vs iv =>
        intro ds h hd hp
        cases h with
        | @cons _ _ d ds a b =>
          have hd' : max (PyData.depth d) (PyData.depthAll ds) ≤ n := hd
          have hp' : d.plain = true ∧ PyData.plainAll ds = true := by simpa [PyData.plainAll] using hp
          exact .cons (ih d v (by omega) hp'.1 a) (iv b (by omega) hp'.2)
    intro d v hn hp h
    cases h with
    | non => exact .non
    | bl b => exact .bl b
    | int i => exact .int i
    | str x => exact .str x
    | lst h1 h2 => exact .lst (SqL.of h1) (all h2 (by simp only [PyData.depth] at hn; omega) (by simpa [PyData.plain] using hp))
    | tup h1 h2 => exact .tup (SqT.of h1) (all h2 (by simp only [PyData.depth] at hn; omega) (by simpa [PyData.plain] using hp))
    | dic _ _ _ => exact nomatch hp
theorem Dq.dp {K : PySem.W.Frag} {H : Hp} {v : V} {d : PyData} (h : Dq H v d) (hp : d.plain = true) : Dp K H v d := dq_dp_n _ d v (Nat.le_refl _) hp h
end VL

set_option Elab.async false
set_option linter.all false
set_option maxRecDepth 100000
set_option maxHeartbeats 4000000
namespace VL
open PySem PySem.Spec PyProof.Rows L2
/-! ### copies of values: what may be copied, what is new -/
mutual
def cpy : PyData → Bool
  | .list ds => decide (ds.length ≤ 1000) && cpyAll ds
  | .dict kvs => decide (kvs.length ≤ 1000) && cpyKv kvs
  | .tuple _ => false
  | .none | .bool _ | .int _ | .str _ => true
def cpyAll : List PyData → Bool
  | [] => true
  | d :: ds => cpy d && cpyAll ds
def cpyKv : List (PyData × PyData) → Bool
  | [] => true
  | (_, d) :: r => cpy d && cpyKv r
end
theorem cpyAll_mem : ∀ {ds : List PyData}, cpyAll ds = true → ∀ d ∈ ds, cpy d = true
  | e :: ds, h, d, hd => by
    have h' : cpy e = true ∧ cpyAll ds = true := by simpa [cpyAll] using h
    rcases List.mem_cons.mp hd with rfl | hd
    · exact h'.1
    · exact cpyAll_mem h'.2 d hd
theorem cpyKv_zip : ∀ {ks : List (Key × V)} {ds : List PyData}, ks.length = ds.length → cpyKv (zipK ks ds) = true → cpyAll ds = true
  | [], [], _, _ => rfl
  | p :: ks, d :: ds, hl, h => by
    have h' : cpy d = true ∧ cpyKv (zipK ks ds) = true := by
      have e : cpyKv (zipK (p :: ks) (d :: ds)) = (cpy d && cpyKv (zipK ks ds)) := rfl
      rw [e] at h
      simpa using h
    show (cpy d && cpyAll ds) = true
    rw [h'.1, cpyKv_zip (Nat.succ.inj hl) h'.2]
    rfl
/-- what has come since H -/
def newer (H H' : Hp) : Hp := fun b => match H b with
  | none => H' b
  | some _ => none
theorem newer_some {H H' : Hp} {b : Addr} {o : HO} (h : newer H H' b = some o) : H b = none ∧ H' b = some o := by
  unfold newer at h
  cases e : H b with
  | none => rw [e] at h; exact ⟨rfl, h⟩
  | some u => rw [e] at h; exact nomatch h
theorem newer_mk {H H' : Hp} {b : Addr} {o : HO} (h1 : H b = none) (h2 : H' b = some o) : newer H H' b = some o := by
  unfold newer
  rw [h1]
  exact h2
theorem newer_same (H H' : Hp) : Same (newer H H') H' := fun b o h => (newer_some h).2
def spCopy (n : Nat) : Sp := fun vs H Q _ => ∃ (v : V) (d : PyData), vs = [v] ∧ Dq H v d ∧ cpy d = true ∧ PyData.depth d ≤ n ∧ ∀ v' H', Same H H' → Dq (newer H H') v' d → Q v' H'
end VL

set_option Elab.async false
set_option linter.all false
set_option maxRecDepth 100000
set_option maxHeartbeats 4000000
namespace VL
open PySem PySem.Spec PyProof.Rows L2
/-! ### a part of a heap, and a few objects beside it that change -/
structure Sb (G H : Hp) (M : List (Addr × HO)) : Prop where
  s : Same G H
  m : ∀ p ∈ M, G p.1 = none ∧ H p.1 = some p.2
  nd : (M.map (·.1)).Nodup
def joinH (G N : Hp) : Hp := fun b => match G b with
  | some o => some o
  | none => N b
theorem joinH_l {G N : Hp} : Same G (joinH G N) := fun b o e => by
  unfold joinH
  rw [e]
theorem joinH_r {G H H' : Hp} (s : Same G H) : Same (newer H H') (joinH G (newer H H')) := fun b o e => by
  obtain ⟨z, _⟩ := newer_some e
  unfold joinH
  cases g : G b with
  | none => exact e
  | some u => rw [s _ _ g] at z; exact nomatch z
theorem Sb.alloc {G H : Hp} {M : List (Addr × HO)} {t : Addr} {o : HO} (S : Sb G H M) (h : H t = none) : Sb (upd G t o) (upd H t o) M := by
  refine ⟨fun b u e => ?_, fun p hp => ?_, S.nd⟩
  · by_cases z : b = t
    · subst z
      rw [upd_same] at e ⊢
      exact e
    · rw [upd_ne z] at e ⊢
      exact S.s _ _ e
  · obtain ⟨h1, h2⟩ := S.m p hp
    have n : p.1 ≠ t := ne_of_none h2 h
    rw [upd_ne n, upd_ne n]
    exact ⟨h1, h2⟩
theorem Sb.gnone {G H : Hp} {M : List (Addr × HO)} {t : Addr} (S : Sb G H M) (h : H t = none) : G t = none := Same.free S.s h
theorem Sb.grow {G H : Hp} {M : List (Addr × HO)} {t : Addr} {o : HO} (S : Sb G H M) (h : H t = none) : Same G (upd G t o) := fun b u e => by rw [upd_ne (ne_of_none e (S.gnone h))]; exact e
theorem Sb.call {G H H' : Hp} {M : List (Addr × HO)} (S : Sb G H M) (s : Same H H') : Sb (joinH G (newer H H')) H' M := by
  refine ⟨fun b u e => ?_, fun p hp => ?_, S.nd⟩
  · unfold joinH at e
    cases g : G b with
    | some o => rw [g] at e; rw [← e]; exact s _ _ (S.s _ _ g)
    | none => rw [g] at e; exact (newer_some e).2
  · obtain ⟨h1, h2⟩ := S.m p hp
    refine ⟨?_, s _ _ h2⟩
    unfold joinH
    rw [h1]
    show newer H H' p.1 = none
    unfold newer
    rw [h2]
theorem Sb.add {G H : Hp} {M : List (Addr × HO)} {t : Addr} {o : HO} (S : Sb G H M) (h : H t = none) : Sb G (upd H t o) ((t, o) :: M) := by
  refine ⟨fun b u e => by rw [upd_ne (ne_of_none (S.s _ _ e) h)]; exact S.s _ _ e, fun p hp => ?_, ?_⟩
  · rcases List.mem_cons.mp hp with rfl | hp
    · exact ⟨S.gnone h, upd_same⟩
    · obtain ⟨h1, h2⟩ := S.m p hp
      exact ⟨h1, by rw [upd_ne (ne_of_none h2 h)]; exact h2⟩
  · rw [List.map_cons, List.nodup_cons]
    refine ⟨fun hm => ?_, S.nd⟩
    obtain ⟨p, hp, e⟩ := List.mem_map.mp hm
    have := (S.m p hp).2
    rw [e] at this
    rw [show H (t, o).1 = none from h] at this
    exact nomatch this
theorem Sb.put {G H : Hp} {M : List (Addr × HO)} {t : Addr} {o : HO} {u : HO} (S : Sb G H ((t, o) :: M)) : Sb G (upd H t u) ((t, u) :: M) := by
  have nd := S.nd
  rw [List.map_cons, List.nodup_cons] at nd
  have gt := (S.m (t, o) List.mem_cons_self).1
  refine ⟨fun b v e => by rw [upd_ne (ne_of_none e gt)]; exact S.s _ _ e, fun p hp => ?_, ?_⟩
  · rcases List.mem_cons.mp hp with rfl | hp
    · exact ⟨gt, upd_same⟩
    · obtain ⟨h1, h2⟩ := S.m p (List.mem_cons_of_mem _ hp)
      have n : p.1 ≠ t := fun z => nd.1 (List.mem_map.mpr ⟨p, hp, z⟩)
      exact ⟨h1, by rw [upd_ne n]; exact h2⟩
  · rw [List.map_cons, List.nodup_cons]
    exact nd
theorem Sb.swap {G H : Hp} {M : List (Addr × HO)} {p q : Addr × HO} (S : Sb G H (p :: q :: M)) : Sb G H (q :: p :: M) := by
  have nd := S.nd
  refine ⟨S.s, fun r hr => S.m r ?_, ?_⟩
  · rcases List.mem_cons.mp hr with rfl | hr
    · exact List.mem_cons_of_mem _ List.mem_cons_self
    · rcases List.mem_cons.mp hr with rfl | hr
      · exact List.mem_cons_self
      · exact List.mem_cons_of_mem _ (List.mem_cons_of_mem _ hr)
  · simp only [List.map_cons, List.nodup_cons, List.mem_cons] at nd ⊢
    refine ⟨fun z => ?_, fun z => nd.1 (.inr z), nd.2.2⟩
    rcases z with z | z
    · exact nd.1 (.inl z.symm)
    · exact nd.2.1 z
theorem Sb.drop {G H : Hp} {M : List (Addr × HO)} {t : Addr} {o : HO} (S : Sb G H ((t, o) :: M)) : Sb (upd G t o) H M ∧ Same G (upd G t o) := by
  have nd := S.nd
  rw [List.map_cons, List.nodup_cons] at nd
  obtain ⟨gt, ht⟩ := S.m (t, o) List.mem_cons_self
  refine ⟨⟨fun b u e => ?_, fun p hp => ?_, nd.2⟩, fun b u e => by rw [upd_ne (ne_of_none e gt)]; exact e⟩
  · by_cases z : b = t
    · subst z
      rw [upd_same] at e
      rw [← e]
      exact ht
    · rw [upd_ne z] at e
      exact S.s _ _ e
  · obtain ⟨h1, h2⟩ := S.m p (List.mem_cons_of_mem _ hp)
    have n : p.1 ≠ t := fun z => nd.1 (List.mem_map.mpr ⟨p, hp, z⟩)
    exact ⟨by rw [upd_ne n]; exact h1, h2⟩
theorem Sb.hd {G H : Hp} {M : List (Addr × HO)} {p : Addr × HO} (S : Sb G H (p :: M)) : H p.1 = some p.2 := (S.m p List.mem_cons_self).2
theorem Sb.hd2 {G H : Hp} {M : List (Addr × HO)} {p q : Addr × HO} (S : Sb G H (q :: p :: M)) : H p.1 = some p.2 := (S.m p (List.mem_cons_of_mem _ List.mem_cons_self)).2
theorem Sb.nil {H : Hp} : Sb H H [] := ⟨Same.refl _, (fun _ h => nomatch h), List.nodup_nil⟩
end VL

set_option Elab.async false
set_option linter.all false
set_option maxRecDepth 100000
set_option maxHeartbeats 4000000
namespace VL
open PySem PySem.Spec PyProof.Rows L2
theorem Sb.put2 {G H : Hp} {M : List (Addr × HO)} {p : Addr × HO} {t : Addr} {o u : HO} (S : Sb G H (p :: (t, o) :: M)) : Sb G (upd H t u) (p :: (t, u) :: M) := S.swap.put.swap
theorem Sb.more {G H H' : Hp} {M : List (Addr × HO)} (S : Sb G H M) (s : Same H H') : ∃ G', Sb G' H' M ∧ Same G G' := ⟨_, S.call s, joinH_l⟩
theorem flat_one {α : Type} (l : List α) : (l.map fun c => [c]).flatten = l := by
  induction l with
  | nil => rfl
  | cons c cs ih => simp [ih]
theorem valV_in2 {k : Key} : ∀ {ks : List (Key × V)}, k ∈ ks.map (·.1) → (valV ks k).isSome = true
  | p :: ks, h => by
    by_cases e : p.1 = k
    · rw [valV_pos e]
      rfl
    · rw [valV_neg e]
      refine valV_in2 ?_
      rcases List.mem_cons.mp (show k ∈ p.1 :: ks.map (·.1) from h) with z | z
      · exact absurd z.symm e
      · exact z
end VL

set_option Elab.async false
set_option linter.all false
set_option maxRecDepth 100000
set_option maxHeartbeats 4000000
namespace VL
open PySem PySem.Spec PyProof.Rows L2

/-! ### what the text has: methods with keyword-only parameters, properties, written tuples, own exceptions without a text of their own -/
def WrT (K : PySem.W.Frag) (a : Addr) (xs : List V) : Prop := ∃ (o : Obj) (its : Array Value) (n : Nat), K.lookup a = some o ∧ o.cls = .type "tuple" ∧ o.data = .seq its n ∧ its.size ≤ sizeLine ∧ Vals xs its.toList ∧ o.dict = none
abbrev catG {α : Type} (us ws : List α) : List α := us ++ ws
def MethKE (K : PySem.W.Frag) (C : Addr) (x qual : Str) (st : Stmt) (ps : List Str) (n : Nat) (ks : List Str) : Prop :=
  ∃ (f : Addr) (fd : FuncData), Fun K x qual st f fd ∧ Meth K C x f ∧ KBn K fd ps n ks catG catG
def PropE (K : PySem.W.Frag) (C : Addr) (x qual : Str) (st : Stmt) : Prop := ∃ (p g : Addr) (fd : FuncData), PropOf K C x p g ∧ Fun K x qual st g fd ∧ Binds K fd ["self"] []
structure ExT (K : PySem.W.Frag) (mg : Str → Option Value) (x : Str) (D : Addr) : Prop where
  g : mg x = some (.ref D)
  xx : PySem.W.excIn K D [.type "ValueError", .type "Exception", .type "BaseException", .type "object"] "ValueError.__new__" = true
  kp : PySem.W.keepIn K (.ref D) = true
  bP : PySem.W.subIn K (.ref D) (.type "BaseException") = some true
  tP : PySem.W.typeIn K (.ref D) = some (.type "type")
  em : PySem.W.exmOne K (.ref D) (.ref D) = some true
  ec : ExcC K D
theorem fun_kbn {K : PySem.W.Frag} {x qual : Str} {st : Stmt} {f : Addr} {fd : FuncData} {ps : List Str} (F : Fun K x qual st f fd) (n : Nat) (ks : List Str)
    (h : ∀ (kV doc pm : Value) (an : Option Addr) (cdv ct : Value) (us ws : List Value), us.length = n → ws.length = ks.length → bindArgs (PySem.W.fnOf x qual (defArgs st) (defBody st) (defScope st) .none kV doc pm an cdv ct) ⟨us, ks.zip ws⟩ = pure (ps.zip (us ++ ws))) :
    KBn K fd ps n ks catG catG := by
  obtain ⟨oc, od, kV, doc, pm, an, cdv, ct, osl, rfl, lk, hcd⟩ := F.ex
  exact ⟨fun s us ws X l1 l2 => .of_eq (h kV doc pm an cdv ct us ws l1 l2), fun r1 r2 => r1.append r2⟩
/-! ### as callers see them -/
structure MetK (P : Program) (w : World) (K : PySem.W.Frag) (mg : Str → Option Value) (base : Heap) (k : Nat) (C : Addr) (m : Str) (sp : Sp) (n : Nat) (ks : List Str) (gV : List V → List V → List V) : Prop where
  ex : ∃ (f : Addr) (fd : FuncData) (ps : List Str) (g : List Value → List Value → List Value), Cls K C ∧ Meth K C m f ∧ FnOk P w K mg base CX0 k f fd ps sp ∧ KBn K fd ps n ks g gV
structure Pro (P : Program) (w : World) (K : PySem.W.Frag) (mg : Str → Option Value) (base : Heap) (k : Nat) (C : Addr) (x : Str) (sp : Sp) : Prop where
  ex : ∃ (p g : Addr) (fd : FuncData), Cls K C ∧ PropOf K C x p g ∧ FnOk P w K mg base CX0 k g fd ["self"] sp ∧ Binds K fd ["self"] []
/-- o.m(.., k = v, ..): n is one more than the values written -/
def tMethK (C : Addr) (m : Str) (sp : Sp) (n kn : Nat) (gV : List V → List V → List V) (ta : TE) (t tk : TA) : TE := fun σ H Q => ta σ H fun x H1 => ∃ a dx fs, x = .ref a ∧ H1 a = some (.ins C dx fs) ∧ fs.lookup m = none ∧ t σ H1 fun vs H2 => tk σ H2 fun zs H3 => vs.length + 1 = n ∧ zs.length = kn ∧ sp (gV (.ref a :: vs) zs) H3 Q E0
section
variable {X : Cx} {k j n : Nat} {C : Addr} {m x : Str} {ks : List Str} {sp : Sp} {pos apos : Pos} {e o : Expr} {es : List Expr} {kws : List Keyword} {ta : TE} {t tk : TA} {gV : List V → List V → List V}
theorem pe_mtK {pl : Sem Bool} (c : MetK X.prog X.w X.K X.mg X.base k C m sp n ks gV) (hr : Room j X.A) (hk : k ≤ j) (he : PE X o ta) (ha : PA X (e :: es) t) (hkw : PK X kws tk)
    (hall : (backToKw pos (keywordEach kws X.env)).all (·.1.isSome) = true := by rfl) (hks : (backToKw pos (keywordEach kws X.env)).filterMap (·.1) = ks := by rfl)
    (hst : starEach (e :: es) X.env = (false, eval e X.env) :: starEach es X.env := by rfl)
    (hpl : ((backTo pos (starEach (e :: es) X.env)).any (·.1) || (backToKw pos (keywordEach kws X.env)).any (·.1.isNone)) = false := by rfl)
    (ht : eval (.Call (.Attribute o m apos) (e :: es) kws pos) X.env = (do
      let ov ← eval o X.env
      standAt apos.atName
      let (f, first) ← holding [ov] (getMethod ov m pl)
      callWith pos f first (backTo pos (starEach (e :: es) X.env)) (backToKw pos (keywordEach kws X.env))) := by rfl) :
    PE X (.Call (.Attribute o m apos) (e :: es) kws pos) (tMethK C m sp n ks.length gV ta t tk) := by
  obtain ⟨f, fd, ps, g, hc, hm, F, b⟩ := c.ex
  refine ⟨fun pins s σ H Q I h => ?_⟩
  refine PySem.W.methodCall_KW (pl := pl) (thn (he.run pins s σ H _ I h) fun u s1 ⟨x, H1, I1, rx, a, dx, fs, ex, ea, l, q⟩ => ?_) ht
  subst ex
  obtain rfl : u = Value.ref a := rx
  refine getmeth_ok I1 ea hc hm l ?_
  refine PySem.W.callWith_KW (first := [.ref a]) (h₀ := X.base) I.ok.mod.kin hm.kp hall (thn (ha.run pos pins s1 σ H1 _ I1 q) fun us s2 ⟨vs, H2, I2, r, q2⟩ => ?_) hpl hst
  refine thn (hkw.run pos pins s2 σ H2 _ I2 q2) fun ws s3 ⟨zs, H3, I3, rz, l1, l2, q3⟩ => ⟨I3.kIn, ?_⟩
  rw [hks]
  exact run_fnN (us := .ref a :: us) (vs := .ref a :: vs) F (hr.mono hk) b pass0 I3 (.cons rfl r) rz l1 l2 q3
theorem pe_mtK0 {pl : Sem Bool} (c : MetK X.prog X.w X.K X.mg X.base k C m sp n ks gV) (hr : Room j X.A) (hk : k ≤ j) (he : PE X o ta) (hkw : PK X kws tk)
    (hall : (backToKw pos (keywordEach kws X.env)).all (·.1.isSome) = true := by rfl) (hks : (backToKw pos (keywordEach kws X.env)).filterMap (·.1) = ks := by rfl)
    (hpl : ((backTo pos (starEach [] X.env)).any (·.1) || (backToKw pos (keywordEach kws X.env)).any (·.1.isNone)) = false := by rfl)
    (ht : eval (.Call (.Attribute o m apos) [] kws pos) X.env = (do
      let ov ← eval o X.env
      standAt apos.atName
      let (f, first) ← holding [ov] (getMethod ov m pl)
      callWith pos f first (backTo pos (starEach [] X.env)) (backToKw pos (keywordEach kws X.env))) := by rfl) :
    PE X (.Call (.Attribute o m apos) [] kws pos) (tMethK C m sp n ks.length gV ta tNil tk) := by
  obtain ⟨f, fd, ps, g, hc, hm, F, b⟩ := c.ex
  refine ⟨fun pins s σ H Q I h => ?_⟩
  refine PySem.W.methodCall_KW (pl := pl) (thn (he.run pins s σ H _ I h) fun u s1 ⟨x, H1, I1, rx, a, dx, fs, ex, ea, l, q⟩ => ?_) ht
  subst ex
  obtain rfl : u = Value.ref a := rx
  refine getmeth_ok I1 ea hc hm l ?_
  refine PySem.W.callWith_KW0 (first := [.ref a]) (h₀ := X.base) I.ok.mod.kin hm.kp hall ?_ hpl
  refine thn (hkw.run pos pins s1 σ H1 _ I1 q) fun ws s3 ⟨zs, H3, I3, rz, l1, l2, q3⟩ => ⟨I3.kIn, ?_⟩
  rw [hks]
  exact run_fnN (us := [.ref a]) (vs := [.ref a]) F (hr.mono hk) b pass0 I3 (.cons rfl .nil) rz l1 l2 q3
theorem pe_pr (c : Pro X.prog X.w X.K X.mg X.base k C x sp) (hr : Room j X.A) (hk : k + 1 ≤ j) (he : PE X e ta) (hab : attributeBase e x X.env (eval e X.env) = eval e X.env := by rfl) : PE X (.Attribute e x pos) (tProp C sp [] E0 ta) := by
  obtain ⟨p, g, fd, hc, hp, F, b⟩ := c.ex
  exact pe_prop he hc hp F (hr.mono hk) b .nil pass0 hab
end
section
variable {P : Program} {w : World} {K : PySem.W.Frag} {mg : Str → Option Value} {base : Heap}
theorem metK_of {C : Addr} {x qual : Str} {st : Stmt} {ps ks N : List Str} {k n : Nat} {sp : Sp} (D : MethKE K C x qual st ps n ks) (c : Cls K C) (S : FnScope N ps (defScope st)) (len : ∀ vs H Q E, sp vs H Q E → vs.length = ps.length)
    (hbody : ∀ (f : Addr) (cdv : Value) (A : Around) (outer : List Env) (s : Shared) (H : Hp) (vs : List V) (Q : VK) (E : XK), Room k (A.deeper (envOfC qual (defScope st) s.heap.objs.size f cdv)) → sp vs H Q E →
      ∃ t, PSs (cxOf CX0 P w K mg base N qual (defScope st) f cdv A outer s H E).nox (defBody st) t ∧ t { nx := fun _ H' => Q .non H', rt := Q } (start N vs) H) : MetK P w K mg base (k + 1) C x sp n ks catG := by
  obtain ⟨f, fd, F, hm, b⟩ := D
  exact ⟨f, fd, ps, _, c, hm, F.ok S len (hbody f), b⟩
theorem pro_of {C : Addr} {x qual : Str} {st : Stmt} {N : List Str} {k : Nat} {sp : Sp} (D : PropE K C x qual st) (c : Cls K C) (S : FnScope N ["self"] (defScope st)) (len : ∀ vs H Q E, sp vs H Q E → vs.length = 1)
    (hbody : ∀ (f : Addr) (cdv : Value) (A : Around) (outer : List Env) (s : Shared) (H : Hp) (vs : List V) (Q : VK) (E : XK), Room k (A.deeper (envOfC qual (defScope st) s.heap.objs.size f cdv)) → sp vs H Q E →
      ∃ t, PSs (cxOf CX0 P w K mg base N qual (defScope st) f cdv A outer s H E).nox (defBody st) t ∧ t { nx := fun _ H' => Q .non H', rt := Q } (start N vs) H) : Pro P w K mg base (k + 1) C x sp := by
  obtain ⟨p, g, fd, hp, F, b⟩ := D
  exact ⟨p, g, fd, c, hp, F.ok S len (hbody g), b⟩
end
end VL

set_option Elab.async false
set_option linter.all false
set_option maxRecDepth 100000
set_option maxHeartbeats 4000000
namespace VL
open PySem PySem.Spec PyProof.Rows L2
/-! ### rules whose readings speak of K, with K told: within comprehensions and except suites -/
theorem u65 {A : Around} {k : Nat} (r : Room k A) : A.units + 65 < cLine := by have := r.un; omega
section
variable {X : Cx} {K : PySem.W.Frag} {e o : Expr} {f : Str} {pos : Pos} {ta : TE}
theorem pe_fldS (hK : X.K = K) (he : PE X e ta) (hb : attributeBase e f X.env (eval e X.env) = eval e X.env) : PE X (.Attribute e f pos) (tFld K ta f) := by subst hK; exact pe_fld he hb
theorem pe_conS (hK : X.K = K) (he : PE X e ta) (hb : attributeBase e f X.env (eval e X.env) = eval e X.env) : PE X (.Attribute e f pos) (tCon K ta f) := by subst hK; exact pe_con he hb
theorem pe_cvalS (hK : X.K = K) (he : PE X e ta) (hb : attributeBase e f X.env (eval e X.env) = eval e X.env := by rfl) : PE X (.Attribute e f pos) (ClX.tCVal K ta f) := by subst hK; exact ClX.pe_cval he hb
theorem ix_listS (hK : X.K = K) : IxR X (rIxL K) := by subst hK; exact ix_list
theorem ix_tupS (hK : X.K = K) : IxR X (rIxT K) := by subst hK; exact ix_tup
theorem sl_listS (hK : X.K = K) : SlR X (rSlL K) := by subst hK; exact sl_list
theorem sl_tupS (hK : X.K = K) : SlR X (rSlT K) := by subst hK; exact sl_tup
theorem op_in_seqS (hK : X.K = K) : OpR X (compareOp .In) (rIn K false) := by subst hK; exact op_in_seq
theorem op_notIn_seqS (hK : X.K = K) : OpR X (compareOp .NotIn) (rIn K true) := by subst hK; exact op_notIn_seq
theorem call_len_seqS (hK : X.K = K) : CallR X (.builtin "len") (fun xs H Q => ∃ p ys, xs = [.ref p] ∧ (SqL K H p ys ∨ SqT K H p ys) ∧ Q (.int ys.length) H) := by subst hK; exact call_len_seq
theorem call_list_ofS (hK : X.K = K) : CallR X (.type "list") (fun xs H Q => ∃ p ys, xs = [.ref p] ∧ (SqL K H p ys ∨ SqT K H p ys) ∧ ∀ l, H l = none → Q (.ref l) (upd H l (.lst ys))) := by subst hK; exact call_list_of
theorem call_isiS (hK : X.K = K) : CallR X (.builtin "isinstance") (rIsi K) := by subst hK; exact call_isi
theorem op_eqDS (hK : X.K = K) (hu : X.A.units + 64 < cLine) : OpR X (compareOp .Eq) (rEqD K) := by subst hK; exact op_eqD hu
theorem op_neDS (hK : X.K = K) (hu : X.A.units + 64 < cLine) : OpR X (compareOp .NotEq) (rNeD K) := by subst hK; exact op_neD hu
theorem cr_maxS (hK : X.K = K) (hc : X.calm = true) : CallR X (.builtin "max") (rMax K) := by subst hK; exact cr_max hc
theorem cr_minS (hK : X.K = K) (hc : X.calm = true) : CallR X (.builtin "min") (rMin K) := by subst hK; exact cr_min hc
theorem op_inDS (hK : X.K = K) (hu : X.A.units + 65 < cLine) : OpR X (compareOp .In) (rInD K) := by subst hK; exact op_inD hu
theorem pt_truthS (hK : X.K = K) (ha : PE X e ta) (he : ∀ whole, isTrue e X.env whole = (do let v ← whole; standAt e.pos; holding [v] (truthy v))) :
    PT X e (fun σ H Q => ta σ H fun x H' => ∃ k, TruV K x H' k ∧ Q k H') := by subst hK; exact pt_truth ha he
theorem pi_listS {tg : Expr} (hK : X.K = K) (hl : PE X e ta) : PI X tg e (iList K ta) := by subst hK; exact pi_list hl
theorem pi_tupS {tg : Expr} (hK : X.K = K) (hl : PE X e ta) : PI X tg e (iTup K ta) := by subst hK; exact pi_tup hl
theorem pg_tupS {es : List Expr} {k : Nat} {t : TGs} {n : Nat} (hK : X.K = K) (hc : X.calm = true) (h : PGs X es t)
    (hn : (assignEach es X.env).length = n := by rfl) (hst : (assignEach es X.env).findIdx? (·.1) = none := by rfl) : PG X (.Tuple es k pos) (gTup K n t) := by subst hK; exact pg_tup hc h hn hst
end
end VL

set_option Elab.async false
set_option linter.all false
set_option maxRecDepth 100000
set_option maxHeartbeats 4000000
namespace PySem
section
variable {prog : Program} {w : World} {K : Type} [DecidableEq K] {knd : KeyKind prog w K} {A : Around} {E : Value → Shared → Prop} {s : Shared}
theorem wpAny_dictPut_pairs {d : Addr} {kvs : List (K × Value)} {k : K} {key v : Value} {Q : Unit → Shared → Prop} (hkey : knd.is k key = true) (hm : s.heap.DictOf knd d kvs)
    (hQ : ∀ h', h'.DictOf knd d (stored kvs k v) → Heap.SameBut d s.heap h' → Q () { s with heap := h' })
    (hsz : kvs.length ≤ sizeLine := by size_fits) :
    wpAny (model prog w) A (dictPut d (knd.hash k) key v) Q E s := by
  obtain ⟨o, es, ep, ho, hc, hd, hk, hp, hn⟩ := hm
  have hes : es.size ≤ sizeLine := by have e1 := hp.length; have e2 : es.toList.length = es.size := by simp
                                      omega
  unfold dictPut
  refine wpAny_bind (wpAny_dictFind_of hkey ho hd hk ?_)
  have hidx : (es.findIdx? fun e => knd.is k e.key) = kvs.findIdx? fun kv => decide (kv.1 = k) := by
    rw [← hp.findIdx k]; obtain ⟨l⟩ := es; simp
  cases hi : es.findIdx? fun e => knd.is k e.key with
  | some i =>
    refine wpAny_updateDict ho hd (hQ _ ⟨_, _, ep, Heap.get?_update_self _ ho (Obj.isFreed_of_dict (Obj.data_mapDict hd _)),
      hc.mapDict _, Obj.data_mapDict hd _, hk.modify _ _, ?_, ?_⟩ (Heap.SameBut.update ..))
    · rw [stored, if_pos (any_of_findIdx_some (hidx ▸ hi))]
      have hl : (es.toList.findIdx? fun e => knd.is k e.key) = some i := by rw [← hi]; obtain ⟨l⟩ := es; simp
      have := hp.modify hn hl v
      obtain ⟨l⟩ := es
      simpa using this
    · rw [stored, if_pos (any_of_findIdx_some (hidx ▸ hi)), keys_map_store]; exact hn
  | none =>
    have hnot : k ∉ kvs.map (·.1) := not_mem_of_findIdx_none (hidx ▸ hi)
    have hany : ¬ (kvs.any fun kv => decide (kv.1 = k)) = true := by
      rw [List.any_eq_true]; rintro ⟨kv, hkv, he⟩
      exact hnot (List.mem_map.mpr ⟨kv, hkv, of_decide_eq_true he⟩)
    refine wpAny_updateDictKeys (hz := hes) ho hd (hQ _ ⟨_, _, ep + 1, Heap.get?_update_self _ ho (Obj.isFreed_of_dict (Obj.data_mapDictKeys hd _)),
      hc.mapDictKeys _, Obj.data_mapDictKeys hd _, hk.push hkey _, ?_, ?_⟩ (Heap.SameBut.update ..))
    · rw [stored, if_neg hany]
      have := hp.append hkey (knd.hash k) v
      obtain ⟨l⟩ := es
      simpa using this
    · rw [stored, if_neg hany, List.map_append, List.nodup_append]
      refine ⟨hn, by simp, ?_⟩
      intro a ha b hb
      simp only [List.map_cons, List.map_nil, List.mem_singleton] at hb
      subst hb
      exact fun e => hnot (e ▸ ha)

/-- {**a, ..}: the entries of a dict put into another one -/
theorem wpAny_mergeMapping {d o : Addr} {kvs more : List (K × Value)} {Q : Unit → Shared → Prop} (hnr : ∀ k a, knd.is k (.ref a) = false) (hdo : d ≠ o) (hoS : (o == sysModules) = false)
    (hd : s.heap.DictOf knd d kvs) (ho : s.heap.DictOf knd o more)
    (hQ : ∀ h', h'.DictOf knd d (merged kvs more) → h'.DictOf knd o more → Heap.SameBut d s.heap h' → Q () { s with heap := h' })
    (hsz : kvs.length + more.length ≤ sizeLine := by size_fits) :
    wpAny (model prog w) A (mergeMapping d (.ref o) false) Q E s := by
  obtain ⟨od, esd, epd, hod, hcd, hdd, hkd, hpd, hnd⟩ := id hd
  obtain ⟨oo, eso, epo, hoo, hco, hdo', hko, hpo, hno⟩ := id ho
  have hlen : more.length = eso.size := by rw [← hpo.length]; simp
  unfold mergeMapping
  refine wpAny_bind (wpAny_isInstance ho.typeIs isSubtype_dict_dict ?_)
  dsimp only
  rw [if_pos rfl]
  refine wpAny_bind (wpAny_specialOf ho.typeIs F.slot_dict_iter.lookup ?_)
  refine wpAny_bind (wpAny_pure ?_)
  have e0 : (some (Value.builtin "dict.__iter__") == some (Value.builtin "dict.__iter__")) = true := by simp
  rw [e0]
  dsimp only
  rw [if_neg (by rw [hoS]; exact Bool.false_ne_true)]
  have loop : wpAny (model prog w) A (do
      let l0 ← dictEntries o
      let epoch ← dictEpoch o
      forIn (List.range l0.size) PUnit.unit fun i (_ : PUnit) => (do
          let l' ← dictEntries o
          match l'[i]? with
            | some e => do
              holding [e.key, e.val] (if false = true then do
                      let r ← dictFind d e.key e.hash
                      if r.isSome = true then do
                          rule "dict.merge.duplicate-key"
                          let x ← newExc (Value.type "KeyError") [e.key]
                          raiseNew x
                          dictPut d e.hash e.key e.val
                        else dictPut d e.hash e.key e.val
                    else dictPut d e.hash e.key e.val)
              let ep' ← dictEpoch o
              if (ep' != epoch) = true then do
                  (unsupported "dict.changed-during-merge" : Sem PUnit)
                  pure (ForInStep.yield PUnit.unit)
                else pure (ForInStep.yield PUnit.unit)
            | _ => do
              (unsupported "dict.changed-during-merge" : Sem PUnit)
              pure (ForInStep.yield PUnit.unit) : Sem (ForInStep PUnit))
      pure ()) Q E s := by
    refine wpAny_bind (wpAny_dictEntries hoo hdo' ?_)
    refine wpAny_bind (wpAny_dictEpoch hoo hdo' ?_)
    refine wpAny_bind ?_
    refine wpAny_forIn_list _
      (fun rest _ s' => ∃ h' i, s' = { s with heap := h' } ∧ rest = List.range' i (eso.size - i) ∧ i ≤ eso.size ∧ h'.DictOf knd d (merged kvs (more.take i)) ∧ h'.get? o = some oo ∧ Heap.SameBut d s.heap h')
      _ ?_ ?_ _ _ ⟨s.heap, 0, rfl, by simp [List.range_eq_range'], Nat.zero_le _, by simpa [merged] using hd, hoo, Heap.SameBut.refl _ _⟩
    · rintro x rest b s' ⟨h', i, rfl, hr, hi, hd', hoo', hs'⟩
      have hlt : i < eso.size := by
        rcases Nat.lt_or_ge i eso.size with h | h
        · exact h
        · rw [Nat.sub_eq_zero_of_le h] at hr; simp at hr
      obtain ⟨rfl, hrest⟩ : x = i ∧ rest = List.range' (i + 1) (eso.size - (i + 1)) := by
        have e : eso.size - i = (eso.size - (i + 1)) + 1 := by omega
        rw [e, List.range'_succ] at hr
        injection hr with h1 h2
        exact ⟨h1, h2⟩
      refine wpAny_bind (wpAny_dictEntries hoo' hdo' ?_)
      rw [Array.getElem?_eq_getElem hlt]
      obtain ⟨kv, hkv⟩ : ∃ kv, more[x]? = some kv := ⟨more[x]'(by rw [hlen]; exact hlt), List.getElem?_eq_getElem _⟩
      obtain ⟨k, v⟩ := kv
      obtain ⟨hkey, hval⟩ := hpo.get? (e := eso[x]) (by simp [hlt]) hkv
      obtain ⟨k', hkey', hhash⟩ := hko eso[x] (Array.getElem_mem hlt)
      obtain rfl : k' = k := knd.inj _ _ _ hkey' hkey
      have hmx : (merged kvs (more.take x)).length ≤ sizeLine := by
        have e1 := merged_length_le kvs (more.take x)
        have e2 : (more.take x).length ≤ more.length := by rw [List.length_take]; omega
        omega
      refine wpAny_bind (wpAny_holding ?_)
      rw [if_neg (by decide), hhash, hval]
      refine wpAny_dictPut_pairs (hsz := hmx) hkey hd' fun h'' hd'' hs'' => ?_
      have hoo'' : h''.get? o = some oo := (hs''.2 o (Ne.symm hdo)).trans hoo'
      refine wpAny_bind (wpAny_dictEpoch hoo'' hdo' ?_)
      rw [if_neg (by simp)]
      exact wpAny_pure ⟨h'', x + 1, rfl, hrest, hlt, by rw [merged_take_succ kvs more x (k', v) hkv]; exact hd'', hoo'', hs'.trans hs''⟩
    · rintro b s' ⟨h', i, rfl, hr, hi, hd', hoo', hs'⟩
      have hin : i = eso.size := by
        rcases Nat.lt_or_ge i eso.size with h | h
        · have e : eso.size - i = (eso.size - (i + 1)) + 1 := by omega
          rw [e, List.range'_succ] at hr; exact nomatch hr
        · exact Nat.le_antisymm hi h
      refine wpAny_pure (hQ h' ?_ ⟨oo, eso, epo, hoo', hco, hdo', hko, hpo, hno⟩ hs')
      rw [hin, ← hlen, List.take_length] at hd'; exact hd'
  refine wpAny_bind (wpAny_dictEntries hod hdd ?_)
  split
  · refine wpAny_bind (wpAny_dictEntries hoo hdo' ?_)
    refine wpAny_bind ?_
    rw [← Array.forIn_toList]
    refine wpAny_forIn_list _ (fun rest _ s' => s' = s ∧ ∀ e ∈ rest, e ∈ eso) _ ?_ ?_ _ _ ⟨rfl, fun e he => by simpa using he⟩
    · rintro x rest b s' ⟨rfl, hr⟩
      obtain ⟨k, hk, _⟩ := hko x (hr x List.mem_cons_self)
      have hx : ∀ a, x.key ≠ .ref a := fun a e => by rw [e, hnr] at hk; exact nomatch hk
      cases hkey : x.key with
      | ref a => exact absurd hkey (hx a)
      | _ => exact wpAny_pure ⟨rfl, fun e he => hr e (List.mem_cons_of_mem _ he)⟩
    · rintro b s' ⟨rfl, _⟩
      exact loop
  · exact loop
end
end PySem
namespace VL
open PySem PySem.Spec PyProof.Rows L2
/-- {**e, k: v} -/
def tStar (te tk tv : TE) : TE := fun σ H Q => ∀ p, H p = none → te σ (upd H p (.dK [])) fun x H1 => ∃ (a : Addr) (ks : List (Key × V)), x = .ref a ∧ a ≠ p ∧ H1 a = some (.dK ks) ∧ H1 p = some (.dK []) ∧ ks.length ≤ 1000 ∧
  ∀ q, (upd H1 p (.dK (mergeK [] ks))) q = none → tk σ (upd (upd H1 p (.dK (mergeK [] ks))) q (.dK [])) fun y H2 => tv σ H2 fun z H3 => ∃ (k : Key) (ks1 : List (Key × V)), y = kV k ∧ H3 q = some (.dK []) ∧ H3 p = some (.dK ks1) ∧ ks1.length ≤ 1000 ∧
    Q (.ref p) (upd (upd H3 q (.dK [(k, z)])) p (.dK (putK ks1 k z)))
theorem mix_ref (P : Program) (w : World) : ∀ (k : Key) (a : Addr), (mixKind P w).is k (.ref a) = false := fun k a => by
  cases e : (mixKind P w).is k (.ref a) with
  | false => rfl
  | true => rcases keyIs_shape e with ⟨i, t, _, h⟩ | ⟨x, t, _, h⟩ <;> exact nomatch h
theorem pe_star {X : Cx} {pos : Pos} {e k v : Expr} {te tk tv : TE} (he : PE X e te) (hk : PE X k tk) (hv : PE X v tv) : PE X (.Dict [none, some k] [e, v] pos) (tStar te tk tv) := by
  refine ⟨fun pins s σ H Q I h => ?_⟩
  have hn := I.hok.fresh (Nat.le_refl s.heap.objs.size)
  have I1 := I.laid (a := s.heap.objs.size) (o := .dK []) (h' := s.heap.push { cls := .type "dict", data := .dict #[] }) (t' := s.toks) (fun _ _ q => Heap.get?_push_of_some _ q) (Nat.le_refl _) (dk_empty s.heap I.big)
  rw [arm_eval_Dict]
  refine wpAny_bind (wpAny_standAt ?_)
  show wpAny _ _ (dictDisplay [(none, do let x ← eval e X.env; standAt pos; pure x), (some (eval k X.env), do let x ← eval v X.env; standAt pos; pure x)]) _ _ _
  unfold dictDisplay
  dsimp only
  rw [List.forIn_cons]
  dsimp only
  refine wpAny_bind (wpAny_bind (wpAny_bind ?_))
  rw [if_pos (show ([] : List (Sem Value × Sem Value)).isEmpty = true from rfl)]
  refine wpAny_pure ?_
  dsimp only
  refine wpAny_bind (wpAny_alloc ?_)
  refine wpAny_bind (wpAny_holding (wpAny_bind (thn (he.run pins _ σ _ _ I1 (h _ hn)) fun u s1 ⟨x, H1, I2, rx, a, ks, ex, hap, ha, hp, hl, q1⟩ => ?_)))
  subst ex
  obtain rfl : u = Value.ref a := rx
  refine wpAny_bind (wpAny_standAt (wpAny_pure ?_))
  obtain ⟨_, hsP, vp, rp, dp⟩ := dk_of I2.hok hp
  obtain ⟨_, hsA, va, ra, da⟩ := dk_of I2.hok ha
  cases rp
  have la : va.length ≤ 1000 := by rw [← ra.length]; exact hl
  refine wpAny_bind (wpAny_onRaise (wpAny_tryCatch (wpAny_onRaise (wpAny_holding (wpAny_mergeMapping (mix_ref X.prog X.w) (Ne.symm hap) hsA dp da (fun h' dd' oo' hs => ?_) (by rw [sizeLine_eq, List.length_nil]; omega))))))
  refine wpAny_pure ?_
  have hm1 : (mergeK [] ks).length ≤ sizeLine := by
    have := length_mergeK ks []
    rw [List.length_nil] at this
    rw [sizeLine_eq]; omega
  have I3 : Inv X pins σ (upd H1 s.heap.objs.size (.dK (mergeK [] ks))) { s1 with heap := h' } := by
    have hex : ∃ q, h'.get? s.heap.objs.size = some q := let ⟨q, _, _, hq, _⟩ := dd'; ⟨q, hq⟩
    exact d_write (t' := s1.toks) I2 (by rw [hp]; exact True.intro) hs hex (dk_new hm1 hsP (KV.merge ra .nil) dd')
  dsimp only
  rw [List.forIn_cons]
  dsimp only
  rw [if_neg (by simp)]
  refine wpAny_bind (wpAny_bind (wpAny_pure ?_))
  refine wpAny_pure ?_
  dsimp only
  rw [List.forIn_nil]
  refine wpAny_pure ?_
  dsimp only
  rw [if_neg (by simp)]
  have hn2 := I3.hok.fresh (Nat.le_refl h'.objs.size)
  have I4 := I3.laid (a := h'.objs.size) (o := .dK []) (h' := h'.push { cls := .type "dict", data := .dict #[] }) (t' := s1.toks) (fun _ _ q => Heap.get?_push_of_some _ q) (Nat.le_refl _) (dk_empty h' I3.big)
  refine wpAny_bind (wpAny_bind (wpAny_holding (wpAny_subDict (knd := mixKind X.prog X.w) (by simp) ?_)))
  refine wpAny_mono ((pps_cons (pos := pos) hk hv pps_nil).run pins _ σ _ (fun ps H3 => match ps with
    | [(y, z)] => ∃ (kk : Key) (ks1 : List (Key × V)), y = kV kk ∧ H3 h'.objs.size = some (.dK []) ∧ H3 s.heap.objs.size = some (.dK ks1) ∧ ks1.length ≤ 1000 ∧
        Q (.ref s.heap.objs.size) (upd (upd H3 h'.objs.size (.dK [(kk, z)])) s.heap.objs.size (.dK (putK ks1 kk z)))
    | _ => False) I4 (q1 _ hn2)) (fun ws s3 ⟨ps, H3, I5, rel, q3⟩ => ?_) fun _ _ e => e
  match ps, rel, q3 with
  | [(y, z)], rel, ⟨kk, ks1, ey, hq3, hp3, hl3, q3⟩ =>
    subst ey
    obtain ⟨rs, c, rk⟩ := carries_of (P := X.prog) (w := X.w) (kvs := [(kk, z)]) rel
    obtain ⟨_, hsQ, vq, rq, dq⟩ := dk_of I5.hok hq3
    cases rq
    refine ⟨rs, c, dq, fun h2 dd2 hs2 => ?_⟩
    have hex2 : ∃ q, h2.get? h'.objs.size = some q := let ⟨q, _, _, hq, _⟩ := dd2; ⟨q, hq⟩
    have I6 := d_write (t' := s3.toks + ws.length) I5 (by rw [hq3]; exact True.intro) hs2 hex2 (dk_new (kvs := mergeK [] [(kk, z)]) (by show 1 ≤ sizeLine; decide) hsQ (KV.merge rk .nil) dd2)
    have eM : mergeK [] [(kk, z)] = [(kk, z)] := rfl
    rw [eM] at I6
    have hne : s.heap.objs.size ≠ h'.objs.size := fun e => by
      rw [← e, upd_same] at hn2
      exact nomatch hn2
    have hp4 : upd H3 h'.objs.size (.dK [(kk, z)]) s.heap.objs.size = some (.dK ks1) := by rw [upd_ne hne]; exact hp3
    have hq4 : upd H3 h'.objs.size (.dK [(kk, z)]) h'.objs.size = some (.dK [(kk, z)]) := upd_same
    obtain ⟨_, _, v1, r1, d1⟩ := dk_of I6.hok hp4
    obtain ⟨_, _, v2, r2, d2⟩ := dk_of I6.hok hq4
    have l1 : v1.length ≤ 1000 := by rw [← r1.length]; exact hl3
    have l2 : v2.length = 1 := by rw [← r2.length]; rfl
    refine wpAny_bind (wpAny_onRaise (wpAny_holding (wpAny_mergeMapping (mix_ref X.prog X.w) hne hsQ d1 d2 (fun h3 dd3 oo3 hs3 => ?_) (by rw [sizeLine_eq]; omega))))
    refine wpAny_pure ?_
    have hex3 : ∃ q, h3.get? s.heap.objs.size = some q := let ⟨q, _, _, hq, _⟩ := dd3; ⟨q, hq⟩
    have hm3 : (mergeK ks1 [(kk, z)]).length ≤ sizeLine := by
      have := length_mergeK [(kk, z)] ks1
      have e1 : [(kk, z)].length = 1 := rfl
      rw [sizeLine_eq]; omega
    have I7 := d_write (t' := s3.toks + ws.length) I6 (by rw [hp4]; exact True.intro) hs3 hex3 (dk_new hm3 hsP (KV.merge r2 r1) dd3)
    exact wpAny_pure ⟨.ref s.heap.objs.size, _, I7, rfl, q3⟩
  | [], _, q3 => exact q3.elim
  | _ :: _ :: _, _, q3 => exact q3.elim
/-- a local name that holds one of the text's defs, called -/
def tCallT (P : Program) (w : World) (K : PySem.W.Frag) (mg : Str → Option Value) (base : Heap) (j i : Nat) (t : TA) : TE := fun σ H Q => ∃ (x : Str) (k : Nat) (sp : Sp) (f : Addr), k ≤ j ∧ Cal P w K mg base k x sp ∧ mg x = some (.ref f) ∧
  σ[i]? = some (some (.ref f)) ∧ t σ H fun vs H1 => sp vs H1 Q E0
section
variable {X : Cx} {j i : Nat} {x : Str} {p pos : Pos} {e : Expr} {es : List Expr} {t : TA}
theorem pe_callT (hr : Room j X.A) (hN : X.N[i]? = some x) (hv : Vis X.env.scope x) (ha : PA X (e :: es) t)
    (hd : (x == ("__debug__" : Str)) = false := by decide) (hcd : (x == ("__classdict__" : Str)) = false := by decide)
    (he : starEach (e :: es) X.env = (false, eval e X.env) :: starEach es X.env := by rfl) (hpl : (backTo pos (starEach es X.env)).any (·.1) = false := by rfl) :
    PE X (.Call (.Name x p) (e :: es) [] pos) (tCallT X.prog X.w X.K X.mg X.base j i t) := by
  refine ⟨fun pins s σ H Q I h => ?_⟩
  obtain ⟨y, k, sp, f, hk, c, hm, hs, ht⟩ := h
  obtain ⟨f2, fd, ps, F, hm2, kp, b⟩ := c.ex
  obtain rfl : f = f2 := by
    rw [hm] at hm2
    injection hm2 with e1
    injection e1
  refine wpAny_Call_Name_kw (thn ((pe_var (pos := p) hN hv hd hcd).run pins s σ H (fun v H1 => v = .ref f ∧ H1 = H) I ⟨.ref f, hs, rfl, rfl⟩) fun u s1 ⟨v, H1, I1, r1, q1⟩ => ?_)
  obtain ⟨rfl, rfl⟩ := q1
  cases r1
  refine PySem.W.callWith_K (h₀ := X.base) I.ok.mod.kin kp (thn (ha.run pos pins s1 σ _ _ I1 ht) fun us s2 ⟨vs, H2, I2, r, q⟩ => ⟨I2.kIn, ?_⟩) he hpl
  exact run_fn F (hr.mono hk) b .nil pass0 I2 r (by rw [List.append_nil]; exact q)
end
/-- an entry of a dict of the module that holds a def -/
def EntT (K : PySem.W.Frag) (w : World) (mg : Str → Option Value) (a : Addr) (key x : Str) : Prop := ∃ f, mg x = some (.ref f) ∧ KDct K w a key (.ref f)
end VL

set_option Elab.async false
set_option linter.all false
set_option maxRecDepth 100000
set_option maxHeartbeats 4000000
namespace VL
open PySem PySem.Spec PyProof.Rows L2 NdefX

/-! ### an own exception's __init__ that begins with super().__init__(..), over ValueError -/
abbrev supBody (p0 p1 p2 p3 p4 : Pos) (es : List Expr) (rest : List Stmt) : List Stmt := .Expr (.Call (.Attribute (.Call (.Name "super" p0) [] [] p1) "__init__" p2) es [] p3) p4 :: rest
section
variable {CX : CXT} {P : Program} {w : World} {K : PySem.W.Frag} {mg : Str → Option Value} {base : Heap} {k : Nat} {f D cc cda : Addr} {name qual : Str} {params : Arguments} {es : List Expr} {ar : Arg} {rest : List Stmt} {p0 p1 p2 p3 p4 : Pos} {scope : Scope}
  {dV kV doc pm ct oc cl ccl : Value} {od cld cdd an : Option Addr} {osl csl ccs : Array (Option Value)} {vsC : Array Value} {file : Str} {tf : Tok} {cdD : ClassData} {N ps : List Str} {sp : Sp}
/-- what the written part says of it -/
structure SupK (P : Program) (K : PySem.W.Frag) (mg : Str → Option Value) (f D cc cda : Addr) (fd : FuncData) (qual : Str) : Prop where
  lk : ∃ oc od osl, K.lookup f = some ⟨oc, od, .func fd, osl⟩
  cd : PySem.W.codeIn K (.ref cda) qual = true
  cell : ∃ cl cld csl, K.lookup cc = some ⟨cl, cld, .cell (some (.ref D)), csl⟩
  code : ∃ ccl cdd vsC ccs file tf, K.lookup cda = some ⟨ccl, cdd, .fields vsC, ccs⟩ ∧ vsC[2]? = some (.str file tf) ∧ ((P.main.file : Str) == file) = true
  cls : ∃ cdD, PySem.W.clsIn K D = some cdD
  sub : PySem.W.mroIn K D (.ref D) = some true
  zsuper : mg "super" = none
  ops : PySem.W.nsIn K cStatics "thirdparty.any" = some none
  along : PySem.W.ks_superIn K D D "__init__" = some (some (.builtin "ValueError.__init__"))
  subV : PySem.W.subIn K (.ref D) (.type "ValueError") = some true
  top : (P.main.scope.names.lookup ("super" : Str)).isSome = false
theorem fn_sup {fd : FuncData} (T : SupK P K mg f D cc cda fd qual) (O : OexC K D) (efd : fd = PySem.W.fnX name qual params (supBody p0 p1 p2 p3 p4 es rest) scope [("__class__", cc)] dV kV doc pm an (.ref cda) ct)
    (S : NScope N ps ["__class__"] scope) (har : (params.posonlyargs ++ params.args).head? = some ar) (hps : ps.head? = some ar.arg) (hks : scope.names.lookup ("super" : Str) = some .globalImplicit)
    (hsw : ∀ env : Env, swapsWith (.Call (.Attribute (.Call (.Name "super" p0) [] [] p1) "__init__" p2) es [] p3) none p4.line env = pure false)
    (hst : ∀ env : Env, (backTo p3 (starEach es env)).any (·.1) = false)
    (hee : ∀ env : Env, ∃ x r, backTo p3 (starEach es env) = (false, x) :: r)
    {pl : Sem Bool} (hev : ∀ env : Env, eval (.Call (.Attribute (.Call (.Name "super" p0) [] [] p1) "__init__" p2) es [] p3) env = (do
      let ov ← attributeBase (.Call (.Name "super" p0) [] [] p1) "__init__" env (eval (.Call (.Name "super" p0) [] [] p1) env)
      standAt p2.atName
      let (g, first) ← holding [ov] (getMethod ov "__init__" pl)
      callWith p3 g first (backTo p3 (starEach es env)) []))
    (len : ∀ vs H Q E, sp vs H Q E → vs.length = ps.length)
    (hbody : ∀ (A : Around) (outer : List Env) (s : Shared) (H : Hp) (vs : List V) (Q : VK) (E : XK), Room k (A.deeper (envF ⟨name, qual, params, supBody p0 p1 p2 p3 p4 es rest, scope, [("__class__", cc)], cda⟩ f s.heap.objs.size)) → sp vs H Q E →
      ∃ ta tr, PA (ncx CX P w K mg base N ⟨name, qual, params, supBody p0 p1 p2 p3 p4 es rest, scope, [("__class__", cc)], cda⟩ f A outer s H E) es ta ∧
        PSs (ncx CX P w K mg base N ⟨name, qual, params, supBody p0 p1 p2 p3 p4 es rest, scope, [("__class__", cc)], cda⟩ f A outer s H E) rest tr ∧
        ∃ (a : Addr) (vs' : List V), vs = .ref a :: vs' ∧ H a = some (exo a D none) ∧
          ta (startF N vs [some (.ref D)]) H fun ws H1 => ws.length ≤ 1000 ∧ H1 a = some (exo a D none) ∧ tr { nx := fun _ H' => Q .non H', rt := Q } (startF N vs [some (.ref D)]) H1) :
    FnOk P w K mg base CX (k + 1) f fd ps sp := by
  subst efd
  obtain ⟨oc, od, osl, lk⟩ := T.lk
  obtain ⟨cl, cld, csl, hcell⟩ := T.cell
  obtain ⟨ccl, cdd, vsC, ccs, file, tf, hcode, hvs, hfile⟩ := T.code
  obtain ⟨cdD, hD⟩ := T.cls
  refine ⟨len, fun A outer s H args us vs Q E hr e0 hb r hsp => ?_⟩
  have hl := len _ _ _ _ hsp
  have KX : K.In s.heap := e0.mod.kin.keeps fun b o q => (e0.bs b o q).1
  have lim : s.heap.NoLimit := e0.mod.nolimit.keeps fun b o e => (e0.bs b o e).1
  have C : CellsAt [("__class__", cc)] ["__class__"] [some (.ref D)] s.heap H := by
    have one : ∀ y c, [(("__class__" : Str), cc)].lookup y = some c → y = "__class__" ∧ c = cc := fun y c e => by
      by_cases h : y = ("__class__" : Str)
      · subst h
        have e2 : [(("__class__" : Str), cc)].lookup ("__class__" : Str) = some cc := by simp [List.lookup]
        rw [e2] at e
        exact ⟨rfl, (Option.some.inj e).symm⟩
      · have q : (y == ("__class__" : Str)) = false := by simpa using h
        simp [List.lookup, q] at e
    have hc : ∃ v, s.heap.IsCell cc v := ⟨_, _, KX _ _ hcell, rfl⟩
    have hcH : H cc = none := (e0.bs cc _ (e0.mod.kin _ _ hcell)).2
    refine ⟨rfl, fun y c e => ?_, fun x y c e1 e2 => ?_, fun i y e => ?_⟩
    · obtain ⟨_, rfl⟩ := one y c e
      exact ⟨hcH, hc⟩
    · rw [(one _ _ e1).1, (one _ _ e2).1]
    · cases i with
      | zero =>
        injection e with e
        subst e
        refine ⟨cc, by simp [List.lookup], fun v ev => ?_⟩
        injection ev with ev
        injection ev with ev
        subst ev
        exact ⟨_, rfl, _, KX _ _ hcell, rfl⟩
      | succ i => cases i <;> cases e
  refine PySem.ks_codeAny_call_defAt (body := supBody p0 p1 p2 p3 p4 es rest) hr.depth (KX _ _ lk) rfl lim (PySem.W.codeRec_of KX T.cd) rfl hb S.nocell (fun ⟨n, _⟩ hy => S.par n (List.of_mem_zip hy).1) (fun h₁ hns kp => ?_) S.co S.gen S.kind
  obtain ⟨ta, tr, hA, hR, a, vs', ev, ha0, hq⟩ := hbody A outer s H vs Q E (hr.deeper _) hsp
  generalize hF : (⟨name, qual, params, supBody p0 p1 p2 p3 p4 es rest, scope, [("__class__", cc)], cda⟩ : NF) = F at hA hR
  have I : Inv (ncx CX P w K mg base N F f A outer s H E) [] (startF N vs [some (.ref D)]) H { s with heap := h₁, toks := s.toks + (ps.zip us).length } := by
    subst hF
    exact inv_startN S hr.hd e0 hl r C hns kp
  have eenv : callEnv (PySem.W.fnX name qual params (supBody p0 p1 p2 p3 p4 es rest) scope [("__class__", cc)] dV kV doc pm an (.ref cda) ct) s.heap.objs.size f = envF F f s.heap.objs.size := by
    subst hF
    rfl
  rw [eenv]
  have fin : ∀ {σ' : L2.St} {H' : Hp} {v : V} {u : Value} {s' : Shared}, Inv (ncx CX P w K mg base N F f A outer s H E) [] σ' H' s' → L2.RelV v u → Q v H' → CE outer P w H s Q u s' :=
    fun {σ' H' v u s'} J rv q => ⟨v, H', J.os, J.bare, J.base, J.hok, rv, q⟩
  refine PySem.ks_wpAt_mono (Q := SP (ncx CX P w K mg base N F f A outer s H E) [] { nx := fun _ H' => Q .non H', rt := Q }) (E := (ncx CX P w K mg base N F f A outer s H E).xe) ?go (fun fl s' hs => ?en) (fun _ _ x => x)
  case en =>
    cases fl with
    | ret u =>
      obtain ⟨v, σ', H', J, rv, q⟩ := hs
      exact fin J rv q
    | next =>
      obtain ⟨σ', H', J, q⟩ := hs
      exact fin (v := V.non) (u := Value.none) J rfl q
    | brk =>
      obtain ⟨_, _, _, q⟩ := hs
      exact False.elim q
    | cont =>
      obtain ⟨_, _, _, q⟩ := hs
      exact False.elim q
  have ekind : ∀ x, (envF F f s.heap.objs.size).kindOf x = scope.names.lookup x := by
    subst hF
    intro x
    rfl
  refine PySem.ks_wpAt_execs_cons (PySem.ks_wpAt_Expr_any (PySem.ks_wpAt_MethodCall (pl := pl) ?_ (hev _)) I.quiet (hsw _))
  refine PySem.ks_wpAt_super_base (env := envF F f s.heap.objs.size) ((ekind _).trans hks) ((ekind _).trans (S.frk _ List.mem_cons_self)) rfl rfl (kp _ _ (KX _ _ lk)) rfl har (by subst hF; rfl) (kp _ _ (KX _ _ hcode)) rfl hvs hfile T.top ?_
  have escope : (envF F f s.heap.objs.size).scope = scope := by subst hF; rfl
  have ecells : (envF F f s.heap.objs.size).cells = [(("__class__" : Str), cc)] := by subst hF; rfl
  obtain ⟨mb, b1, b2⟩ := e0.mod.blt
  have kb : ∀ b o, base.get? b = some o → h₁.get? b = some o := fun b o q => kp b o (e0.bs b o q).1
  have X₁ : K.In h₁ := KX.keeps kp
  have hgl := e0.mod.glob.keeps kb
  have hbl := b1.keeps kb
  refine PySem.W.ks_loadName_global (by rw [escope]; exact S.kind) ((ekind _).trans hks) (Calls.loadGlobal_builtin hgl T.zsuper hbl ((b2 _ (by decide +kernel)).trans Boot.«super») ⟨rfl, ?_⟩)
  refine wpAny_loadName_free (by rw [escope]; exact S.kind) ((ekind _).trans (S.frk _ List.mem_cons_self)) (c := cc) (v := .ref D) (by rw [ecells]; simp [List.lookup]) ⟨_, X₁ _ _ hcell, rfl⟩ ?_
  have hself : (ps.zip us).reverse.lookup ar.arg = some (.ref a) := by
    subst ev
    cases ps with
    | nil => cases hps
    | cons p ps' =>
      injection hps with hps
      subst hps
      cases r with
      | @cons _ u0 _ ur ra rw' =>
        obtain rfl : u0 = Value.ref a := ra
        have nd : (ar.arg :: ps').Nodup := by
          have q := S.nd.sublist (List.take_sublist ((ar.arg :: ps').length + [("__class__" : Str)].length) N)
          rw [S.pre] at q
          exact (List.nodup_append.mp q).1
        exact zip_look (i := 0) nd rfl rfl
  have hpar : scope.names.lookup ar.arg = some .local := by
    refine S.par _ ?_
    cases ps with
    | nil => cases hps
    | cons p ps' =>
      injection hps with hps
      subst hps
      exact List.mem_cons_self
  refine wpAny_loadName_local (by rw [escope]; exact S.kind) ((ekind _).trans hpar) hns hself ?_
  obtain ⟨oD, hD1, hD2⟩ : ∃ oD, h₁.get? D = some oD ∧ oD.data = .cls cdD := by
    have z := hD
    unfold PySem.W.clsIn at z
    split at z
    · rename_i ho
      cases z
      exact ⟨_, X₁ _ _ ho, rfl⟩
    · cases z
  refine PySem.ks_wpAny_isType_cls hD1 hD2 ⟨rfl, ?_⟩
  obtain ⟨t1, hoa⟩ := exo_at I.hok ha0
  refine PySem.ks_wpAny_call_super hD1 hD2 hoa rfl (fun c e => by cases e) (PySem.W.looks_mroIn X₁ T.sub) (fun h₂ e2 k2 => ?_)
  have I2 := I.kept (t' := s.toks + (ps.zip us).length) k2
  have X₂ : K.In h₂ := X₁.keeps k2
  have IA : PySem.W.InstAt h₂ a { cls := .ref D, dict := none, data := .fields #[.ref t1, .none, .none, .none, .bool false, .none] } D none := ⟨k2 _ _ hoa, rfl, rfl, trivial⟩
  have hal := T.along
  unfold PySem.W.ks_superIn at hal
  rw [hD] at hal
  have hmro : PySem.W.Looks (model P w) h₂ (mroOf (.ref D)) cdD.mro := fun A Q E s k q => wpAny_bind ((PySem.W.looks_clsIn X₂ hD) A _ E s k (wpAny_pure q))
  refine PySem.W.kxs_getMethod PySem.W.kxs_ValueError e2 (PySem.W.looks_opaque X₂ T.ops) hmro rfl X₂ hal (IA.type.andThen (PySem.W.looks_subIn X₂ T.subV)) (PySem.W.ks_ne X₂ IA hD) rfl ?_
  have kmw : ∀ b o, h₂.get? b = some o → (h₂.push (PySem.W.kxs_mw "ValueError.__init__" a)).get? b = some o := fun b o q => Heap.get?_push_of_some _ q
  have I3 : Inv (ncx CX P w K mg base N F f A outer s H E) [(h₂.objs.size, PySem.W.kxs_mw "ValueError.__init__" a)] (startF N vs [some (.ref D)]) H { s with heap := h₂.push (PySem.W.kxs_mw "ValueError.__init__" a), toks := s.toks + (ps.zip us).length + 1 } := by
    refine (I2.kept (t' := s.toks + (ps.zip us).length + 1) kmw).pins_of fun p hp => ?_
    rw [List.mem_singleton.mp hp]
    exact ⟨Heap.get?_push_at rfl rfl, I2.hok.fresh (Nat.le_refl _), Nat.ne_of_gt I2.lt, I2.nofs (Nat.le_refl _), fun v e => by cases e⟩
  refine PySem.W.kxs_callWith (i := "ValueError.__init__") (x := a) (hst _) ?_
  obtain ⟨x0, r0, hx⟩ := hee (envF F f s.heap.objs.size)
  rw [hx]
  refine Calls.evalArgs_plain ?_
  rw [← hx]
  refine thn (hA.run p3 _ _ _ H _ I3 hq) (fun us1 s4 ⟨ws, H1, I4, r1, hz, ha1, hrest⟩ => ⟨(I4.pin (h₂.objs.size, PySem.W.kxs_mw "ValueError.__init__" a) (List.mem_append_right _ List.mem_cons_self)).1, ?_⟩)
  have hu := (I4.pin (h₂.objs.size, PySem.W.kxs_mw "ValueError.__init__" a) (List.mem_append_right _ List.mem_cons_self)).1
  have I5 : Inv (ncx CX P w K mg base N F f A outer s H E) [] (startF N vs [some (.ref D)]) H1 s4 := I4.pins_of fun p hp => by cases hp
  obtain ⟨nm, q, Nn, bs, bm, sn, sub, ab, col, dd, k0, k1, k2', k3, k5, hC, hbm⟩ := O.cls
  obtain ⟨t2, ho⟩ := exo_at I5.hok ha1
  have hus : us1.length ≤ sizeLine := by
    rw [← Paired.length r1]
    exact Nat.le_trans hz (by decide)
  have kin4 := I5.kIn
  obtain ⟨hp, g, d, tk, os⟩ := s4
  refine wpAny_call (codeAny_of_tree ?_)
  show wpAny _ (A.deeper (envF F f s.heap.objs.size)).in1 (callAny (.ref h₂.objs.size) ⟨us1, []⟩) _ _ _
  simp only [callAny]
  refine wpAny_bind (wpAny_load hu ?_)
  simp only [PySem.W.kxs_mw, show (Value.type "method-wrapper" == Value.type "method" || Value.type "method-wrapper" == Value.type "builtin_function_or_method" || Value.type "method-wrapper" == Value.type "method-wrapper") = true by decide, if_true]
  refine PySem.W.KFB.if_so (by decide) ?_
  refine wpAny_bind (PySem.W.check_bound_init PySem.F.excBase_ValueError.toExcCallFacts (kin4 _ _ hC) ho rfl ?_)
  refine wpAny_bind (wpAny_pure (wpAny_pure ?_))
  refine ⟨plainId_quiet PySem.F.excBase_ValueError.init.plain _, codeAny_builtin PySem.F.excBase_ValueError.initEntry ?_⟩
  refine PySem.W.exc_init_tree (cls := .ref D) (t0 := t2) (dv := none) (c2 := .none) (c3 := .none) (b4 := .bool false) ho hus fun h' kk e' _ => ?_
  have J := I5.write (t' := tk) (x := a) (e := a) (o := exo a D none) (by rw [ha1]; exact True.intro) (.inl rfl) kk ⟨_, e'⟩ (exo_ok e')
  have eu : upd H1 a (exo a D none) = H1 := by
    funext b
    by_cases hb : b = a
    · rw [hb, upd_same, ha1]
    · rw [upd_ne hb]
  rw [eu] at J
  exact wpAt_of_wpAny (hR.run [] _ _ H1 _ J hrest)
end
end VL

set_option Elab.async false
set_option linter.all false
set_option maxRecDepth 100000
set_option maxHeartbeats 4000000
namespace VL
open PySem PySem.Spec PyProof.Rows L2 NdefX

/-! ### isinstance of a caught error that has a dict -/
theorem call_isED {X : Cx} {a D : Addr} {oe : Obj} {cls : Value} {d : Option Addr} {pn : List (Addr × Obj)} (C : ExcC X.K D) (hz : Zc cls d oe) (hf : ∃ vs, oe.data = .fields vs) :
    CallR (X.suite a ((a, oe) :: pn)) (.builtin "isinstance") (fun xs H Q => cls = .ref D ∧ ∃ (dd : Addr) (fs : List (Str × V)) (c : V) (cv : Value) (b : Bool), d = some dd ∧ H dd = some (.xd fs) ∧ xs = [.ref a, c] ∧ (∀ u, RelV c u → u = cv) ∧ PySem.W.kitOne X.K (.ref D) cv = some b ∧ Q (.bl b) H) := by
  intro pins s σ H xs us Q I r h
  obtain ⟨ec, dd, fs, c, cv, b, ed, ea, ex, hcv, e, q⟩ := h
  subst ec ed ex
  cases r with
  | cons rx rr =>
    cases rr with
    | cons rt rr =>
      cases rr
      cases rx
      obtain rfl := hcv _ rt
      have hp := (I.pin (a, oe) (List.mem_append_left _ List.mem_cons_self)).1
      obtain ⟨vs, hv⟩ := hf
      have hx : ObjOk X.prog X.w H s.heap dd (.xd fs) := I.hok dd _ ea
      obtain ⟨mA, hns, _⟩ := hx
      obtain ⟨od, ho, _⟩ := lookIn_ns hns
      have J : PySem.W.InstAt s.heap a oe D (some od) := ⟨hp, hz.1, by unfold PySem.W.notCls; rw [hv] <;> rfl, by rw [hz.2]; exact ho⟩
      have hcl : (PySem.W.clsIn X.K D).isSome = true := by
        obtain ⟨cd, hc, _⟩ := PySem.W.any_some C.hd
        rw [hc]
        rfl
      exact PySem.W.kia_one (PySem.W.kitx_exc (ox := oe) (od := some od) hcl C.hg C.hk C.hs C.ha C.hn C.ht C.hm) I.kIn J e (fun z => nomatch z) fun tk => ⟨.bl b, H, I.kept (t' := tk) fun _ _ z => z, rfl, q⟩
end VL

set_option Elab.async false
set_option linter.all false
set_option maxRecDepth 100000
set_option maxHeartbeats 4000000
namespace VL
open PySem PySem.Spec PyProof.Rows L2

/-! ### defs and methods that may raise -/
structure CalX (P : Program) (w : World) (K : PySem.W.Frag) (mg : Str → Option Value) (base : Heap) (k : Nat) (x : Str) (sp : Sp) : Prop where
  ex : ∃ (f : Addr) (fd : FuncData) (ps : List Str), FnOk P w K mg base (L2.CX P w) k f fd ps sp ∧ mg x = some (.ref f) ∧ PySem.W.keepIn K (.ref f) = true ∧ Binds K fd ps []
structure MetX (P : Program) (w : World) (K : PySem.W.Frag) (mg : Str → Option Value) (base : Heap) (k : Nat) (C : Addr) (m : Str) (sp : Sp) : Prop where
  ex : ∃ (f : Addr) (fd : FuncData) (ps : List Str), Cls K C ∧ Meth K C m f ∧ FnOk P w K mg base (L2.CX P w) k f fd ps sp ∧ Binds K fd ps []
structure MakX (P : Program) (w : World) (K : PySem.W.Frag) (mg : Str → Option Value) (base : Heap) (k : Nat) (x : Str) (C : Addr) (sp : Sp) : Prop where
  ex : ∃ (f : Addr) (fd : FuncData) (ps : List Str), Mk K C f ∧ FnOk P w K mg base (L2.CX P w) k f fd ps sp ∧ mg x = some (.ref C) ∧ Binds K fd ps []
section
variable {X : Cx} {k j : Nat} {C : Addr} {x m : Str} {sp : Sp} {E : XK} {p pos apos : Pos} {e o : Expr} {es : List Expr} {ta : TE} {t : TA}
theorem pe_cX (hx : Passes (L2.CX X.prog X.w) X E) (c : CalX X.prog X.w X.K X.mg X.base k x sp) (hr : Room j X.A) (hk : k ≤ j) (hg : Gl X x) (ha : PA X (e :: es) t)
    (hdb : (x == ("__debug__" : Str)) = false := by decide) (he : starEach (e :: es) X.env = (false, eval e X.env) :: starEach es X.env := by rfl) (hpl : (backTo pos (starEach es X.env)).any (·.1) = false := by rfl) :
    PE X (.Call (.Name x p) (e :: es) [] pos) (tCall sp [] E t) := by
  obtain ⟨f, fd, ps, F, hm, kp, b⟩ := c.ex
  exact pe_call F (hr.mono hk) hg hm kp b .nil hx ha hdb he hpl
theorem pe_mkX (hx : Passes (L2.CX X.prog X.w) X E) (c : MakX X.prog X.w X.K X.mg X.base k x C sp) (hr : Room j X.A) (hk : k + 1 ≤ j) (hg : Gl X x) (ha : PA X (e :: es) t)
    (hdb : (x == ("__debug__" : Str)) = false := by decide) (he : starEach (e :: es) X.env = (false, eval e X.env) :: starEach es X.env := by rfl) (hpl : (backTo pos (starEach es X.env)).any (·.1) = false := by rfl) :
    PE X (.Call (.Name x p) (e :: es) [] pos) (tMake C sp [] E t) := by
  obtain ⟨f, fd, ps, M, F, hm, b⟩ := c.ex
  exact pe_make M F (hr.mono hk) hg hm b .nil hx ha hdb he hpl
theorem pe_mtX {pl : Sem Bool} (hx : Passes (L2.CX X.prog X.w) X E) (c : MetX X.prog X.w X.K X.mg X.base k C m sp) (hr : Room j X.A) (hk : k ≤ j) (he : PE X o ta) (ha : PA X (e :: es) t)
    (hst : starEach (e :: es) X.env = (false, eval e X.env) :: starEach es X.env := by rfl) (hpl : (backTo pos (starEach es X.env)).any (·.1) = false := by rfl)
    (ht : eval (.Call (.Attribute o m apos) (e :: es) [] pos) X.env = (do
      let ov ← eval o X.env
      standAt apos.atName
      let (f, first) ← holding [ov] (getMethod ov m pl)
      callWith pos f first (backTo pos (starEach (e :: es) X.env)) (backToKw pos (keywordEach [] X.env))) := by rfl) :
    PE X (.Call (.Attribute o m apos) (e :: es) [] pos) (tMeth C m sp [] E ta t) := by
  obtain ⟨f, fd, ps, hc, hm, F, b⟩ := c.ex
  exact pe_meth (pl := pl) he hc hm F (hr.mono hk) b .nil hx ha hst hpl ht
theorem pe_mtX0 {pl : Sem Bool} (hx : Passes (L2.CX X.prog X.w) X E) (c : MetX X.prog X.w X.K X.mg X.base k C m sp) (hr : Room j X.A) (hk : k ≤ j) (he : PE X o ta)
    (ht : eval (.Call (.Attribute o m apos) [] [] pos) X.env = (do
      let ov ← eval o X.env
      standAt apos.atName
      let (f, first) ← holding [ov] (getMethod ov m pl)
      callWith pos f first (backTo pos (starEach [] X.env)) (backToKw pos (keywordEach [] X.env))) := by rfl) :
    PE X (.Call (.Attribute o m apos) [] [] pos) (tMeth C m sp [] E ta tNil) := by
  obtain ⟨f, fd, ps, hc, hm, F, b⟩ := c.ex
  exact pe_meth0 (pl := pl) he hc hm F (hr.mono hk) b .nil hx ht
end
section
variable {P : Program} {w : World} {K : PySem.W.Frag} {mg : Str → Option Value} {base : Heap}
theorem okX_of {x qual : Str} {st : Stmt} {ps N : List Str} {f : Addr} {fd : FuncData} {k : Nat} {sp : Sp} (F : Fun K x qual st f fd) (S : FnScope N ps (defScope st)) (len : ∀ vs H Q E, sp vs H Q E → vs.length = ps.length)
    (hbody : ∀ (f : Addr) (cdv : Value) (A : Around) (outer : List Env) (s : Shared) (H : Hp) (vs : List V) (Q : VK) (E : XK), Room k (A.deeper (envOfC qual (defScope st) s.heap.objs.size f cdv)) → sp vs H Q E →
      ∃ t, PSs (cxOf (L2.CX P w) P w K mg base N qual (defScope st) f cdv A outer s H E) (defBody st) t ∧ t { nx := fun _ H' => Q .non H', rt := Q } (start N vs) H) : FnOk P w K mg base (L2.CX P w) (k + 1) f fd ps sp :=
  F.okX S len (hbody f)
theorem calX_of {x : Str} {st : Stmt} {ps N : List Str} {k : Nat} {sp : Sp} (D : DefE K mg x st ps) (S : FnScope N ps (defScope st)) (len : ∀ vs H Q E, sp vs H Q E → vs.length = ps.length)
    (hbody : ∀ (f : Addr) (cdv : Value) (A : Around) (outer : List Env) (s : Shared) (H : Hp) (vs : List V) (Q : VK) (E : XK), Room k (A.deeper (envOfC x (defScope st) s.heap.objs.size f cdv)) → sp vs H Q E →
      ∃ t, PSs (cxOf (L2.CX P w) P w K mg base N x (defScope st) f cdv A outer s H E) (defBody st) t ∧ t { nx := fun _ H' => Q .non H', rt := Q } (start N vs) H) : CalX P w K mg base (k + 1) x sp := by
  obtain ⟨f, fd, F, hm, b⟩ := D
  exact ⟨f, fd, ps, okX_of F S len hbody, hm, F.kp, b⟩
theorem metX_of {C : Addr} {x qual : Str} {st : Stmt} {ps N : List Str} {k : Nat} {sp : Sp} (D : MethE K C x qual st ps) (c : Cls K C) (S : FnScope N ps (defScope st)) (len : ∀ vs H Q E, sp vs H Q E → vs.length = ps.length)
    (hbody : ∀ (f : Addr) (cdv : Value) (A : Around) (outer : List Env) (s : Shared) (H : Hp) (vs : List V) (Q : VK) (E : XK), Room k (A.deeper (envOfC qual (defScope st) s.heap.objs.size f cdv)) → sp vs H Q E →
      ∃ t, PSs (cxOf (L2.CX P w) P w K mg base N qual (defScope st) f cdv A outer s H E) (defBody st) t ∧ t { nx := fun _ H' => Q .non H', rt := Q } (start N vs) H) : MetX P w K mg base (k + 1) C x sp := by
  obtain ⟨f, fd, F, hm, b⟩ := D
  exact ⟨f, fd, ps, c, hm, okX_of F S len hbody, b⟩
theorem makX_of {C : Addr} {cn qual : Str} {st : Stmt} {ps N : List Str} {k : Nat} {sp : Sp} (D : InitE K mg cn C qual st ps) (S : FnScope N ps (defScope st)) (len : ∀ vs H Q E, sp vs H Q E → vs.length = ps.length)
    (hbody : ∀ (f : Addr) (cdv : Value) (A : Around) (outer : List Env) (s : Shared) (H : Hp) (vs : List V) (Q : VK) (E : XK), Room k (A.deeper (envOfC qual (defScope st) s.heap.objs.size f cdv)) → sp vs H Q E →
      ∃ t, PSs (cxOf (L2.CX P w) P w K mg base N qual (defScope st) f cdv A outer s H E) (defBody st) t ∧ t { nx := fun _ H' => Q .non H', rt := Q } (start N vs) H) : MakX P w K mg base (k + 1) cn C sp := by
  obtain ⟨f, fd, F, M, hm, b⟩ := D
  exact ⟨f, fd, ps, M, okX_of F S len hbody, hm, b⟩
end
/-- what leaves a def that may raise -/
abbrev thruX {P : Program} {w : World} {K : PySem.W.Frag} {mg : Str → Option Value} {base : Heap} {N : List Str} {qual : Str} {scope : Scope} {f : Addr} {cdv : Value} {A : Around} {outer : List Env} {s : Shared} {H : Hp} {E : XK} :
    Passes (L2.CX P w) (cxOf (L2.CX P w) P w K mg base N qual scope f cdv A outer s H E) E := passes_call (W := fun cls d _ H => E cls d H) (takes_of rfl rfl rfl rfl) fun _ _ _ _ h => h
abbrev takeX {P : Program} {w : World} {K : PySem.W.Frag} {mg : Str → Option Value} {base : Heap} {N : List Str} {qual : Str} {scope : Scope} {f : Addr} {cdv : Value} {A : Around} {outer : List Env} {s : Shared} {H : Hp} {E : XK} :
    Takes (cxOf (L2.CX P w) P w K mg base N qual scope f cdv A outer s H E) (fun cls d _ H => E cls d H) := takes_of rfl rfl rfl rfl
end VL

set_option Elab.async false
set_option linter.all false
set_option maxRecDepth 100000
set_option maxHeartbeats 4000000
namespace VL
open PySem PySem.Spec PyProof.Rows L2

/-! ### x is True, x is False: whatever x is -/
theorem op_isBl {X : Cx} : OpR X (compareOp .Is) (fun x y H Q => ∃ b, y = .bl b ∧ Q (.bl (decide (x = .bl b))) H) := by
  intro pins s σ H x y v u Q I rx ry h
  obtain ⟨b, rfl, q⟩ := h
  cases (show u = Value.bool b from ry)
  have same : v = Value.bool b → x = .bl b → wpAny (model X.prog X.w) X.A (compareOp .Is v (.bool b)) (EP X pins σ Q) X.xe s := fun e1 e2 => by
    subst e1
    refine wpAny_is_self rfl ⟨.bl true, H, I, rfl, ?_⟩
    rw [decide_eq_true e2] at q
    exact q
  have diff : v ≠ Value.bool b → x ≠ .bl b → plainIs v (.bool b) = true → (v == Value.bool b) = false → wpAny (model X.prog X.w) X.A (compareOp .Is v (.bool b)) (EP X pins σ Q) X.xe s := fun e1 e2 e3 e4 => by
    rw [decide_eq_false e2] at q
    show wpAny _ _ ((isSame v (Value.bool b)) >>= fun z => pure (Value.bool z)) _ _ s
    exact wpAny_bind (wpAny_isSame_plain e3 (by rw [e4]; exact wpAny_pure ⟨.bl false, H, I, rfl, q⟩))
  cases x with
  | ref a => cases rx; exact diff (fun h => nomatch h) (fun h => nomatch h) rfl rfl
  | non => cases rx; exact diff (fun h => nomatch h) (fun h => nomatch h) rfl rfl
  | bl c =>
    cases (show v = Value.bool c from rx)
    by_cases e : c = b
    · subst e
      exact same rfl rfl
    · exact diff (fun h => e (by injection h)) (fun h => e (by injection h)) rfl (by cases c <;> cases b <;> first | rfl | exact absurd rfl e)
  | int i => obtain ⟨t, rfl⟩ := rx; exact diff (fun h => nomatch h) (fun h => nomatch h) rfl rfl
  | str x => obtain ⟨t, rfl⟩ := rx; exact diff (fun h => nomatch h) (fun h => nomatch h) rfl rfl
  | byt x => obtain ⟨t, rfl⟩ := rx; exact diff (fun h => nomatch h) (fun h => nomatch h) rfl rfl
  | flt x => obtain ⟨t, rfl⟩ := rx; exact diff (fun h => nomatch h) (fun h => nomatch h) rfl rfl
  | ty n => cases rx; exact diff (fun h => nomatch h) (fun h => nomatch h) rfl rfl

/-! ### a dict of the module whose keys are texts: what is not in it -/
def keysT (es : Array DictEntry) : List Str := es.toList.map fun e => match e.key with | .str x _ => x | _ => Str.empty
structure KdT (K : PySem.W.Frag) (w : World) (d : Addr) (es : Array DictEntry) (n : Nat) (ks : List Str) : Prop where
  kd : KDict K w d es n
  keys : keysT es = ks
theorem KdT.none {K : PySem.W.Frag} {w : World} {d : Addr} {es : Array DictEntry} {n : Nat} {ks : List Str} (D : KdT K w d es n ks) {z : Str} (h : z ∉ ks) : PySem.W.nsIn K d z = some Option.none := by
  have lit := D.kd.lit
  have keys := D.keys
  unfold PySem.W.nsIn
  rw [D.kd.at_]
  have key : ∀ l : List DictEntry, PySem.W.KeysLit w.params l → (∀ e ∈ l, ∀ x t, e.key = .str x t → x ≠ z) → l.find? (·.key.isStr z) = Option.none ∧ l.any (·.refKey) = false := by
    intro l
    induction l with
    | nil => intro _ _; exact ⟨rfl, rfl⟩
    | cons e l ih =>
      intro hl hz
      obtain ⟨⟨x, t, hk, _⟩, hl⟩ := hl
      obtain ⟨h1, h2⟩ := ih hl fun e he => hz e (List.mem_cons_of_mem _ he)
      have hx := hz e List.mem_cons_self x t hk
      have e1 : e.key.isStr z = false := by
        rw [hk, PySem.W.isStr_of]
        simpa [Value.isStrOf] using hx
      have e2 : e.refKey = false := by
        unfold DictEntry.refKey
        rw [hk]
      refine ⟨?_, ?_⟩
      · rw [List.find?_cons_of_neg (by rw [e1]; decide)]
        exact h1
      · rw [List.any_cons, e2, h2]
        rfl
  have hne : ∀ e ∈ es.toList, ∀ x t, e.key = .str x t → x ≠ z := fun e he x t hk hx => h (by
    rw [← keys]
    unfold keysT
    refine List.mem_map.mpr ⟨e, he, ?_⟩
    rw [hk]
    exact hx)
  obtain ⟨h1, h2⟩ := key es.toList lit hne
  simp only [h1, h2]
  rfl

/-! ### a method that may raise, called in a try's body -/
def tMethS (C : Addr) (m : Str) (sp : Sp) (E : L2.St → XK) (ta : TE) (t : TA) : TE := fun σ H Q => ta σ H fun x H1 => ∃ a dx fs, x = .ref a ∧ H1 a = some (.ins C dx fs) ∧ fs.lookup m = none ∧ t σ H1 fun vs H2 => sp (x :: vs) H2 Q (E σ)
section
variable {X : Cx} {k j : Nat} {C : Addr} {m : Str} {sp : Sp} {E : L2.St → XK} {pos apos : Pos} {e o : Expr} {es : List Expr} {ta : TE} {t : TA}
theorem pe_mtXS {pl : Sem Bool} (c : MetX X.prog X.w X.K X.mg X.base k C m sp) (hr : Room j X.A) (hk : k ≤ j) (hx : ∀ σ, PassesAt (L2.CX X.prog X.w) X σ (E σ)) (he : PE X o ta) (ha : PA X (e :: es) t)
    (hst : starEach (e :: es) X.env = (false, eval e X.env) :: starEach es X.env := by rfl) (hpl : (backTo pos (starEach es X.env)).any (·.1) = false := by rfl)
    (ht : eval (.Call (.Attribute o m apos) (e :: es) [] pos) X.env = (do
      let ov ← eval o X.env
      standAt apos.atName
      let (f, first) ← holding [ov] (getMethod ov m pl)
      callWith pos f first (backTo pos (starEach (e :: es) X.env)) (backToKw pos (keywordEach [] X.env))) := by rfl) :
    PE X (.Call (.Attribute o m apos) (e :: es) [] pos) (tMethS C m sp E ta t) := by
  obtain ⟨f, fd, ps, hc, hm, F, b⟩ := c.ex
  refine ⟨fun pins s σ H Q I h => PySem.W.methodCall_KW (pl := pl) (thn (he.run pins s σ H _ I h) fun u s1 z => ?_) ht⟩
  obtain ⟨x, H1, I1, rx, a, dx, fs, ex, ea, l, q⟩ := z
  subst ex
  cases (show u = Value.ref a from rx)
  refine getmeth_ok I1 ea hc hm l (PySem.W.callWith_K (first := [.ref a]) (h₀ := X.base) I.ok.mod.kin hm.kp (thn (ha.run pos pins s1 σ H1 _ I1 q) fun us s2 z => ?_) hst hpl)
  obtain ⟨vs, H2, I2, r, q2⟩ := z
  exact ⟨I2.kIn, run_fnS (us := .ref a :: us) (vs := .ref a :: vs) F (hr.mono hk) b (hx σ) I2 (.cons rfl r) q2⟩
end
end VL

set_option Elab.async false
set_option linter.all false
set_option maxRecDepth 100000
set_option maxHeartbeats 4000000
namespace VL
open PySem PySem.Spec PyProof.Rows L2
/-! ### list(d.values()) -/
def valuesO (p d : Addr) : HO := .ext fun h => h.IsValuesView p d
theorem valuesO_ok {P : Program} {w : World} {H : Hp} {h : Heap} {p d : Addr} (hp : h.get? p = some { cls := .type "dict_values", data := .fields #[.ref d] }) : ObjOk P w H h p (valuesO p d) := by
  refine ⟨⟨_, hp, rfl, rfl⟩, ⟨_, hp⟩, ?_⟩
  rintro h1 h2 ⟨o, ho, hc, hd⟩ k
  exact ⟨o, k o ho, hc, hd⟩
section
variable {X : Cx}
def rValuesK : V → List V → Hp → VK → Prop := fun x xs H Q => ∃ (a : Addr) (kvs : List (Key × V)), x = .ref a ∧ xs = [] ∧ H a = some (.dK kvs) ∧ ∀ p, H p = none → Q (.ref p) (upd H p (valuesO p a))
theorem mt_valuesK : MtR X "dict.values" rValuesK := by
  intro pins s σ H x xs v us Q I rx rxs h
  obtain ⟨a, kvs, rfl, rfl, ha, q⟩ := h
  cases rx
  cases rxs
  obtain ⟨z, hd, xs', rel, hdo⟩ := dk_of I.hok ha
  obtain ⟨es, ep, raw, hsz, hget⟩ := hdo.raw
  have raw' := raw
  obtain ⟨o, ho, hx, hdat⟩ := raw'
  refine call_meetsIn PySem.F.slot_dict_values ⟨_, ho, hx.1⟩ PySem.F.entry_dict_values (PySem.F.args_dict_values_1 _) (meets_dict_values_raw a hd) ⟨⟨es, ep, raw⟩, ?_⟩
  have hf : H s.heap.objs.size = none := I.hok.fresh (Nat.le_refl _)
  exact ⟨.ref s.heap.objs.size, upd H s.heap.objs.size (valuesO s.heap.objs.size a), I.laid (t' := s.toks) (fun b u e => Heap.get?_push_of_some _ e) (Nat.le_refl _) (valuesO_ok (Heap.get?_push_size _ rfl)), rfl, q _ hf⟩
theorem call_listV (hc : X.calm = true) : CallR X (.type "list") fun xs H Q => ∃ (p a : Addr) (kvs : List (Key × V)), xs = [.ref p] ∧ H p = some (valuesO p a) ∧ H a = some (.dK kvs) ∧ ∀ l, H l = none → Q (.ref l) (upd H l (.lst (kvs.map (·.2)))) := by
  intro pins s σ H vs us Q I r h
  obtain ⟨p, a, kvs, rfl, hp, ha, q⟩ := h
  obtain ⟨u, rfl, ru⟩ := vals1 r
  obtain rfl : u = Value.ref p := ru
  have view : s.heap.IsValuesView p a := (show ObjOk X.prog X.w H s.heap p (valuesO p a) from I.hok p _ hp).1
  obtain ⟨z, hd, xs', rel, hdo⟩ := dk_of I.hok ha
  obtain ⟨es, ep, raw, hsz, hget⟩ := hdo.raw
  have hl := rel.length
  refine W.kdl_call (KdlSrc.rawValues (es := es) (ep := ep)) (I.ok.hd hc) ⟨view, raw⟩ (by omega) fun h' tk acc c hk hS hI => ?_
  have hf : H s.heap.objs.size = none := I.hok.fresh (Nat.le_refl _)
  have rv : Vals (kvs.map (·.2)) acc.toList := by
    have e : acc.toList = xs'.map (·.2) := by
      refine List.ext_getElem? fun j => ?_
      rw [Array.getElem?_toList, List.getElem?_map]
      by_cases hj : j < es.size
      · have ha' : j < acc.size := by rw [hI.1]; exact hj
        have hx : j < xs'.length := by omega
        obtain ⟨hi, hv⟩ := hI.2 j acc[j] (Array.getElem?_eq_getElem ha')
        rw [Array.getElem?_eq_getElem ha', List.getElem?_eq_getElem hx, hv]
        exact congrArg some (hget j hi xs'[j].1 xs'[j].2 (List.getElem?_eq_getElem hx)).2
      · rw [Array.getElem?_eq_none (by rw [hI.1]; omega), List.getElem?_eq_none (by omega)]
        rfl
    rw [e]
    exact kv_vals rel
  exact ⟨.ref s.heap.objs.size, upd H s.heap.objs.size (.lst (kvs.map (·.2))), I.laid (t' := tk) hk (Nat.le_refl _) (show ObjOk X.prog X.w _ _ _ (.lst _) from ⟨by rw [List.length_map]; exact z, acc.toList, c, rv, by rw [Array.toArray_toList]; exact hS⟩), rfl, q _ hf⟩
/-! ### len of a dict that may be locked -/
theorem rd_ok {pins : List (Addr × Obj)} {σ : L2.St} {H : Hp} {s : Shared} (I : Inv X pins σ H s) {a : Addr} {kvs : List (Key × V)} (h : Rd H a (.dK kvs)) : kvs.length ≤ sizeLine ∧ (a == sysModules) = false ∧ ∃ vs, KV kvs vs ∧ Heap.DictOf (mixKind X.prog X.w) s.heap a vs := by
  rcases h with h | ⟨o, h⟩
  · exact dk_of I.hok h
  · obtain ⟨_, h1, h2, vs, h3, h4⟩ := (show ObjOk X.prog X.w H s.heap a (.frz o (.dK kvs)) from I.hok a _ h)
    exact ⟨h1, h2, vs, h3, h4⟩
theorem call_lenR : CallR X (.builtin "len") fun xs H Q => ∃ (a : Addr) (kvs : List (Key × V)), xs = [.ref a] ∧ Rd H a (.dK kvs) ∧ Q (.int (kvs.length : Int)) H := by
  intro pins s σ H vs us Q I r h
  obtain ⟨a, kvs, rfl, ha, q⟩ := h
  obtain ⟨u, rfl, ru⟩ := vals1 r
  obtain rfl : u = Value.ref a := ru
  obtain ⟨z, hd, xs', rel, hdo⟩ := rd_ok I ha
  have hl := rel.length
  have big : sizeLine < 2 ^ 63 := by decide
  refine call_len_dict hd hdo (by omega) ?_
  exact ⟨.int (kvs.length : Int), H, I.kept (fun _ _ e => e), ⟨_, by rw [hl]⟩, q⟩
end
end VL

set_option Elab.async false
set_option linter.all false
set_option maxRecDepth 100000
set_option maxHeartbeats 4000000
namespace VL
open PySem PySem.Spec PyProof.Rows L2
section
variable {X : Cx}
/-- repr of any nested data -/
def rRepV : List V → Hp → VK → Prop := fun xs H Q => ∃ (v : V) (d : PyData), xs = [v] ∧ Dq H v d ∧ PyData.showable d = true ∧ PyData.depth d ≤ 40 ∧ (PyData.shown d).length ≤ sizeLine ∧ Q (.str (PyData.shown d)) H
theorem call_repV (gd : X.A.guards = some []) (hu : X.A.units + 64 < cLine) : CallR X (.builtin "repr") rRepV := by
  intro pins s σ H xs us Q I r h
  obtain ⟨v, d, rfl, hd, hs, dep, hz, q⟩ := h
  have fin : ∀ (t : Tok) (tk : Nat), EP X pins σ Q (.str (PyData.shown d) t) { s with toks := tk } := fun t tk => ⟨.str _, H, I.kept (h' := s.heap) (fun _ _ e => e), ⟨t, rfl⟩, q⟩
  have whole : ∀ a, v = .ref a → wpAny (model X.prog X.w) X.A (call (.builtin "repr") us) (EP X pins σ Q) X.xe s := fun a e => call_repQ gd hu pins s σ H [v] us Q I r ⟨a, d, by rw [e], by rw [← e]; exact hd, hs, dep, hz, q⟩
  cases hd with
  | non =>
    obtain ⟨u, rfl, ru⟩ := vals1 r
    cases (show u = Value.none from ru)
    exact P.repr_of_none (fin _ _)
  | bl b =>
    obtain ⟨u, rfl, ru⟩ := vals1 r
    cases (show u = Value.bool b from ru)
    refine P.repr_of_bool ?_
    cases b
    · exact fin _ _
    · exact fin _ _
  | int i =>
    obtain ⟨u, rfl, ru⟩ := vals1 r
    obtain ⟨t, rfl⟩ := ru
    exact P.repr_of_int (by simpa [PyData.showable] using hs) (fin _ _)
  | str x =>
    obtain ⟨u, rfl, ru⟩ := vals1 r
    obtain ⟨t, rfl⟩ := ru
    exact P.repr_of_str (fin _ _) (by simpa only [PyData.shown] using hz)
  | lst _ _ => exact whole _ rfl
  | tup _ _ => exact whole _ rfl
  | dic _ _ _ => exact whole _ rfl
end
end VL

set_option Elab.async false
set_option linter.all false
set_option maxRecDepth 100000
set_option maxHeartbeats 4000000
namespace VL
open PySem PySem.Spec PyProof.Rows L2
theorem small_str {x : Str} {c : Nat} (h : (reprText x).length ≤ c) : Small c 0 (.str x) := ⟨rfl, Nat.le_refl _, h⟩
theorem small_t {k : Nat} {ds : List PyData} {c : Nat} (h : ∀ d ∈ ds, PyData.showable d = true ∧ PyData.depth d ≤ k) (hl : piled (PyData.shownAll ds) ≤ c) : Small (3 + c) (k + 1) (.tuple ds) := by
  refine ⟨?_, ?_, ?_⟩
  · show PyData.showableAll ds = true
    exact shAll_mem fun d hd => (h d hd).1
  · show PyData.depthAll ds + 1 ≤ k + 1
    have := dpAll_mem fun d hd => (h d hd).2
    omega
  · show (tupleText (PyData.shownAll ds)).length ≤ _
    have h1 := tupText_le (PyData.shownAll ds)
    omega
theorem small_t4 {a b c d : PyData} {x y z u k : Nat} (ha : Small x k a) (hb : Small y k b) (hc : Small z k c) (hd : Small u k d) : Small (11 + x + y + z + u) (k + 1) (.tuple [a, b, c, d]) := by
  have := small_t (ds := [a, b, c, d]) (k := k) (c := x + 2 + (y + 2) + (z + 2) + (u + 2)) (fun d hd => by
    simp only [List.mem_cons, List.not_mem_nil, or_false] at hd
    rcases hd with rfl | rfl | rfl | rfl
    · exact ⟨ha.sh, ha.dp⟩
    · exact ⟨hb.sh, hb.dp⟩
    · exact ⟨hc.sh, hc.dp⟩
    · exact ⟨hd.sh, hd.dp⟩) (by
    have := ha.ln
    have := hb.ln
    have := hc.ln
    have := hd.ln
    simp only [PyData.shownAll, piled, List.map_cons, List.map_nil, List.sum_cons, List.sum_nil]
    omega)
  exact this.mono (by omega) (Nat.le_refl _)

/-! ### values -/
inductive Val where
  | nul
  | bl (b : Bool)
  | num (i : Int)
  | txt (x : Str)
  | lst (vs : List Val)
  | rc (ks : List Str) (vs : List Val)
  | act (o : Int) (n : Str) (vs : List Val)
def zipS : List Str → List PyData → List (PyData × PyData)
  | k :: ks, d :: ds => (.str k, d) :: zipS ks ds
  | _, _ => []
mutual
def enc : Val → PyData
  | .nul => .none
  | .bl b => .bool b
  | .num i => .int i
  | .txt x => .str x
  | .lst vs => .list (encs vs)
  | .rc ks vs => .dict (zipS ks (encs vs))
  | .act o n vs => .tuple [.str "act", .int o, .str n, .list (encs vs)]
def encs : List Val → List PyData
  | [] => []
  | d :: r => enc d :: encs r
end
theorem encs_len : ∀ vs : List Val, (encs vs).length = vs.length
  | [] => by simp [encs]
  | d :: r => by simp [encs, encs_len r]
mutual
/-- how a value stands on the heap -/
def VH (H : Hp) : Val → V → Prop
  | .nul, v => v = .non
  | .bl b, v => v = .bl b
  | .num i, v => v = .int i
  | .txt x, v => v = .str x
  | .lst vs, v => ∃ a xs, v = .ref a ∧ H a = some (.lst xs) ∧ VHs H vs xs
  | .rc ks vs, v => ∃ a kvs, v = .ref a ∧ H a = some (.dK kvs) ∧ kvs.map (·.1) = ks.map Sum.inr ∧ ks.Nodup ∧ VHs H vs (kvs.map (·.2))
  | .act o n vs, v => ∃ a l xs, v = .ref a ∧ H a = some (.tup [.str "act", .int o, .str n, .ref l]) ∧ H l = some (.lst xs) ∧ VHs H vs xs
def VHs (H : Hp) : List Val → List V → Prop
  | [], xs => xs = []
  | d :: ds, xs => ∃ x ys, xs = x :: ys ∧ VH H d x ∧ VHs H ds ys
end
mutual
theorem VH_same {H H' : Hp} (s : Same H H') : ∀ (d : Val) (v : V), VH H d v → VH H' d v
  | .nul, v, h => by simpa only [VH] using h
  | .bl b, v, h => by simpa only [VH] using h
  | .num i, v, h => by simpa only [VH] using h
  | .txt x, v, h => by simpa only [VH] using h
  | .lst vs, v, h => by
    simp only [VH] at h ⊢
    obtain ⟨a, xs, e, h1, h2⟩ := h
    exact ⟨a, xs, e, s _ _ h1, VHs_same s vs xs h2⟩
  | .rc ks vs, v, h => by
    simp only [VH] at h ⊢
    obtain ⟨a, kvs, e, h1, h2, h3, h4⟩ := h
    exact ⟨a, kvs, e, s _ _ h1, h2, h3, VHs_same s vs _ h4⟩
  | .act o n vs, v, h => by
    simp only [VH] at h ⊢
    obtain ⟨a, l, xs, e, h1, h2, h3⟩ := h
    exact ⟨a, l, xs, e, s _ _ h1, s _ _ h2, VHs_same s vs xs h3⟩
theorem VHs_same {H H' : Hp} (s : Same H H') : ∀ (ds : List Val) (xs : List V), VHs H ds xs → VHs H' ds xs
  | [], xs, h => by simpa only [VHs] using h
  | d :: ds, xs, h => by
    simp only [VHs] at h ⊢
    obtain ⟨x, ys, e, h1, h2⟩ := h
    exact ⟨x, ys, e, VH_same s d x h1, VHs_same s ds ys h2⟩
end
theorem VH.same {H H' : Hp} {d : Val} {v : V} (h : VH H d v) (s : Same H H') : VH H' d v := VH_same s d v h
theorem VHs.same {H H' : Hp} {ds : List Val} {xs : List V} (h : VHs H ds xs) (s : Same H H') : VHs H' ds xs := VHs_same s ds xs h
theorem VHs.len {H : Hp} : ∀ {ds : List Val} {xs : List V}, VHs H ds xs → xs.length = ds.length
  | [], xs, h => by
    simp only [VHs] at h
    rw [h]
    rfl
  | d :: ds, xs, h => by
    simp only [VHs] at h
    obtain ⟨x, ys, e, _, h2⟩ := h
    rw [e, List.length_cons, List.length_cons, VHs.len h2]
theorem VHs.nil {H : Hp} : VHs H [] [] := by simp only [VHs]
theorem VHs.cons {H : Hp} {d : Val} {v : V} {ds : List Val} {xs : List V} (h : VH H d v) (hs : VHs H ds xs) : VHs H (d :: ds) (v :: xs) := by
  simp only [VHs]
  exact ⟨v, xs, rfl, h, hs⟩
theorem VHs.app {H : Hp} : ∀ {ds es : List Val} {xs ys : List V}, VHs H ds xs → VHs H es ys → VHs H (ds ++ es) (xs ++ ys)
  | [], es, xs, ys, h, g => by
    simp only [VHs] at h
    rw [h]
    exact g
  | d :: ds, es, xs, ys, h, g => by
    simp only [VHs] at h
    obtain ⟨x, zs, e, h1, h2⟩ := h
    rw [e]
    exact VHs.cons h1 (VHs.app h2 g)
theorem VHs.snoc {H : Hp} {ds : List Val} {xs : List V} {d : Val} {v : V} (h : VHs H ds xs) (g : VH H d v) : VHs H (ds ++ [d]) (xs ++ [v]) := h.app (.cons g .nil)
theorem VHs.get {H : Hp} : ∀ {ds : List Val} {xs : List V} {i : Nat} {x : V}, VHs H ds xs → xs[i]? = some x → ∃ d, ds[i]? = some d ∧ VH H d x
  | [], xs, i, x, h, e => by
    simp only [VHs] at h
    rw [h] at e
    cases e
  | d :: ds, xs, i, x, h, e => by
    simp only [VHs] at h
    obtain ⟨y, ys, e1, h1, h2⟩ := h
    rw [e1] at e
    cases i with
    | zero => exact ⟨d, rfl, by obtain rfl := Option.some.inj e; exact h1⟩
    | succ i =>
      obtain ⟨d', e', h'⟩ := VHs.get h2 (i := i) (x := x) (by simpa using e)
      exact ⟨d', by simpa using e', h'⟩
theorem VHs.get' {H : Hp} {ds : List Val} {xs : List V} {i : Nat} {d : Val} (h : VHs H ds xs) (e : ds[i]? = some d) : ∃ x, xs[i]? = some x ∧ VH H d x := by
  have hi := (List.getElem?_eq_some_iff.mp e).1
  have hx : i < xs.length := by rw [h.len]; exact hi
  obtain ⟨d', e', h'⟩ := h.get (List.getElem?_eq_getElem hx)
  rw [e] at e'
  obtain rfl := Option.some.inj e'
  exact ⟨_, List.getElem?_eq_getElem hx, h'⟩
mutual
theorem VH_dq {H : Hp} : ∀ (d : Val) (v : V), VH H d v → Dq H v (enc d)
  | .nul, v, h => by
    simp only [VH] at h
    rw [h, enc]
    exact .non
  | .bl b, v, h => by
    simp only [VH] at h
    rw [h, enc]
    exact .bl b
  | .num i, v, h => by
    simp only [VH] at h
    rw [h, enc]
    exact .int i
  | .txt x, v, h => by
    simp only [VH] at h
    rw [h, enc]
    exact .str x
  | .lst vs, v, h => by
    simp only [VH] at h
    obtain ⟨a, xs, e, h1, h2⟩ := h
    rw [e, enc]
    exact .lst h1 (VHs_dq vs xs h2)
  | .rc ks vs, v, h => by
    simp only [VH] at h
    obtain ⟨a, kvs, e, h1, h2, h3, h4⟩ := h
    rw [e, enc]
    have nd : (kvs.map (·.1)).Nodup := by
      rw [h2]
      exact List.Pairwise.map _ (fun a b z q => z (Sum.inr.inj q)) h3
    have z : zipK kvs (encs vs) = zipS ks (encs vs) := by
      clear h1 h3 h4 nd
      generalize encs vs = ds
      induction kvs generalizing ks ds with
      | nil =>
        cases ks with
        | nil => cases ds <;> simp [zipK, zipS]
        | cons k ks => simp at h2
      | cons p kvs ih =>
        cases ks with
        | nil => simp at h2
        | cons k ks =>
          simp only [List.map_cons, List.cons.injEq] at h2
          cases ds with
          | nil => simp [zipK, zipS]
          | cons d ds =>
            simp only [zipK, zipS, h2.1, ih ks h2.2 ds]
            rfl
    rw [← z]
    exact .dic h1 nd (VHs_dq vs _ h4)
  | .act o n vs, v, h => by
    simp only [VH] at h
    obtain ⟨a, l, xs, e, h1, h2, h3⟩ := h
    rw [e, enc]
    exact .tup h1 (.cons (.str _) (.cons (.int o) (.cons (.str n) (.cons (.lst h2 (VHs_dq vs xs h3)) .nil))))
theorem VHs_dq {H : Hp} : ∀ (ds : List Val) (xs : List V), VHs H ds xs → DqAll H xs (encs ds)
  | [], xs, h => by
    simp only [VHs] at h
    rw [h, encs]
    exact .nil
  | d :: ds, xs, h => by
    simp only [VHs] at h
    obtain ⟨x, ys, e, h1, h2⟩ := h
    rw [e, encs]
    exact .cons (VH_dq d x h1) (VHs_dq ds ys h2)
end
mutual
def okV : Val → Nat → Prop
  | .nul, _ => True
  | .bl _, _ => True
  | .num i, _ => Small 60 0 (.int i) ∧ -(10 ^ 31) < i ∧ i < 10 ^ 31
  | .txt x, _ => Small 60 0 (.str x) ∧ x.length ≤ 5
  | .lst vs, n => ∃ m, n = m + 1 ∧ vs.length ≤ 4 ∧ okVs vs m
  | .rc ks vs, n => ∃ m, n = m + 1 ∧ vs.length ≤ 4 ∧ ks.length = vs.length ∧ ks.Nodup ∧ (∀ k ∈ ks, Small 60 0 (.str k) ∧ k.length ≤ 5) ∧ okVs vs m
  | .act o x vs, n => ∃ m, n = m + 1 ∧ Small 60 0 (.int o) ∧ (Small 60 0 (.str x) ∧ x.length ≤ 5) ∧ vs.length ≤ 4 ∧ okVs vs m
def okVs : List Val → Nat → Prop
  | [], _ => True
  | d :: ds, n => okV d n ∧ okVs ds n
end
mutual
theorem okV_mono : ∀ (d : Val) {n m : Nat}, n ≤ m → okV d n → okV d m
  | .nul, n, m, l, h => by simp only [okV]
  | .bl b, n, m, l, h => by simp only [okV]
  | .num i, n, m, l, h => by simpa only [okV] using h
  | .txt x, n, m, l, h => by simpa only [okV] using h
  | .lst vs, n, m, l, h => by
    simp only [okV] at h ⊢
    obtain ⟨k, e, h1, h2⟩ := h
    exact ⟨m - 1, by omega, h1, okVs_mono vs (by omega) h2⟩
  | .rc ks vs, n, m, l, h => by
    simp only [okV] at h ⊢
    obtain ⟨k, e, h1, h2, h3, h4, h5⟩ := h
    exact ⟨m - 1, by omega, h1, h2, h3, h4, okVs_mono vs (by omega) h5⟩
  | .act o x vs, n, m, l, h => by
    simp only [okV] at h ⊢
    obtain ⟨k, e, h1, h2, h3, h4⟩ := h
    exact ⟨m - 1, by omega, h1, h2, h3, okVs_mono vs (by omega) h4⟩
theorem okVs_mono : ∀ (ds : List Val) {n m : Nat}, n ≤ m → okVs ds n → okVs ds m
  | [], n, m, l, h => by simp only [okVs]
  | d :: ds, n, m, l, h => by
    simp only [okVs] at h ⊢
    exact ⟨okV_mono d l h.1, okVs_mono ds l h.2⟩
end
theorem okVs_app : ∀ {a b : List Val} {n : Nat}, okVs (a ++ b) n ↔ okVs a n ∧ okVs b n
  | [], b, n => by simp [okVs]
  | d :: a, b, n => by simp [okVs, okVs_app (a := a), and_assoc]
theorem okVs_mem : ∀ {ds : List Val} {n : Nat} {d : Val}, okVs ds n → d ∈ ds → okV d n
  | e :: ds, n, d, h, hm => by
    simp only [okVs] at h
    rcases List.mem_cons.mp hm with rfl | hm
    · exact h.1
    · exact okVs_mem h.2 hm
theorem okVs_get {ds : List Val} {n i : Nat} {d : Val} (h : okVs ds n) (e : ds[i]? = some d) : okV d n := okVs_mem h (List.mem_of_getElem? e)
/-! ### how large a value's text is -/
def szB : Nat → Nat
  | 0 => 60
  | n + 1 => 8 * szB n + 18
theorem szB_ge : ∀ n, 60 ≤ szB n
  | 0 => Nat.le_refl _
  | n + 1 => by
    have := szB_ge n
    simp only [szB]
    omega
theorem s_act : (reprText "act").length ≤ 60 := by decide +kernel
mutual
theorem sm_V : ∀ (d : Val) (n : Nat), okV d n → Small (szB n) (2 * n) (enc d)
  | .nul, n, h => by
    rw [enc]
    exact ⟨rfl, Nat.zero_le _, Nat.le_trans (show (PyData.shown .none).length ≤ 60 by decide +kernel) (szB_ge n)⟩
  | .bl b, n, h => by
    rw [enc]
    refine ⟨rfl, Nat.zero_le _, Nat.le_trans (show (PyData.shown (.bool b)).length ≤ 60 by cases b <;> decide +kernel) (szB_ge n)⟩
  | .num i, n, h => by
    simp only [okV] at h
    rw [enc]
    exact h.1.mono (szB_ge n) (Nat.zero_le _)
  | .txt x, n, h => by
    simp only [okV] at h
    rw [enc]
    exact h.1.mono (szB_ge n) (Nat.zero_le _)
  | .lst vs, n, h => by
    simp only [okV] at h
    obtain ⟨m, rfl, h1, h2⟩ := h
    rw [enc]
    have := szB_ge m
    exact (small_list (sm_Vs vs m h2) (by rw [encs_len]; exact h1)).mono (by simp only [szB]; omega) (by omega)
  | .rc ks vs, n, h => by
    simp only [okV] at h
    obtain ⟨m, rfl, h1, h2, h3, h4, h5⟩ := h
    rw [enc]
    have := szB_ge m
    have zl : (zipS ks (encs vs)).length ≤ 4 ∧ ∀ p ∈ zipS ks (encs vs), (∃ k ∈ ks, p.1 = .str k) ∧ p.2 ∈ encs vs := by
      have e : (encs vs).length ≤ 4 := by rw [encs_len]; exact h1
      revert e
      generalize encs vs = ds
      clear h1 h2 h3 h4 h5
      intro e
      induction ks generalizing ds with
      | nil => cases ds <;> simp [zipS]
      | cons k ks ih =>
        cases ds with
        | nil => simp [zipS]
        | cons d ds =>
          simp only [zipS, List.length_cons]
          have hl : (zipS ks ds).length ≤ ds.length := by
            clear ih e
            induction ks generalizing ds with
            | nil => cases ds <;> simp [zipS]
            | cons k ks ih =>
              cases ds with
              | nil => simp [zipS]
              | cons d ds =>
                have := ih ds
                simp only [zipS, List.length_cons]
                omega
          simp only [List.length_cons] at e
          refine ⟨by omega, fun p hp => ?_⟩
          rcases List.mem_cons.mp hp with rfl | hp
          · exact ⟨⟨k, List.mem_cons_self, rfl⟩, List.mem_cons_self⟩
          · obtain ⟨⟨k', a, b⟩, c⟩ := (ih ds (by omega)).2 p hp
            exact ⟨⟨k', List.mem_cons_of_mem _ a, b⟩, List.mem_cons_of_mem _ c⟩
    refine (small_dict (c := szB m) (k := 2 * m) (fun p hp => ?_) zl.1).mono (by simp only [szB]; omega) (by omega)
    obtain ⟨⟨k, a, b⟩, c⟩ := zl.2 p hp
    rw [b]
    exact ⟨(h4 k a).1.mono this (Nat.zero_le _), sm_Vs vs m h5 _ c⟩
  | .act o x vs, n, h => by
    simp only [okV] at h
    obtain ⟨m, rfl, h1, h2, h3, h4⟩ := h
    rw [enc]
    have := szB_ge m
    have hl := small_list (sm_Vs vs m h4) (n := 4) (by rw [encs_len]; exact h3)
    exact (small_t4 (k := 2 * m + 1) ((small_str s_act).mono (Nat.le_refl _) (by omega)) (h1.mono (Nat.le_refl _) (by omega)) (h2.1.mono (Nat.le_refl _) (by omega)) hl).mono (by simp only [szB]; omega) (by omega)
theorem sm_Vs : ∀ (ds : List Val) (n : Nat), okVs ds n → ∀ p ∈ encs ds, Small (szB n) (2 * n) p
  | [], n, h, p, hp => by simp [encs] at hp
  | d :: ds, n, h, p, hp => by
    simp only [okVs] at h
    simp only [encs] at hp
    rcases List.mem_cons.mp hp with rfl | hp
    · exact sm_V d n h.1
    · exact sm_Vs ds n h.2 p hp
end
end VL

set_option Elab.async false
set_option linter.all false
set_option maxRecDepth 100000
set_option maxHeartbeats 4000000
namespace VL
open PySem PySem.Spec PyProof.Rows L2
/-! ### what same, depth and size tell -/
def lookV : List Str → List Val → Str → Option Val
  | k :: ks, d :: ds, x => if k = x then some d else lookV ks ds x
  | _, _, _ => none
mutual
def sameV : Val → Val → Bool
  | .nul, e => match e with
    | .nul => true
    | _ => false
  | .bl a, e => match e with
    | .bl b => decide (a = b)
    | _ => false
  | .num a, e => match e with
    | .num b => decide (a = b)
    | _ => false
  | .txt a, e => match e with
    | .txt b => decide (a = b)
    | _ => false
  | .lst vs, e => match e with
    | .lst ws => sameL vs ws
    | _ => false
  | .rc ks vs, e => match e with
    | .rc ls ws => decide (ks.length = ls.length) && sameR vs ks ls ws
    | _ => false
  | .act o n vs, e => match e with
    | .act p m ws => decide (o = p) && (decide (n = m) && sameL vs ws)
    | _ => false
def sameL : List Val → List Val → Bool
  | [], ws => ws.isEmpty
  | v :: vs, ws => match ws with
    | [] => false
    | w :: ws => sameV v w && sameL vs ws
def sameR : List Val → List Str → List Str → List Val → Bool
  | [], _, _, _ => true
  | v :: vs, ks, ls, ws => match ks with
    | [] => true
    | k :: ks => (match lookV ls ws k with
      | some w => sameV v w
      | none => false) && sameR vs ks ls ws
end
theorem lookV_some : ∀ {ls : List Str} {ws : List Val} {k : Str} {w : Val}, lookV ls ws k = some w → ∃ i : Nat, ls[i]? = some k ∧ ws[i]? = some w
  | [], ws, k, w, h => by simp [lookV] at h
  | l :: ls, [], k, w, h => by simp [lookV] at h
  | l :: ls, w' :: ws, k, w, h => by
    simp only [lookV] at h
    by_cases e : l = k
    · rw [if_pos e] at h
      exact ⟨0, by rw [e]; rfl, by rw [Option.some.inj h]; rfl⟩
    · rw [if_neg e] at h
      obtain ⟨i, h1, h2⟩ := lookV_some h
      exact ⟨i + 1, by simpa using h1, by simpa using h2⟩
theorem lookV_at : ∀ {ls : List Str} {ws : List Val} {k : Str} {w : Val} {i : Nat}, ls.Nodup → ls[i]? = some k → ws[i]? = some w → lookV ls ws k = some w
  | [], ws, k, w, i, nd, h1, h2 => by simp at h1
  | l :: ls, [], k, w, i, nd, h1, h2 => by simp at h2
  | l :: ls, w' :: ws, k, w, i, nd, h1, h2 => by
    have nd' := List.nodup_cons.mp nd
    simp only [lookV]
    cases i with
    | zero =>
      obtain rfl : l = k := Option.some.inj h1
      obtain rfl : w' = w := Option.some.inj h2
      rw [if_pos rfl]
    | succ i =>
      have h1' : ls[i]? = some k := by simpa using h1
      have h2' : ws[i]? = some w := by simpa using h2
      have ne : ¬ l = k := fun z => nd'.1 (by rw [z]; exact List.mem_of_getElem? h1')
      rw [if_neg ne]
      exact lookV_at nd'.2 h1' h2'
theorem lookV_none {ls : List Str} {ws : List Val} {k : Str} (hl : ls.length = ws.length) (nd : ls.Nodup) : lookV ls ws k = none ↔ k ∉ ls := by
  constructor
  · intro h hm
    obtain ⟨i, hi⟩ := List.getElem?_of_mem hm
    have hi' := (List.getElem?_eq_some_iff.mp hi).1
    rw [lookV_at nd hi (List.getElem?_eq_getElem (by omega : i < ws.length))] at h
    cases h
  · intro h
    cases e : lookV ls ws k with
    | none => rfl
    | some w =>
      obtain ⟨i, h1, _⟩ := lookV_some e
      exact absurd (List.mem_of_getElem? h1) h
theorem sameR_iff {ls : List Str} {ws : List Val} : ∀ {vs : List Val} {ks : List Str}, ks.length = vs.length → (sameR vs ks ls ws = true ↔ ∀ (i : Nat) (k : Str) (v : Val), ks[i]? = some k → vs[i]? = some v → ∃ w, lookV ls ws k = some w ∧ sameV v w = true)
  | [], ks, h => by simp [sameR]
  | v :: vs, [], h => by simp at h
  | v :: vs, k :: ks, h => by
    have ih := sameR_iff (ls := ls) (ws := ws) (vs := vs) (ks := ks) (by simpa using h)
    simp only [sameR, Bool.and_eq_true, ih]
    constructor
    · rintro ⟨h1, h2⟩ i k' v' e1 e2
      cases i with
      | zero =>
        obtain rfl : k = k' := Option.some.inj e1
        obtain rfl : v = v' := Option.some.inj e2
        cases e : lookV ls ws k with
        | none => rw [e] at h1; exact nomatch h1
        | some w => rw [e] at h1; exact ⟨w, rfl, h1⟩
      | succ i => exact h2 i k' v' (by simpa using e1) (by simpa using e2)
    · intro hh
      refine ⟨?_, fun i k' v' e1 e2 => hh (i + 1) k' v' (by simpa using e1) (by simpa using e2)⟩
      obtain ⟨w, e1, e2⟩ := hh 0 k v rfl rfl
      rw [e1]
      exact e2
theorem sub_lenS {l m : List Str} (n : l.Nodup) (h : ∀ x ∈ l, x ∈ m) : l.length ≤ m.length := by
  induction l generalizing m with
  | nil => exact Nat.zero_le _
  | cons a r ih =>
    have n' := List.nodup_cons.mp n
    have ha := h a List.mem_cons_self
    have := ih (m := m.erase a) n'.2 fun x hx => (List.mem_erase_of_ne (fun z => n'.1 (by rw [← z]; exact hx))).mpr (h x (List.mem_cons_of_mem _ hx))
    rw [List.length_erase_of_mem ha] at this
    have := List.length_pos_of_mem ha
    rw [List.length_cons]
    omega
theorem all_back {ks ls : List Str} (n : ks.Nodup) (hl : ks.length = ls.length) (h : ∀ x ∈ ks, x ∈ ls) : ∀ x ∈ ls, x ∈ ks := fun x hx => by
  refine Classical.byContradiction fun hn => ?_
  have := sub_lenS (l := x :: ks) (m := ls) (List.nodup_cons.mpr ⟨hn, n⟩) fun y hy => by
    rcases List.mem_cons.mp hy with rfl | hy
    · exact hx
    · exact h y hy
  rw [List.length_cons] at this
  omega
mutual
theorem sameV_refl : ∀ (d : Val) {n : Nat}, okV d n → sameV d d = true
  | .nul, n, h => by simp [sameV]
  | .bl b, n, h => by simp [sameV]
  | .num i, n, h => by simp [sameV]
  | .txt x, n, h => by simp [sameV]
  | .lst vs, n, h => by
    simp only [okV] at h
    obtain ⟨m, _, _, h2⟩ := h
    simp only [sameV]
    exact sameL_refl vs h2
  | .rc ks vs, n, h => by
    simp only [okV] at h
    obtain ⟨m, _, _, h2, h3, _, h5⟩ := h
    simp only [sameV, decide_true, Bool.true_and]
    exact (sameR_iff h2).mpr fun i k v e1 e2 => ⟨v, lookV_at h3 e1 e2, sameV_reflM vs h5 v (List.mem_of_getElem? e2)⟩
  | .act o x vs, n, h => by
    simp only [okV] at h
    obtain ⟨m, _, _, _, _, h4⟩ := h
    simp only [sameV, decide_true, Bool.true_and]
    exact sameL_refl vs h4
theorem sameL_refl : ∀ (ds : List Val) {n : Nat}, okVs ds n → sameL ds ds = true
  | [], n, h => by simp [sameL]
  | d :: ds, n, h => by
    simp only [okVs] at h
    simp only [sameL, sameV_refl d h.1, sameL_refl ds h.2, Bool.true_and]
theorem sameV_reflM : ∀ (ds : List Val) {n : Nat}, okVs ds n → ∀ d ∈ ds, sameV d d = true
  | [], n, h, d, hd => by simp at hd
  | e :: ds, n, h, d, hd => by
    simp only [okVs] at h
    rcases List.mem_cons.mp hd with he | hd
    · rw [he]; exact sameV_refl e h.1
    · exact sameV_reflM ds h.2 d hd
end
mutual
theorem sameV_symm : ∀ (d e : Val) {n m : Nat}, okV d n → okV e m → sameV d e = true → sameV e d = true
  | .nul, e, n, m, h, g, q => by cases e <;> simp_all [sameV]
  | .bl b, e, n, m, h, g, q => by cases e <;> simp_all [sameV]
  | .num i, e, n, m, h, g, q => by cases e <;> simp_all [sameV]
  | .txt x, e, n, m, h, g, q => by cases e <;> simp_all [sameV]
  | .lst vs, e, n, m, h, g, q => by
    cases e with
    | lst ws =>
      simp only [sameV] at q ⊢
      simp only [okV] at h g
      obtain ⟨_, _, _, h2⟩ := h
      obtain ⟨_, _, _, g2⟩ := g
      exact sameL_symm vs ws h2 g2 q
    | _ => simp [sameV] at q
  | .rc ks vs, e, n, m, h, g, q => by
    cases e with
    | rc ls ws =>
      simp only [sameV, Bool.and_eq_true, decide_eq_true_eq] at q ⊢
      simp only [okV] at h g
      obtain ⟨_, _, _, h2, h3, _, h5⟩ := h
      obtain ⟨_, _, _, g2, g3, _, g5⟩ := g
      refine ⟨q.1.symm, ?_⟩
      have hq := (sameR_iff h2).mp q.2
      have sub : ∀ x ∈ ks, x ∈ ls := fun x hx => by
        obtain ⟨i, hi⟩ := List.getElem?_of_mem hx
        have hi' := (List.getElem?_eq_some_iff.mp hi).1
        obtain ⟨w, e1, _⟩ := hq i x _ hi (List.getElem?_eq_getElem (by omega : i < vs.length))
        obtain ⟨j, e2, _⟩ := lookV_some e1
        exact List.mem_of_getElem? e2
      have back := all_back h3 q.1 sub
      refine (sameR_iff g2).mpr fun j l w e1 e2 => ?_
      obtain ⟨i, hi⟩ := List.getElem?_of_mem (back l (List.mem_of_getElem? e1))
      have hi' := (List.getElem?_eq_some_iff.mp hi).1
      have hv : vs[i]? = some vs[i] := List.getElem?_eq_getElem (by omega : i < vs.length)
      refine ⟨vs[i], lookV_at h3 hi hv, ?_⟩
      obtain ⟨w', f1, f2⟩ := hq i l _ hi hv
      rw [lookV_at g3 e1 e2] at f1
      obtain rfl := Option.some.inj f1
      exact sameV_symmM vs h5 _ (List.mem_of_getElem? hv) _ (okVs_get g5 e2) f2
    | _ => simp [sameV] at q
  | .act o x vs, e, n, m, h, g, q => by
    cases e with
    | act p y ws =>
      simp only [sameV, Bool.and_eq_true, decide_eq_true_eq] at q ⊢
      simp only [okV] at h g
      obtain ⟨_, _, _, _, _, h4⟩ := h
      obtain ⟨_, _, _, _, _, g4⟩ := g
      exact ⟨q.1.symm, q.2.1.symm, sameL_symm vs ws h4 g4 q.2.2⟩
    | _ => simp [sameV] at q
theorem sameL_symm : ∀ (ds es : List Val) {n m : Nat}, okVs ds n → okVs es m → sameL ds es = true → sameL es ds = true
  | [], es, n, m, h, g, q => by
    cases es with
    | nil => simp [sameL]
    | cons e es => simp [sameL] at q
  | d :: ds, es, n, m, h, g, q => by
    cases es with
    | nil => simp [sameL] at q
    | cons e es =>
      simp only [sameL, Bool.and_eq_true] at q ⊢
      simp only [okVs] at h g
      exact ⟨sameV_symm d e h.1 g.1 q.1, sameL_symm ds es h.2 g.2 q.2⟩
theorem sameV_symmM : ∀ (ds : List Val) {n : Nat}, okVs ds n → ∀ d ∈ ds, ∀ (e : Val) {m : Nat}, okV e m → sameV d e = true → sameV e d = true
  | [], n, h, d, hd, e, m, g, q => by simp at hd
  | c :: ds, n, h, d, hd, e, m, g, q => by
    simp only [okVs] at h
    rcases List.mem_cons.mp hd with he | hd
    · rw [he] at q ⊢; exact sameV_symm c e h.1 g q
    · exact sameV_symmM ds h.2 d hd e g q
end
theorem sameV_comm {d e : Val} {n m : Nat} (h : okV d n) (g : okV e m) : sameV e d = sameV d e := by
  rw [Bool.eq_iff_iff]
  exact ⟨sameV_symm e d g h, sameV_symm d e h g⟩
def partsV : Val → List Val
  | .lst vs => vs
  | .rc _ vs => vs
  | .act _ _ vs => vs
  | _ => []
def wholeV : Val → Bool
  | .lst _ => true
  | .rc _ _ => true
  | .act _ _ _ => true
  | _ => false
def ownS : Val → Nat
  | .txt x => x.length + 1
  | .rc ks _ => (ks.map (·.length)).sum + 1
  | .act _ n _ => n.length + 1
  | _ => 1
mutual
def depthV : Val → Nat
  | .lst vs => 1 + depthL vs
  | .rc _ vs => 1 + depthL vs
  | .act _ _ vs => 1 + depthL vs
  | _ => 1
def depthL : List Val → Nat
  | [] => 0
  | d :: ds => max (depthV d) (depthL ds)
end
mutual
def sizeV : Val → Nat
  | .lst vs => ownS (.lst vs) + sizeL vs
  | .rc ks vs => ownS (.rc ks vs) + sizeL vs
  | .act o n vs => ownS (.act o n vs) + sizeL vs
  | d => ownS d
def sizeL : List Val → Nat
  | [] => 0
  | d :: ds => sizeV d + sizeL ds
end
theorem depthV_eq (d : Val) : depthV d = 1 + depthL (partsV d) := by cases d <;> simp [depthV, partsV, depthL]
theorem sizeV_eq (d : Val) : sizeV d = ownS d + sizeL (partsV d) := by cases d <;> simp [sizeV, partsV, sizeL]
theorem depthL_app : ∀ a b : List Val, depthL (a ++ b) = max (depthL a) (depthL b)
  | [], b => by simp [depthL]
  | d :: a, b => by
    simp only [List.cons_append, depthL, depthL_app a b]
    omega
theorem sizeL_app : ∀ a b : List Val, sizeL (a ++ b) = sizeL a + sizeL b
  | [], b => by simp [sizeL]
  | d :: a, b => by
    simp only [List.cons_append, sizeL, sizeL_app a b]
    omega
def nxt (ds : List Val) : List Val := (ds.filter wholeV).flatMap partsV
def ownL (ds : List Val) : Nat := (ds.map ownS).sum
theorem nxt_cons (d : Val) (ds : List Val) : nxt (d :: ds) = partsV d ++ nxt ds := by
  unfold nxt
  cases d <;> simp [wholeV, partsV, List.filter]
theorem depth_nxt : ∀ (ds : List Val), ds ≠ [] → depthL ds = 1 + depthL (nxt ds)
  | [], h => absurd rfl h
  | [d], _ => by
    rw [nxt_cons, depthL_app]
    simp only [depthL, nxt, List.filter_nil, List.flatMap_nil, depthV_eq d]
    omega
  | d :: e :: ds, _ => by
    have ih := depth_nxt (e :: ds) (fun z => nomatch z)
    rw [nxt_cons, depthL_app]
    simp only [depthL] at ih ⊢
    have := depthV_eq d
    omega
theorem size_nxt : ∀ ds : List Val, sizeL ds = ownL ds + sizeL (nxt ds)
  | [] => by simp [sizeL, ownL, nxt]
  | d :: ds => by
    have ih := size_nxt ds
    have := sizeV_eq d
    have e : ownL (d :: ds) = ownS d + ownL ds := by simp [ownL]
    rw [nxt_cons, sizeL_app, e]
    simp only [sizeL]
    omega
theorem okV_parts {d : Val} {n : Nat} (h : okV d (n + 1)) : okVs (partsV d) n ∧ (partsV d).length ≤ 4 := by
  cases d with
  | lst vs =>
    simp only [okV] at h
    obtain ⟨m, e, h1, h2⟩ := h
    obtain rfl : n = m := by omega
    exact ⟨h2, h1⟩
  | rc ks vs =>
    simp only [okV] at h
    obtain ⟨m, e, h1, _, _, _, h2⟩ := h
    obtain rfl : n = m := by omega
    exact ⟨h2, h1⟩
  | act o x vs =>
    simp only [okV] at h
    obtain ⟨m, e, _, _, h1, h2⟩ := h
    obtain rfl : n = m := by omega
    exact ⟨h2, h1⟩
  | _ => exact ⟨by simp [partsV, okVs], by simp [partsV]⟩
theorem okV_parts0 {d : Val} (h : okV d 0) : wholeV d = false := by
  cases d with
  | lst vs =>
    simp only [okV] at h
    obtain ⟨m, e, _⟩ := h
    omega
  | rc ks vs =>
    simp only [okV] at h
    obtain ⟨m, e, _⟩ := h
    omega
  | act o x vs =>
    simp only [okV] at h
    obtain ⟨m, e, _⟩ := h
    omega
  | _ => rfl
theorem okV_partsM {d : Val} {n : Nat} (h : okV d n) : okVs (partsV d) (n - 1) ∧ (partsV d).length ≤ 4 := by
  cases n with
  | zero =>
    have := okV_parts0 h
    cases d <;> first | (simp [wholeV] at this; done) | exact ⟨by simp [partsV, okVs], by simp [partsV]⟩
  | succ n => exact okV_parts h
theorem nxt_ok {n : Nat} : ∀ {ds : List Val}, okVs ds n → okVs (nxt ds) (n - 1) ∧ (nxt ds).length ≤ 4 * ds.length
  | [], h => by simp [nxt, okVs]
  | d :: ds, h => by
    simp only [okVs] at h
    obtain ⟨i1, i2⟩ := nxt_ok h.2
    obtain ⟨j1, j2⟩ := okV_partsM h.1
    rw [nxt_cons]
    exact ⟨okVs_app.mpr ⟨j1, i1⟩, by rw [List.length_append, List.length_cons]; omega⟩
theorem nxt_0 : ∀ {ds : List Val}, okVs ds 0 → nxt ds = []
  | [], h => by simp [nxt]
  | d :: ds, h => by
    simp only [okVs] at h
    rw [nxt_cons, nxt_0 h.2]
    have := okV_parts0 h.1
    cases d <;> first | (simp [wholeV] at this; done) | rfl
end VL

set_option Elab.async false
set_option linter.all false
set_option maxRecDepth 100000
set_option maxHeartbeats 4000000
namespace VL
open PySem PySem.Spec PyProof.Rows L2

def top (i : Nat) : Stmt := PySem.Challenge.pw_viewloom_k13_values_that_are_the_same.main.body.getD i (.Pass ⟨0, 0, 0, 0⟩)
abbrev s_is_number : Stmt := top 1
abbrev s_is_text : Stmt := top 2
abbrev s_members_of : Stmt := top 3
abbrev s_members_of_all : Stmt := top 4
abbrev s_wholes_in : Stmt := top 5
abbrev s_same : Stmt := top 6
abbrev s_same_lists : Stmt := top 7
abbrev s_same_records : Stmt := top 8
abbrev s_size : Stmt := top 9
abbrev s_size_of_all : Stmt := top 10
abbrev s_depth : Stmt := top 11
abbrev s_text_of : Stmt := top 12
abbrev s_copied : Stmt := top 13
abbrev s_copy_of : Stmt := top 14
abbrev s__law_cell : Stmt := top 16
abbrev s__law_start : Stmt := top 17
abbrev s__law_digit : Stmt := top 18
abbrev s__law_text : Stmt := top 19
abbrev s__law_number : Stmt := top 20
abbrev s__law_value : Stmt := top 21
abbrev s__law_kind : Stmt := top 22
abbrev s__law_same : Stmt := top 23
abbrev s__law_parts : Stmt := top 24
abbrev s__law_depth : Stmt := top 25
abbrev s__law_size : Stmt := top 26
abbrev s__law_text_of : Stmt := top 27
abbrev s__law_apart : Stmt := top 28
abbrev s__law_told_right : Stmt := top 29
abbrev s__law_other : Stmt := top 30
abbrev s_law : Stmt := top 31
structure Ad where
  u0 : Unit
structure Txt (K : PySem.W.Frag) (w : World) (mg : Str → Option Value) (C : Ad) : Prop where
  z_abs : mg "abs" = none
  z_bool : mg "bool" = none
  z_dict : mg "dict" = none
  z_int : mg "int" = none
  z_isinstance : mg "isinstance" = none
  z_len : mg "len" = none
  z_list : mg "list" = none
  z_max : mg "max" = none
  z_min : mg "min" = none
  z_range : mg "range" = none
  z_repr : mg "repr" = none
  z_sorted : mg "sorted" = none
  z_str : mg "str" = none
  z_sum : mg "sum" = none
  z_tuple : mg "tuple" = none
  z_zip : mg "zip" = none
  d_is_number : DefE K mg "is_number" s_is_number ["value"]
  d_is_text : DefE K mg "is_text" s_is_text ["value"]
  d_members_of : DefE K mg "members_of" s_members_of ["whole"]
  d_members_of_all : DefE K mg "members_of_all" s_members_of_all ["wholes"]
  d_wholes_in : DefE K mg "wholes_in" s_wholes_in ["values"]
  d_same : DefE K mg "same" s_same ["a", "b"]
  d_same_lists : DefE K mg "same_lists" s_same_lists ["a", "b"]
  d_same_records : DefE K mg "same_records" s_same_records ["a", "b"]
  d_size : DefE K mg "size" s_size ["value"]
  d_size_of_all : DefE K mg "size_of_all" s_size_of_all ["values"]
  d_depth : DefE K mg "depth" s_depth ["value"]
  d_text_of : DefE K mg "text_of" s_text_of ["value"]
  d_copied : DefE K mg "copied" s_copied ["value"]
  d_copy_of : DefE K mg "copy_of" s_copy_of ["value"]
  d__law_cell : DefE K mg "_law_cell" s__law_cell ["script", "k"]
  d__law_start : DefE K mg "_law_start" s__law_start ["cell", "k"]
  d__law_digit : DefE K mg "_law_digit" s__law_digit ["state", "many"]
  d__law_text : DefE K mg "_law_text" s__law_text ["state"]
  d__law_number : DefE K mg "_law_number" s__law_number ["state"]
  d__law_value : DefE K mg "_law_value" s__law_value ["state", "levels"]
  d__law_kind : DefE K mg "_law_kind" s__law_kind ["value"]
  d__law_same : DefE K mg "_law_same" s__law_same ["first", "second"]
  d__law_parts : DefE K mg "_law_parts" s__law_parts ["value"]
  d__law_depth : DefE K mg "_law_depth" s__law_depth ["value"]
  d__law_size : DefE K mg "_law_size" s__law_size ["value"]
  d__law_text_of : DefE K mg "_law_text_of" s__law_text_of ["value"]
  d__law_apart : DefE K mg "_law_apart" s__law_apart ["value"]
  d__law_told_right : DefE K mg "_law_told_right" s__law_told_right ["value"]
  d__law_other : DefE K mg "_law_other" s__law_other ["value", "state"]
end VL

set_option Elab.async false
set_option linter.all false
set_option pp.maxSteps 500
set_option maxRecDepth 100000
set_option maxHeartbeats 4000000
namespace VL
open PySem PySem.Spec PyProof.Rows L2
def spFalse : Sp := fun _ _ _ _ => False
theorem Sm.new {t : Addr} {o : HO} {H : Hp} (h : H t = none) : Same H (upd H t o) := fun b u e => by rw [upd_ne (ne_of_none e h)]; exact e
theorem at_0 {x : V} {ys : List V} : atI (x :: ys) 0 = some x := by
  unfold atI ixN
  rw [if_pos (by decide), if_pos (by rw [List.length_cons]; omega)]
  rfl
theorem at_1 {x y : V} {ys : List V} : atI (x :: y :: ys) 1 = some y := by
  unfold atI ixN
  rw [if_pos (by decide), if_pos (by rw [List.length_cons, List.length_cons]; omega)]
  rfl
theorem at_2 {x y z : V} {ys : List V} : atI (x :: y :: z :: ys) 2 = some z := by
  unfold atI ixN
  rw [if_pos (by decide), if_pos (by rw [List.length_cons, List.length_cons, List.length_cons]; omega)]
  rfl
theorem at_3 {x y z u : V} {ys : List V} : atI (x :: y :: z :: u :: ys) 3 = some u := by
  unfold atI ixN
  rw [if_pos (by decide), if_pos (by rw [List.length_cons, List.length_cons, List.length_cons, List.length_cons]; omega)]
  rfl
theorem iteT' {b : Bool} {A B : Prop} (h : b = true) (a : A) : if b = true then A else B := by rw [if_pos h]; exact a
theorem iteF' {b : Bool} {A B : Prop} (h : b = false) (a : B) : if b = true then A else B := by rw [if_neg (by rw [h]; decide)]; exact a
def tyN : Val → String
  | .nul => "NoneType"
  | .bl _ => "bool"
  | .num _ => "int"
  | .txt _ => "str"
  | .lst _ => "list"
  | .rc _ _ => "dict"
  | .act _ _ _ => "tuple"
theorem ty_V {K : PySem.W.Frag} {H : Hp} {d : Val} {v : V} (h : VH H d v) : TyX K H v (.type (tyN d)) := by
  cases d with
  | nul => simp only [VH] at h; rw [h]; exact .base .non
  | bl b => simp only [VH] at h; rw [h]; exact .base (.bl b)
  | num i => simp only [VH] at h; rw [h]; exact .base (.int i)
  | txt x => simp only [VH] at h; rw [h]; exact .base (.str x)
  | lst vs => simp only [VH] at h; obtain ⟨a, xs, e, h1, _⟩ := h; rw [e]; exact .base (.lst h1)
  | rc ks vs => simp only [VH] at h; obtain ⟨a, xs, e, h1, _⟩ := h; rw [e]; exact .base (.dK h1)
  | act o n vs => simp only [VH] at h; obtain ⟨a, l, xs, e, h1, _⟩ := h; rw [e]; exact .base (.tup h1)
def isI : Val → Bool
  | .bl _ => true
  | .num _ => true
  | _ => false
def isB : Val → Bool
  | .bl _ => true
  | _ => false
def isS : Val → Bool
  | .txt _ => true
  | _ => false
def isL : Val → Bool
  | .lst _ => true
  | _ => false
def isD : Val → Bool
  | .rc _ _ => true
  | _ => false
def isA : Val → Bool
  | .act _ _ _ => true
  | _ => false
def isN : Val → Bool
  | .nul => true
  | _ => false
theorem kI (d : Val) : kitB (tyN d) "int" = some (isI d) := by cases d <;> (simp only [tyN, isI]; decide +kernel)
theorem kB (d : Val) : kitB (tyN d) "bool" = some (isB d) := by cases d <;> (simp only [tyN, isB]; decide +kernel)
theorem kS (d : Val) : kitB (tyN d) "str" = some (isS d) := by cases d <;> (simp only [tyN, isS]; decide +kernel)
theorem kL (d : Val) : kitB (tyN d) "list" = some (isL d) := by cases d <;> (simp only [tyN, isL]; decide +kernel)
theorem kD (d : Val) : kitB (tyN d) "dict" = some (isD d) := by cases d <;> (simp only [tyN, isD]; decide +kernel)
theorem kA (d : Val) : kitB (tyN d) "tuple" = some (isA d) := by cases d <;> (simp only [tyN, isA]; decide +kernel)
theorem is_non {H : Hp} {d : Val} {v : V} (h : VH H d v) : decide (v = .non) = isN d := by
  cases d with
  | nul => simp only [VH] at h; rw [h]; rfl
  | bl b => simp only [VH] at h; rw [h]; rfl
  | num i => simp only [VH] at h; rw [h]; rfl
  | txt x => simp only [VH] at h; rw [h]; rfl
  | lst vs => simp only [VH] at h; obtain ⟨a, xs, e, h1, _⟩ := h; rw [e]; rfl
  | rc ks vs => simp only [VH] at h; obtain ⟨a, xs, e, h1, _⟩ := h; rw [e]; rfl
  | act o n vs => simp only [VH] at h; obtain ⟨a, l, xs, e, h1, _⟩ := h; rw [e]; rfl
def spNum : Sp := fun vs H Q _ => ∃ (v : V) (d : Val), vs = [v] ∧ VH H d v ∧ Q (.bl (isI d && !isB d)) H
def spTextQ : Sp := fun vs H Q _ => ∃ (v : V) (d : Val), vs = [v] ∧ VH H d v ∧ Q (.bl (isS d)) H
def spMem : Sp := fun vs H Q _ => ∃ (v : V) (d : Val) (G : Hp) (M : List (Addr × HO)), vs = [v] ∧ Sb G H M ∧ VH G d v ∧ wholeV d = true ∧ ∀ r xs G' H', Sb G' H' M → Same G G' → G' r = some (.lst xs) → VHs G' (partsV d) xs → Q (.ref r) H'
def spWhs : Sp := fun vs H Q _ => ∃ (a : Addr) (xs : List V) (ds : List Val) (G : Hp) (M : List (Addr × HO)), vs = [.ref a] ∧ Sb G H M ∧ G a = some (.lst xs) ∧ VHs G ds xs ∧ ds.length ≤ 100000 ∧ ∀ r ys G' H', Sb G' H' M → Same G G' → G' r = some (.lst ys) → VHs G' (ds.filter wholeV) ys → Q (.ref r) H'
def spMall : Sp := fun vs H Q _ => ∃ (a : Addr) (xs : List V) (ds : List Val) (G : Hp) (M : List (Addr × HO)), vs = [.ref a] ∧ Sb G H M ∧ G a = some (.lst xs) ∧ VHs G ds xs ∧ (∀ d ∈ ds, wholeV d = true ∧ (partsV d).length ≤ 4) ∧ ds.length ≤ 100000 ∧ ∀ r ys G' H', Sb G' H' M → Same G G' → G' r = some (.lst ys) → VHs G' (ds.flatMap partsV) ys → Q (.ref r) H'
section
variable {P : Program} {w : World} {K : PySem.W.Frag} {mg : Str → Option Value} {base : Heap} {C : Ad}
theorem sc_is_number : FnScope ["value"] ["value"] (defScope s_is_number) := ⟨rfl, rfl, rfl, by decide +kernel, rfl, by decide +kernel, by decide +kernel⟩
theorem ok_isNum (T : Txt K w mg C) : Cal P w K mg base 1 "is_number" spNum := by
  refine cal_of T.d_is_number sc_is_number (fun vs H Q E h => ?_) (fun f cdv A outer s H vs Q E hr h => ?_)
  · obtain ⟨v, d, rfl, _⟩ := h
    rfl
  · obtain ⟨v, d, rfl, hv, q⟩ := h
    have ty := ty_V (K := K) hv
    refine ⟨_, (pss_one (ps_ret (pe_and (pe_callB call_isi (by rfl) T.z_isinstance (by decide +kernel) (pa_cons (pv 0) (pa_cons (pe_bltn (v := .ty "int") (by rfl) T.z_int (by decide +kernel) rfl) pa_nil))) (pe_one (pe_not (pe_callB call_isi (by rfl) T.z_isinstance (by decide +kernel) (pa_cons (pv 0) (pa_cons (pe_bltn (v := .ty "bool") (by rfl) T.z_bool (by decide +kernel) rfl) pa_nil)))))))), ?_⟩
    refine ⟨_, rfl, v, .ty "int", _, _, isI d, rfl, .ty _, ty, kit_ty (kI d), isI d, rfl, ?_⟩
    cases e : isI d with
    | true => 
      rw [e] at q
      exact iteT' rfl ⟨_, rfl, v, .ty "bool", _, _, isB d, rfl, .ty _, ty, kit_ty (kB d), isB d, rfl, q⟩
    | false =>
      rw [e] at q
      exact iteF' rfl q
theorem sc_is_text : FnScope ["value"] ["value"] (defScope s_is_text) := ⟨rfl, rfl, rfl, by decide +kernel, rfl, by decide +kernel, by decide +kernel⟩
theorem ok_isText (T : Txt K w mg C) : Cal P w K mg base 1 "is_text" spTextQ := by
  refine cal_of T.d_is_text sc_is_text (fun vs H Q E h => ?_) (fun f cdv A outer s H vs Q E hr h => ?_)
  · obtain ⟨v, d, rfl, _⟩ := h
    rfl
  · obtain ⟨v, d, rfl, hv, q⟩ := h
    have ty := ty_V (K := K) hv
    refine ⟨_, (pss_one (ps_ret (pe_callB call_isi (by rfl) T.z_isinstance (by decide +kernel) (pa_cons (pv 0) (pa_cons (pe_bltn (v := .ty "str") (by rfl) T.z_str (by decide +kernel) rfl) pa_nil))))), ?_⟩
    exact ⟨_, rfl, v, .ty "str", _, _, isS d, rfl, .ty _, ty, kit_ty (kS d), q⟩
theorem sc_members_of : FnScope ["whole"] ["whole"] (defScope s_members_of) := ⟨rfl, rfl, rfl, by decide +kernel, rfl, by decide +kernel, by decide +kernel⟩
theorem ok_mem (T : Txt K w mg C) : Cal P w K mg base 1 "members_of" spMem := by
  refine cal_of T.d_members_of sc_members_of (fun vs H Q E h => ?_) (fun f cdv A outer s H vs Q E hr h => ?_)
  · obtain ⟨v, d, G, M, rfl, _⟩ := h
    rfl
  · obtain ⟨v, d, G, M, rfl, S, hv, hw, q⟩ := h
    have ty := ty_V (K := K) (hv.same S.s)
    refine ⟨_, (pss_cons (ps_if (pt_val (pe_callB call_isi (by rfl) T.z_isinstance (by decide +kernel) (pa_cons (pv 0) (pa_cons (pe_bltn (v := .ty "list") (by rfl) T.z_list (by decide +kernel) rfl) pa_nil)))) (pss_one (ps_ret (pv 0))) pss_nil) (pss_cons (ps_if (pt_val (pe_callB call_isi (by rfl) T.z_isinstance (by decide +kernel) (pa_cons (pv 0) (pa_cons (pe_bltn (v := .ty "dict") (by rfl) T.z_dict (by decide +kernel) rfl) pa_nil)))) (pss_one (ps_ret (pe_callTy (call_listV rfl) (by rfl) T.z_list (by decide +kernel) (pa_cons (pe_bm0 PySem.F.plainAttrs_dict PySem.F.slot_dict_values PySem.F.type_dict_values mt_valuesK (pv 0)) pa_nil)))) pss_nil) (pss_one (ps_ret (pe_ix ix_tup (pv 0) pe_int (fun _ _ => rfl)))))), ?_⟩
    refine ⟨_, rfl, v, .ty "list", _, _, isL d, rfl, .ty _, ty, kit_ty (kL d), isL d, rfl, ?_⟩
    cases d with
    | lst vs =>
      refine iteT' rfl ?_
      simp only [VH] at hv
      obtain ⟨a, xs, rfl, h1, h2⟩ := hv
      exact ⟨_, rfl, q a xs G H S (Same.refl _) h1 h2⟩
    | rc ks vs =>
      refine iteF' rfl ⟨_, rfl, v, .ty "dict", _, _, _, rfl, .ty _, ty, kit_ty (kD _), _, rfl, iteT' rfl ?_⟩
      simp only [VH] at hv
      obtain ⟨a, kvs, rfl, h1, h2, h3, h4⟩ := hv
      refine ⟨_, rfl, .inr (.inr (.inl ⟨rfl, .inl ⟨_, S.s _ _ h1⟩⟩)), a, kvs, rfl, rfl, S.s _ _ h1, fun p hp => ?_⟩
      have S1 := S.alloc (o := valuesO p a) hp
      have g1 := S.grow (o := valuesO p a) hp
      refine ⟨p, a, kvs, rfl, upd_same, S1.s _ _ (g1 _ _ h1), fun l hl => ?_⟩
      have S2 := S1.alloc (o := .lst (kvs.map (·.2))) hl
      have g2 := S1.grow (o := .lst (kvs.map (·.2))) hl
      exact q l _ _ _ S2 (Same.trans g1 g2) upd_same (h4.same (Same.trans g1 g2))
    | act o n vs =>
      refine iteF' rfl ⟨_, rfl, v, .ty "dict", _, _, _, rfl, .ty _, ty, kit_ty (kD _), _, rfl, iteF' rfl ?_⟩
      simp only [VH] at hv
      obtain ⟨a, l, xs, rfl, h1, h2, h3⟩ := hv
      exact ⟨_, rfl, a, _, _, _, rfl, rfl, SqT.of (S.s _ _ h1), at_3, q l xs G H S (Same.refl _) h2 h3⟩
    | _ => exact nomatch hw
theorem sc_wholes_in : FnScope ["values", "part"] ["values"] (defScope s_wholes_in) := ⟨rfl, rfl, rfl, by decide +kernel, rfl, by decide +kernel, by decide +kernel⟩
theorem ok_whs (T : Txt K w mg C) : Cal P w K mg base 1 "wholes_in" spWhs := by
  refine cal_of T.d_wholes_in sc_wholes_in (fun vs H Q E h => ?_) (fun f cdv A outer s H vs Q E hr h => ?_)
  · obtain ⟨a, xs, ds, G, M, rfl, _⟩ := h
    rfl
  · obtain ⟨a, xs, ds, G, M, rfl, S, ha, hv, hl, q⟩ := h
    have big : 100000 < sizeLine := by decide
    have xl := hv.len
    refine ⟨_, (pss_one (ps_ret (pe_lc (own := [("part", 1)]) (g := gName 1) (tt := _) rfl sc_wholes_in.nd (pi_list (pv 0)) (blkOk_by (N := ["values", "part"]) (sc := (defScope s_wholes_in)) (by decide +kernel)) (fun _ _ _ _ _ => pg_name (i := 1) sc_wholes_in.nd rfl (Or.inl rfl)) (fun _ _ _ _ _ => pts_one (PW.pt (pw_and (pt_not (pt_val (pe_callB (call_isiS (K := K) rfl) (by rfl) T.z_isinstance (by decide +kernel) (pa_cons (pv 1) (pa_cons (pe_bltn (v := .ty "int") (by rfl) T.z_int (by decide +kernel) rfl) pa_nil))))) (pw_and (pt_not (pt_val (pe_callB (call_isiS (K := K) rfl) (by rfl) T.z_isinstance (by decide +kernel) (pa_cons (pv 1) (pa_cons (pe_bltn (v := .ty "str") (by rfl) T.z_str (by decide +kernel) rfl) pa_nil))))) (pw_and1 (pt_cmp (pc_notN (pv 1)))))))) (fun _ _ _ _ _ => (pv 1))))), ?_⟩
    refine ⟨_, rfl, a, rfl, ⟨_, SqL.of (S.s _ _ ha)⟩, fun D hD => ?_⟩
    have S0 := S.add (o := .lst []) hD
    refine lc_it (walk_list (K := K) (a := a) (xs := xs)) (fun i H' => ∃ ys : List V, Sb G H' ((D, .lst ys) :: M) ∧ VHs G ((ds.take i).filter wholeV) ys) ⟨[], S0, .nil⟩ (fun i H' _ z => by obtain ⟨ys, S', _⟩ := z; exact SqL.of (S'.s _ _ ha)) ?_ ?_
    · rintro i x H1 H2 hi ⟨ys, S1, py⟩ ⟨rfl, hx⟩
      obtain ⟨d, hd, hvx⟩ := hv.get hx
      have tk : ds.take (i + 1) = ds.take i ++ [d] := by rw [List.take_add_one, hd]; rfl
      have ty := ty_V (K := K) (hvx.same S1.s)
      have yl : ys.length ≤ ds.length := by
        rw [py.len]
        exact Nat.le_trans (List.length_filter_le _ _) (by rw [List.length_take]; omega)
      refine ⟨rfl, ?_⟩
      refine ⟨_, rfl, x, .ty "int", _, _, isI d, rfl, .ty _, ty, kit_ty (kI d), isI d, rfl, ?_⟩
      have skip : wholeV d = false → ∃ ys, Sb G H2 ((D, .lst ys) :: M) ∧ VHs G ((ds.take (i + 1)).filter wholeV) ys := fun hw => ⟨ys, S1, by
        have e : [d].filter wholeV = [] := by simp [List.filter, hw]
        rw [tk, List.filter_append, e, List.append_nil]
        exact py⟩
      cases e1 : isI d with
      | true => exact iteF' rfl (iteF' rfl (skip (by cases d <;> first | rfl | exact nomatch e1)))
      | false =>
        refine iteT' rfl ?_
        refine ⟨_, rfl, x, .ty "str", _, _, isS d, rfl, .ty _, ty, kit_ty (kS d), isS d, rfl, ?_⟩
        cases e2 : isS d with
        | true => exact iteF' rfl (iteF' rfl (skip (by cases d <;> first | rfl | exact nomatch e2)))
        | false =>
          refine iteT' rfl ?_
          have nn := is_non hvx
          refine ⟨_, rfl, !isN d, by rw [nn], ?_⟩
          cases e3 : isN d with
          | true => exact iteF' rfl (skip (by cases d <;> first | rfl | exact nomatch e3))
          | false =>
            have hw : wholeV d = true := by cases d <;> first | rfl | (simp [isI] at e1; done) | (simp [isS] at e2; done) | (simp [isN] at e3; done)
            refine iteT' rfl ⟨_, rfl, ys, S1.hd, by omega, ys ++ [x], S1.put, ?_⟩
            have e : [d].filter wholeV = [d] := by simp [List.filter, hw]
            rw [tk, List.filter_append, e]
            exact py.snoc hvx
    · rintro H1 ⟨ys, S1, py⟩
      rw [xl, List.take_length] at py
      obtain ⟨S2, g2⟩ := S1.drop
      exact q D ys _ H1 S2 g2 upd_same (py.same g2)
end
end VL

set_option Elab.async false
set_option linter.all false
set_option pp.maxSteps 500
set_option maxRecDepth 100000
set_option maxHeartbeats 4000000
namespace VL
open PySem PySem.Spec PyProof.Rows L2
def RowV (G : Hp) (v : V) (d : Val) : Prop := ∃ r xs, v = .ref r ∧ G r = some (.lst xs) ∧ VHs G (partsV d) xs
theorem RowV.same {G G' : Hp} {v : V} {d : Val} (h : RowV G v d) (s : Same G G') : RowV G' v d := by
  obtain ⟨r, xs, e, h1, h2⟩ := h
  exact ⟨r, xs, e, s _ _ h1, h2.same s⟩
theorem paired_get' {α β : Type} {R : α → β → Prop} : ∀ {xs : List α} {ys : List β} {i : Nat} {x : α}, Paired R xs ys → xs[i]? = some x → ∃ y, ys[i]? = some y ∧ R x y
  | _, _, i, x, .nil, h => by simp at h
  | _, _, 0, x, .cons a b, h => ⟨_, rfl, by obtain rfl := Option.some.inj h; exact a⟩
  | _, _, i + 1, x, .cons a b, h => by
    obtain ⟨y, h1, h2⟩ := paired_get' b (i := i) (x := x) (by simpa using h)
    exact ⟨y, by simpa using h1, h2⟩
theorem flat_len {ds : List Val} (h : ∀ d ∈ ds, (partsV d).length ≤ 4) : (ds.flatMap partsV).length ≤ 4 * ds.length := by
  induction ds with
  | nil => simp
  | cons d ds ih =>
    have := h d List.mem_cons_self
    have := ih fun x hx => h x (List.mem_cons_of_mem _ hx)
    rw [List.flatMap_cons, List.length_append, List.length_cons]
    omega
/-- a walk's turns, each with a body that leads to the next -/
theorem lp_it {J : It} {n : Nat} {Ok : Hp → Prop} {Y : Nat → Hp → V → Hp → Prop} (wk : Walk J n Ok Y) {body : V → Hp → (Hp → Prop) → Prop} {Qd : Hp → Prop} {H0 : Hp} (I : Nat → Hp → Prop) (h0 : I 0 H0) (ok : ∀ i H, i ≤ n → I i H → Ok H)
    (step : ∀ i x H H', i < n → I i H → Y i H x H' → body x H' (I (i + 1))) (fin : ∀ H, I n H → Qd H) :
    ∃ W : Nat → Nat → Hp → Prop, (∃ m, W 0 m H0) ∧ ∀ i m H, W i m H → (J.stop i H ∧ Qd H) ∨ (J.go i H ∧ ∃ Nx : Hp → Prop, (∀ H', Nx H' → ∃ m', m' < m ∧ W (i + 1) m' H') ∧ ∀ x H', J.yld i H x H' → body x H' Nx) := by
  refine ⟨fun i m H => i ≤ n ∧ m = n - i ∧ I i H, ⟨n, Nat.zero_le _, by omega, h0⟩, fun i m H ⟨hi, hm, hI⟩ => ?_⟩
  by_cases e : i = n
  · subst e
    exact .inl ⟨wk.stops H (ok i H hi hI), fin H hI⟩
  · have hi' : i < n := by omega
    exact .inr ⟨wk.goes i H hi' (ok i H hi hI), I (i + 1), fun H' h => ⟨n - (i + 1), by omega, by omega, rfl, h⟩, fun x H' hy => step i x H H' hi' hI (wk.yields i H x H' hi' (ok i H hi hI) hy)⟩
section
variable {P : Program} {w : World} {K : PySem.W.Frag} {mg : Str → Option Value} {base : Heap} {C : Ad}
theorem sc_members_of_all : FnScope ["wholes", "rows", "whole", "row", "part"] ["wholes"] (defScope s_members_of_all) := ⟨rfl, rfl, rfl, by decide +kernel, rfl, by decide +kernel, by decide +kernel⟩
theorem ok_mall (T : Txt K w mg C) : Cal P w K mg base 3 "members_of_all" spMall := by
  have Gmembers_of := ok_mem (P := P) (base := base) T
  refine cal_of T.d_members_of_all sc_members_of_all (fun vs H Q E h => ?_) (fun f cdv A outer s H vs Q E hr h => ?_)
  · obtain ⟨a, xs, ds, G, M, rfl, _⟩ := h
    rfl
  · obtain ⟨a, xs, ds, G0, M, rfl, S, ha, hv, hw, hl, q⟩ := h
    have big : 1000000 < sizeLine := by decide
    have xl := hv.len
    refine ⟨_, (pss_cons (ps_setLc (i := 1) (own := [("whole", 2)]) (g := gName 2) (tt := tYes) rfl sc_members_of_all.nd rfl rfl (sw_true rfl rfl rfl (by decide +kernel)) (pi_list (pv 0)) (blkOk_by (N := ["wholes", "rows", "whole", "row", "part"]) (sc := (defScope s_members_of_all)) (by decide +kernel)) (fun _ _ _ _ _ => pg_name (i := 2) sc_members_of_all.nd rfl (Or.inl rfl)) (fun _ _ _ _ _ => pts_nil) (fun _ _ _ _ _ => (pe_c Gmembers_of hr (by decide) (by rfl) (pa_cons (pv 2) pa_nil)))) (pss_one (ps_ret (pe_lc2 (own := [("row", 3), ("part", 4)]) (g := gName 3) (g1 := gName 4) (tt := tYes) (tt1 := tYes) (vs1 := [4]) rfl sc_members_of_all.nd (pi_list (pv 1)) (blkOk_by (N := ["wholes", "rows", "whole", "row", "part"]) (sc := (defScope s_members_of_all)) (by decide +kernel)) (by decide) (fun _ _ _ _ _ => pg_name (i := 3) sc_members_of_all.nd rfl (Or.inl rfl)) (fun _ _ _ _ _ => pts_nil) (fun _ _ _ _ _ => (pi_listS (K := K) rfl (pv 3))) (fun _ _ _ _ _ => pg_name (i := 4) sc_members_of_all.nd rfl (Or.inl rfl)) (fun _ _ _ _ _ => pts_nil) (fun _ _ _ _ _ => (pv 4)))))), ?_⟩
    refine ⟨_, rfl, a, rfl, ⟨_, SqL.of (S.s _ _ ha)⟩, fun D hD => ?_⟩
    have S0 := S.add (o := .lst []) hD
    refine lc_it (walk_list (K := K) (a := a) (xs := xs)) (fun i H' => ∃ (ys : List V) (G : Hp), Sb G H' ((D, .lst ys) :: M) ∧ Same G0 G ∧ Paired (RowV G) ys (ds.take i)) ⟨[], G0, S0, Same.refl _, .nil⟩ (fun i H' _ z => by obtain ⟨ys, G, S', g, _⟩ := z; exact SqL.of (S'.s _ _ (g _ _ ha))) ?_ ?_
    · rintro i x H1 H2 hi ⟨ys, G, S1, g, py⟩ ⟨rfl, hx⟩
      obtain ⟨d, hd, hvx⟩ := hv.get hx
      have tk : ds.take (i + 1) = ds.take i ++ [d] := by rw [List.take_add_one, hd]; rfl
      have yl : ys.length ≤ ds.length := by
        rw [py.length, List.length_take]
        omega
      refine ⟨rfl, _, rfl, x, d, G, _, rfl, S1, hvx.same g, (hw d (List.mem_of_getElem? hd)).1, fun r zs G' H' S2 g2 hr hz => ?_⟩
      refine ⟨ys, S2.hd, by omega, ys ++ [.ref r], G', S2.put, Same.trans g g2, ?_⟩
      rw [tk]
      exact Paired.snoc (Paired.mono (fun _ _ z => RowV.same z g2) py) ⟨r, zs, rfl, hr, hz⟩
    · rintro H1 ⟨ys, G, S1, g, py⟩
      rw [xl, List.take_length] at py
      obtain ⟨S2, g2⟩ := S1.drop
      have py2 := Paired.mono (fun _ _ z => RowV.same z g2) py
      have hDG := upd_same (H := G) (a := D) (o := HO.lst ys)
      generalize upd G D (.lst ys) = G2 at S2 g2 py2 hDG
      have pl := py2.length
      refine ⟨_, rfl, D, rfl, ⟨_, SqL.of (S2.s _ _ hDG)⟩, fun D2 hD2 => ?_⟩
      have S3 := S2.add (o := .lst []) hD2
      have fl := flat_len fun d hd => (hw d hd).2
      refine lp_it (walk_list (K := K) (a := D) (xs := ys)) (fun i H' => ∃ zs : List V, Sb G2 H' ((D2, .lst zs) :: M) ∧ VHs G2 ((ds.take i).flatMap partsV) zs) ⟨[], S3, .nil⟩ (fun i H' _ z => by obtain ⟨zs, S', _⟩ := z; exact SqL.of (S'.s _ _ hDG)) ?_ ?_
      · rintro i x H2 H3 hi ⟨zs, S4, pz⟩ ⟨rfl, hx⟩
        obtain ⟨d, hd, r, ws, rfl, hr, hws⟩ := paired_get' py2 hx
        have tk : ds.take (i + 1) = ds.take i ++ [d] := by rw [List.take_add_one, hd]; rfl
        refine ⟨rfl, ?_⟩
        refine ⟨_, rfl, r, rfl, ⟨_, SqL.of (S4.s _ _ hr)⟩, ?_⟩
        refine lp_it (walk_list (K := K) (a := r) (xs := ws)) (fun j H' => ∃ us : List V, Sb G2 H' ((D2, .lst us) :: M) ∧ VHs G2 ((ds.take i).flatMap partsV ++ (partsV d).take j) us) ⟨zs, S4, by rw [List.take_zero, List.append_nil]; exact pz⟩ (fun j H' _ z => by obtain ⟨us, S', _⟩ := z; exact SqL.of (S'.s _ _ hr)) ?_ ?_
        · rintro j y H5 H6 hj ⟨us, S5, pu⟩ ⟨rfl, hy⟩
          obtain ⟨e, he, hve⟩ := hws.get hy
          have tk2 : (partsV d).take (j + 1) = (partsV d).take j ++ [e] := by rw [List.take_add_one, he]; rfl
          have ul := pu.len
          have l1 := flat_len (ds := ds.take i) fun d hd => (hw d (List.mem_of_mem_take hd)).2
          have l2 := (hw d (List.mem_of_getElem? hd)).2
          rw [List.length_append, List.length_take] at ul
          rw [List.length_take] at l1
          refine ⟨rfl, _, rfl, us, S5.hd, by omega, us ++ [y], S5.put, ?_⟩
          rw [tk2, ← List.append_assoc]
          exact pu.snoc hve
        · rintro H5 ⟨us, S5, pu⟩
          rw [hws.len, List.take_length] at pu
          refine ⟨us, S5, ?_⟩
          rw [tk, List.flatMap_append, List.flatMap_cons, List.flatMap_nil, List.append_nil]
          exact pu
      · rintro H2 ⟨zs, S4, pz⟩
        rw [pl, List.take_length] at pz
        obtain ⟨S5, g5⟩ := S4.drop
        exact q D2 zs _ H2 S5 (Same.trans g (Same.trans g2 g5)) upd_same (pz.same g5)
end
end VL

set_option Elab.async false
set_option linter.all false
set_option pp.maxSteps 500
set_option maxRecDepth 100000
set_option maxHeartbeats 4000000
namespace VL
open PySem PySem.Spec PyProof.Rows L2
theorem unlock {H H' : Hp} {a : Addr} {o f : HO} (ha : H a = some o) (s : Same (upd H a f) H') : Same H (upd H' a o) := fun b u e => by
  by_cases z : b = a
  · subst z
    rw [upd_same, ← ha, e]
  · rw [upd_ne z]
    exact s b u (by rw [upd_ne z]; exact e)
def tlV : Val → Nat
  | .txt x => x.length
  | _ => 0
def wlV : Val → Nat
  | .rc ks _ => (ks.map (·.length)).sum
  | .act _ n _ => n.length
  | _ => 0
theorem ownL_eq : ∀ ds : List Val, ownL ds = ds.length + (ds.map tlV).sum + ((ds.filter wholeV).map wlV).sum
  | [] => rfl
  | d :: ds => by
    have ih := ownL_eq ds
    have e : ownL (d :: ds) = ownS d + ownL ds := by simp [ownL]
    rw [e, ih]
    cases d <;> simp [ownS, tlV, wlV, wholeV, List.filter] <;> omega
def SzOk (d : Val) : Prop := match d with
  | .txt x => x.length ≤ 5
  | .rc ks _ => ks.length ≤ 4 ∧ ∀ k ∈ ks, k.length ≤ 5
  | .act _ n _ => n.length ≤ 5
  | _ => True
theorem szOk {d : Val} {n : Nat} (h : okV d n) : SzOk d := by
  cases d with
  | txt x =>
    simp only [okV] at h
    exact h.2
  | rc ks vs =>
    simp only [okV] at h
    obtain ⟨m, _, h1, h2, _, h3, _⟩ := h
    exact ⟨by omega, fun k hk => (h3 k hk).2⟩
  | act o x vs =>
    simp only [okV] at h
    obtain ⟨m, _, _, h1, _⟩ := h
    exact h1.2
  | _ => trivial
def spSzA : Sp := fun vs H Q _ => ∃ (a : Addr) (xs : List V) (ds : List Val) (G : Hp) (M : List (Addr × HO)), vs = [.ref a] ∧ Sb G H M ∧ G a = some (.lst xs) ∧ VHs G ds xs ∧ (∀ d ∈ ds, SzOk d) ∧ ds.length ≤ 100000 ∧ ∀ G' H', Sb G' H' M → Same G G' → Q (.int (ownL ds : Int)) H'
theorem walk_kn {kvs : List (Key × V)} {ks : List Str} (h : kvs.map (·.1) = ks.map Sum.inr) {i : Nat} {k : Key} {v : V} (e : kvs[i]? = some (k, v)) : ∃ x, k = .inr x ∧ ks[i]? = some x := by
  have h1 : (kvs.map (·.1))[i]? = some k := by rw [List.getElem?_map, e]; rfl
  rw [h, List.getElem?_map] at h1
  cases e2 : ks[i]? with
  | none => rw [e2] at h1; exact nomatch h1
  | some x => rw [e2] at h1; exact ⟨x, (Option.some.inj h1).symm, rfl⟩
section
variable {P : Program} {w : World} {K : PySem.W.Frag} {mg : Str → Option Value} {base : Heap} {C : Ad}
theorem sc_size_of_all : FnScope ["values", "part", "total", "name"] ["values"] (defScope s_size_of_all) := ⟨rfl, rfl, rfl, by decide +kernel, rfl, by decide +kernel, by decide +kernel⟩
theorem ok_szA (T : Txt K w mg C) : Cal P w K mg base 3 "size_of_all" spSzA := by
  have Gwholes_in := ok_whs (P := P) (base := base) T
  refine cal_of T.d_size_of_all sc_size_of_all (fun vs H Q E h => ?_) (fun f cdv A outer s H vs Q E hr h => ?_)
  · obtain ⟨a, xs, ds, G, M, rfl, _⟩ := h
    rfl
  · obtain ⟨a, xs, ds, G0, M, rfl, S, ha, hv, hz, hl, q⟩ := h
    have big : 1000000 < sizeLine := by decide
    have xl := hv.len
    refine ⟨_, (pss_cons (ps_set (i := 2) sc_size_of_all.nd rfl (Or.inl rfl) (pe_op op_add (pe_callB call_len_seq (by rfl) T.z_len PySem.boot_len (pa_cons (pv 0) pa_nil)) (pe_callB (cr_sum rfl) (by rfl) T.z_sum (by decide +kernel) (pa_cons (pe_lc (own := [("part", 1)]) (g := gName 1) (tt := _) rfl sc_size_of_all.nd (pi_list (pv 0)) (blkOk_by (N := ["values", "part", "total", "name"]) (sc := (defScope s_size_of_all)) (by decide +kernel)) (fun _ _ _ _ _ => pg_name (i := 1) sc_size_of_all.nd rfl (Or.inl rfl)) (fun _ _ _ _ _ => pts_one (pt_val (pe_callB (call_isiS (K := K) rfl) (by rfl) T.z_isinstance (by decide +kernel) (pa_cons (pv 1) (pa_cons (pe_bltn (v := .ty "str") (by rfl) T.z_str (by decide +kernel) rfl) pa_nil))))) (fun _ _ _ _ _ => (pe_callB call_len_str (by rfl) T.z_len PySem.boot_len (pa_cons (pv 1) pa_nil)))) pa_nil)))) (pss_cons (ps_for PassesOwn.never rfl (pi_list (pe_c Gwholes_in hr (by decide) (by rfl) (pa_cons (pv 0) pa_nil))) (pg_name (i := 1) sc_size_of_all.nd rfl (Or.inl rfl)) (pss_one (ps_if (pt_val (pe_callB call_isi (by rfl) T.z_isinstance (by decide +kernel) (pa_cons (pv 1) (pa_cons (pe_bltn (v := .ty "dict") (by rfl) T.z_dict (by decide +kernel) rfl) pa_nil)))) (pss_one (ps_aug (i := 2) sc_size_of_all.nd rfl (Or.inl rfl) (pe_callB (cr_sum rfl) (by rfl) T.z_sum (by decide +kernel) (pa_cons (pe_lock (pe_lc (own := [("name", 3)]) (g := gName 3) (tt := tYes) rfl sc_size_of_all.nd (pi_keys (pv 1)) (blkOk_by (N := ["values", "part", "total", "name"]) (sc := (defScope s_size_of_all)) (by decide +kernel)) (fun _ _ _ _ _ => pg_name (i := 3) sc_size_of_all.nd rfl (Or.inl rfl)) (fun _ _ _ _ _ => pts_nil) (fun _ _ _ _ _ => (pe_callB call_len_str (by rfl) T.z_len PySem.boot_len (pa_cons (pv 3) pa_nil))))) pa_nil)) ip_add)) (pss_one (ps_if (pt_val (pe_callB call_isi (by rfl) T.z_isinstance (by decide +kernel) (pa_cons (pv 1) (pa_cons (pe_bltn (v := .ty "tuple") (by rfl) T.z_tuple (by decide +kernel) rfl) pa_nil)))) (pss_one (ps_aug (i := 2) sc_size_of_all.nd rfl (Or.inl rfl) (pe_callB call_len_str (by rfl) T.z_len PySem.boot_len (pa_cons (pe_ix ix_tup (pv 1) pe_int (fun _ _ => rfl)) pa_nil)) ip_add)) pss_nil))))) (pss_one (ps_ret (pv 2))))), ?_⟩
    refine ⟨_, rfl, a, _, rfl, .inl (SqL.of (S.s _ _ ha)), ?_⟩
    refine ⟨_, rfl, a, rfl, ⟨_, SqL.of (S.s _ _ ha)⟩, fun D hD => ?_⟩
    have S0 := S.add (o := .lst []) hD
    refine lc_it (walk_list (K := K) (a := a) (xs := xs)) (fun i H' => ∃ ns : List Int, Sb G0 H' ((D, .lst (ns.map V.int)) :: M) ∧ ns.sum = (((ds.take i).map tlV).sum : Nat) ∧ ns.length ≤ i) ⟨[], S0, rfl, Nat.zero_le _⟩ (fun i H' _ z => by obtain ⟨ys, S', _⟩ := z; exact SqL.of (S'.s _ _ ha)) ?_ ?_
    · rintro i x H1 H2 hi ⟨ns, S1, hs, nl⟩ ⟨rfl, hx⟩
      obtain ⟨d, hd, hvx⟩ := hv.get hx
      have tk : ds.take (i + 1) = ds.take i ++ [d] := by rw [List.take_add_one, hd]; rfl
      have ty := ty_V (K := K) (hvx.same S1.s)
      refine ⟨rfl, ?_⟩
      refine ⟨_, rfl, x, .ty "str", _, _, isS d, rfl, .ty _, ty, kit_ty (kS d), isS d, rfl, ?_⟩
      cases e : isS d with
      | false =>
        refine iteF' rfl ⟨ns, S1, ?_, by omega⟩
        rw [tk, List.map_append, List.sum_append, hs]
        have : tlV d = 0 := by cases d <;> first | rfl | exact nomatch e
        simp [this]
      | true =>
        cases d with
        | txt y =>
          simp only [VH] at hvx
          subst hvx
          have hy : y.length ≤ 5 := hz _ (List.mem_of_getElem? hd)
          refine iteT' rfl ⟨_, rfl, _, rfl, by omega, ns.map V.int, S1.hd, by rw [List.length_map]; omega, ns ++ [(y.length : Int)], by rw [List.map_append]; exact S1.put, ?_, by rw [List.length_append]; simp; omega⟩
          rw [tk, List.map_append, List.sum_append, List.sum_append, hs]
          simp [tlV]
        | _ => exact nomatch e
    · rintro H1 ⟨ns, S1, hs, nl⟩
      rw [xl, List.take_length] at hs
      refine ⟨_, ns, rfl, SqL.of S1.hd, _, _, rfl, rfl, ?_⟩
      obtain ⟨S2, g2⟩ := S1.drop
      generalize upd G0 D (.lst (ns.map V.int)) = G2 at S2 g2
      refine ⟨_, rfl, a, xs, ds, G2, M, rfl, S2, g2 _ _ ha, hv.same g2, hl, fun r ys G3 H3 S3 g3 hr hys => ?_⟩
      refine ⟨r, rfl, ⟨_, SqL.of (S3.s _ _ hr)⟩, ?_⟩
      have yl := hys.len
      refine for_it (walk_list (K := K) (a := r) (xs := ys)) (fun i σ H' => ∃ (G : Hp) (y1 y3 : Option V), Sb G H' M ∧ Same G3 G ∧ σ = [some (.ref a), y1, some (.int ((ds.length + (ds.map tlV).sum + (((ds.filter wholeV).take i).map wlV).sum : Nat) : Int)), y3]) ⟨G3, none, none, S3, Same.refl _, ?_⟩ (fun i σ H' _ z => by obtain ⟨G, _, _, S', g, _⟩ := z; exact SqL.of (S'.s _ _ (g _ _ hr))) ?_ ?_
      · have e : ((ds.length + (ds.map tlV).sum + (((ds.filter wholeV).take 0).map wlV).sum : Nat) : Int) = (xs.length : Int) + ns.sum := by
          rw [hs, xl]
          simp
        rw [e]
        rfl
      · rintro i x σ H4 H5 hi ⟨G, y1, y3, S4, g4, rfl⟩ ⟨rfl, hx⟩
        obtain ⟨d, hd, hvx⟩ := hys.get hx
        have hvx4 := (hvx.same g4).same S4.s
        have ty := ty_V (K := K) hvx4
        have tk : (ds.filter wholeV).take (i + 1) = (ds.filter wholeV).take i ++ [d] := by rw [List.take_add_one, hd]; rfl
        have hm := List.mem_filter.mp (List.mem_of_getElem? hd)
        have hzd := hz d hm.1
        have add : ∀ y3' : Option V, ∀ m : Nat, m = wlV d → ∀ z, z = (((ds.length + (ds.map tlV).sum + (((ds.filter wholeV).take i).map wlV).sum : Nat) : Int) + (m : Int)) → [some (V.ref a), some x, some (V.int z), y3'] = [some (V.ref a), some x, some (V.int ((ds.length + (ds.map tlV).sum + (((ds.filter wholeV).take (i + 1)).map wlV).sum : Nat) : Int)), y3'] := by
          intro y3' m hm z hzz
          rw [hzz, tk, List.map_append, List.sum_append, hm]
          simp
          omega
        refine ⟨_, rfl, x, .ty "dict", _, _, isD d, rfl, .ty _, ty, kit_ty (kD d), isD d, rfl, ?_⟩
        cases d with
        | rc ks vs =>
          refine iteT' rfl ?_
          simp only [VH] at hvx4
          obtain ⟨e, kvs, rfl, h1, h2, h3, h4⟩ := hvx4
          have kl : kvs.length = ks.length := by have := congrArg List.length h2; simpa using this
          refine ⟨_, rfl, e, _, h1, trivial, fun od => ?_⟩
          have hlk : upd H5 e (.frz od (.dK kvs)) e = some (.frz od (.dK kvs)) := upd_same
          refine ⟨_, rfl, e, od, rfl, .inl ⟨_, hlk, fun D2 hD2 => ?_⟩⟩
          have hDe : D2 ≠ e := fun z => by rw [z, upd_same] at hD2; cases hD2
          refine lc_it (walk_keys (d := e) (o := od) (kvs := kvs)) (fun j H' => Same (upd H5 e (.frz od (.dK kvs))) H' ∧ ∃ ns : List Int, H' D2 = some (.lst (ns.map V.int)) ∧ ns.sum = (((ks.take j).map (·.length)).sum : Nat) ∧ ns.length ≤ j) ⟨Sm.new hD2, [], upd_same, rfl, Nat.zero_le _⟩ (fun j H' _ z => z.1 _ _ hlk) ?_ ?_
          · rintro j x H6 H7 hj ⟨s1, ms, hms, sm, ml⟩ ⟨rfl, k, v, hkv, rfl⟩
            obtain ⟨kx, rfl, hkx⟩ := walk_kn h2 hkv
            have tk3 : ks.take (j + 1) = ks.take j ++ [kx] := by rw [List.take_add_one, hkx]; rfl
            have := hzd.2 kx (List.mem_of_getElem? hkx)
            have := hzd.1
            refine ⟨rfl, _, rfl, _, rfl, by omega, ms.map V.int, hms, by rw [List.length_map]; omega, ?_, ms ++ [(kx.length : Int)], by rw [upd_same, List.map_append]; rfl, ?_, by rw [List.length_append]; simp; omega⟩
            · intro b o eb
              have : b ≠ D2 := fun z => by rw [z] at eb; rw [hD2] at eb; cases eb
              rw [upd_ne this]
              exact s1 _ _ eb
            · rw [tk3, List.map_append, List.sum_append, List.sum_append, sm]
              simp
          · rintro H6 ⟨s1, ms, hms, sm, ml⟩
            rw [kl, List.take_length] at sm
            refine ⟨s1 _ _ hlk, ?_⟩
            obtain ⟨G', S', g'⟩ := S4.more (unlock h1 s1)
            exact ⟨D2, ms, rfl, SqL.of (by rw [upd_ne hDe]; exact hms), _, _, rfl, rfl, G', _, _, S', Same.trans g4 g', add y3 _ rfl _ (by rw [sm]; rfl)⟩
        | act o n vs =>
          refine iteF' rfl ?_
          simp only [VH] at hvx4
          obtain ⟨e, l, zs, rfl, h1, h2, h3⟩ := hvx4
          refine ⟨_, rfl, .ref e, .ty "tuple", _, _, true, rfl, .ty _, ty, kit_ty (kA _), true, rfl, iteT' rfl ?_⟩
          exact ⟨_, rfl, _, rfl, e, _, _, _, rfl, rfl, SqT.of h1, at_2, n, rfl, Nat.le_trans hzd (by decide), _, _, rfl, rfl, G, _, _, S4, g4, add y3 _ rfl _ rfl⟩
        | lst vs =>
          refine iteF' rfl ?_
          refine ⟨_, rfl, x, .ty "tuple", _, _, false, rfl, .ty _, ty, kit_ty (kA _), false, rfl, iteF' rfl ?_⟩
          exact ⟨G, _, _, S4, g4, add y3 0 rfl _ (by simp)⟩
        | _ => simp [wholeV] at hm
      · rintro σ H4 ⟨G, y1, y3, S4, g4, rfl⟩
        rw [yl, List.take_length] 
        refine ⟨_, rfl, ?_⟩
        have := q G H4 S4 (Same.trans g2 (Same.trans g3 g4))
        rw [ownL_eq] at this
        exact this
end
end VL

set_option Elab.async false
set_option linter.all false
set_option pp.maxSteps 500
set_option maxRecDepth 100000
set_option maxHeartbeats 4000000
namespace VL
open PySem PySem.Spec PyProof.Rows L2
theorem pow_step {l l' n : Nat} (h : l * 4 ^ n ≤ 4096) (hl : l' ≤ 4 * l) (h0 : n = 0 → l' = 0) : l' * 4 ^ (n - 1) ≤ 4096 := by
  cases n with
  | zero => rw [h0 rfl]; simp
  | succ n =>
    show l' * 4 ^ n ≤ 4096
    have e : 4 ^ (n + 1) = 4 ^ n * 4 := Nat.pow_succ ..
    have : l' * 4 ^ n ≤ 4 * l * 4 ^ n := Nat.mul_le_mul_right _ hl
    have e2 : 4 * l * 4 ^ n = l * 4 ^ (n + 1) := by rw [e, Nat.mul_comm 4 l, Nat.mul_assoc, Nat.mul_comm 4 (4 ^ n)]
    omega
theorem len_pow {l n : Nat} (h : l * 4 ^ n ≤ 4096) : l ≤ 4096 := by
  have : 0 < 4 ^ n := Nat.pow_pos (by decide)
  exact Nat.le_trans (Nat.le_mul_of_pos_right _ (by omega)) h
theorem whole_mem {ps : List Val} {n : Nat} (h : okVs ps n) : ∀ d ∈ ps.filter wholeV, wholeV d = true ∧ (partsV d).length ≤ 4 := fun d hd => by
  have hm := List.mem_filter.mp hd
  exact ⟨hm.2, (okV_partsM (okVs_mem h hm.1)).2⟩
theorem filt_le {ps : List Val} : (ps.filter wholeV).length ≤ ps.length := List.length_filter_le _ _
def spSize : Sp := fun vs H Q _ => ∃ (v : V) (d : Val) (G : Hp) (M : List (Addr × HO)), vs = [v] ∧ Sb G H M ∧ VH G d v ∧ okV d 5 ∧ ∀ G' H', Sb G' H' M → Same G G' → Q (.int (sizeV d : Int)) H'
def spDepth : Sp := fun vs H Q _ => ∃ (v : V) (d : Val) (G : Hp) (M : List (Addr × HO)), vs = [v] ∧ Sb G H M ∧ VH G d v ∧ okV d 5 ∧ ∀ G' H', Sb G' H' M → Same G G' → Q (.int (depthV d : Int)) H'
section
variable {P : Program} {w : World} {K : PySem.W.Frag} {mg : Str → Option Value} {base : Heap} {C : Ad}
theorem sc_size : FnScope ["value", "total", "parts"] ["value"] (defScope s_size) := ⟨rfl, rfl, rfl, by decide +kernel, rfl, by decide +kernel, by decide +kernel⟩
theorem ok_size (T : Txt K w mg C) : Cal P w K mg base 5 "size" spSize := by
  have Gwholes_in := ok_whs (P := P) (base := base) T
  have Gmembers_of_all := ok_mall (P := P) (base := base) T
  have Gsize_of_all := ok_szA (P := P) (base := base) T
  refine cal_of T.d_size sc_size (fun vs H Q E h => ?_) (fun f cdv A outer s H vs Q E hr h => ?_)
  · obtain ⟨v, d, G, M, rfl, _⟩ := h
    rfl
  · obtain ⟨v, d, G0, M, rfl, S, hv, hok, q⟩ := h
    refine ⟨_, (pss_cons (ps_set (i := 1) sc_size.nd rfl (Or.inl rfl) pe_int) (pss_cons (ps_set (i := 2) sc_size.nd rfl (Or.inl rfl) (pe_lst (pa_cons (pv 0) pa_nil))) (pss_cons (ps_while PassesOwn.never (pt_truth (pv 2) (fun _ => rfl)) (pss_cons (ps_aug (i := 1) sc_size.nd rfl (Or.inl rfl) (pe_c Gsize_of_all hr (by decide) (by rfl) (pa_cons (pv 2) pa_nil)) ip_add) (pss_one (ps_set (i := 2) sc_size.nd rfl (Or.inl rfl) (pe_c Gmembers_of_all hr (by decide) (by rfl) (pa_cons (pe_c Gwholes_in hr (by decide) (by rfl) (pa_cons (pv 2) pa_nil)) pa_nil)))))) (pss_one (ps_ret (pv 1)))))), ?_⟩
    refine ⟨_, rfl, by show 1 ≤ sizeLine; decide, fun p0 hp0 => ?_⟩
    have S0 := S.alloc (o := .lst [v]) hp0
    have g0 := S.grow (o := .lst [v]) hp0
    refine ⟨fun m σ H' => ∃ (G : Hp) (pl : Addr) (xs : List V) (ps : List Val) (n t : Nat), Sb G H' M ∧ Same G0 G ∧ G pl = some (.lst xs) ∧ VHs G ps xs ∧ okVs ps n ∧ ps.length * 4 ^ n ≤ 4096 ∧ m = depthL ps ∧ t + sizeL ps = sizeV d ∧ σ = [some v, some (.int (t : Int)), some (.ref pl)], ⟨_, _, p0, [v], [d], 5, 0, S0, g0, upd_same, .cons (hv.same g0) .nil, by simp only [okVs]; exact ⟨hok, trivial⟩, by show 1 * 4 ^ 5 ≤ 4096; decide, rfl, by simp [sizeL], rfl⟩, ?_⟩
    rintro m σ H' ⟨G, pl, xs, ps, n, t, S1, g1, hpl, hxs, hps, hlen, rfl, ht, rfl⟩
    have lp := len_pow hlen
    have xl := hxs.len
    refine ⟨_, rfl, !xs.isEmpty, .inl ⟨xs, SqL.of (S1.s _ _ hpl), rfl⟩, ?_⟩
    cases ps with
    | nil =>
      have : xs = [] := List.eq_nil_of_length_eq_zero xl
      subst this
      refine iteF' rfl ⟨_, rfl, ?_⟩
      have := q G H' S1 g1
      simp only [sizeL] at ht
      rw [← ht] at this
      exact this
    | cons e ps =>
      have ne : (!xs.isEmpty) = true := by cases xs with
        | nil => simp at xl
        | cons x xs => rfl
      refine iteT' ne ?_
      have hsz := size_nxt (e :: ps)
      have hdp := depth_nxt (e :: ps) (fun z => nomatch z)
      obtain ⟨n1, n2⟩ := nxt_ok hps
      have h0 : n = 0 → (nxt (e :: ps)).length = 0 := fun z => by
        subst z
        rw [nxt_0 hps]
        rfl
      refine ⟨fun σ' H' => ∃ (G : Hp) (pl : Addr) (xs : List V) (ps' : List Val) (n t : Nat), Sb G H' M ∧ Same G0 G ∧ G pl = some (.lst xs) ∧ VHs G ps' xs ∧ okVs ps' n ∧ ps'.length * 4 ^ n ≤ 4096 ∧ ps' = nxt (e :: ps) ∧ t + sizeL ps' = sizeV d ∧ σ' = [some v, some (.int (t : Int)), some (.ref pl)], ?_, ?_⟩
      · rintro σ' H' ⟨G, pl, xs, ps', n, t, a1, a2, a3, a4, a5, a6, a7, a8, a9⟩
        exact ⟨depthL ps', by rw [a7]; omega, G, pl, xs, ps', n, t, a1, a2, a3, a4, a5, a6, rfl, a8, a9⟩
      · refine ⟨_, rfl, _, rfl, pl, xs, e :: ps, G, M, rfl, S1, hpl, hxs, fun d hd => szOk (okVs_mem hps hd), by omega, fun G2 H2 S2 g2 => ?_⟩
        refine ⟨_, _, rfl, rfl, _, rfl, pl, xs, e :: ps, G2, M, rfl, S2, g2 _ _ hpl, hxs.same g2, by omega, fun r ys G3 H3 S3 g3 hr hys => ?_⟩
        have fl := filt_le (ps := e :: ps)
        refine ⟨r, ys, _, G3, M, rfl, S3, hr, hys, whole_mem hps, by omega, fun r2 zs G4 H4 S4 g4 hr2 hzs => ?_⟩
        exact ⟨G4, r2, zs, nxt (e :: ps), n - 1, t + ownL (e :: ps), S4, Same.trans g1 (Same.trans g2 (Same.trans g3 g4)), hr2, hzs, n1, pow_step hlen n2 h0, rfl, by omega, rfl⟩
theorem sc_depth : FnScope ["value", "levels", "parts"] ["value"] (defScope s_depth) := ⟨rfl, rfl, rfl, by decide +kernel, rfl, by decide +kernel, by decide +kernel⟩
theorem ok_depth (T : Txt K w mg C) : Cal P w K mg base 5 "depth" spDepth := by
  have Gwholes_in := ok_whs (P := P) (base := base) T
  have Gmembers_of_all := ok_mall (P := P) (base := base) T
  refine cal_of T.d_depth sc_depth (fun vs H Q E h => ?_) (fun f cdv A outer s H vs Q E hr h => ?_)
  · obtain ⟨v, d, G, M, rfl, _⟩ := h
    rfl
  · obtain ⟨v, d, G0, M, rfl, S, hv, hok, q⟩ := h
    refine ⟨_, (pss_cons (ps_set (i := 1) sc_depth.nd rfl (Or.inl rfl) pe_int) (pss_cons (ps_set (i := 2) sc_depth.nd rfl (Or.inl rfl) (pe_c Gmembers_of_all hr (by decide) (by rfl) (pa_cons (pe_c Gwholes_in hr (by decide) (by rfl) (pa_cons (pe_lst (pa_cons (pv 0) pa_nil)) pa_nil)) pa_nil))) (pss_cons (ps_while PassesOwn.never (pt_truth (pv 2) (fun _ => rfl)) (pss_cons (ps_aug (i := 1) sc_depth.nd rfl (Or.inl rfl) pe_int ip_add) (pss_one (ps_set (i := 2) sc_depth.nd rfl (Or.inl rfl) (pe_c Gmembers_of_all hr (by decide) (by rfl) (pa_cons (pe_c Gwholes_in hr (by decide) (by rfl) (pa_cons (pv 2) pa_nil)) pa_nil)))))) (pss_one (ps_ret (pv 1)))))), ?_⟩
    have hps0 : okVs [d] 5 := by simp only [okVs]; exact ⟨hok, trivial⟩
    refine ⟨_, rfl, by show 1 ≤ sizeLine; decide, fun p0 hp0 => ?_⟩
    have S0 := S.alloc (o := .lst [v]) hp0
    have g0 := S.grow (o := .lst [v]) hp0
    refine ⟨p0, [v], [d], _, M, rfl, S0, upd_same, .cons (hv.same g0) .nil, by show 1 ≤ 100000; decide, fun r ys G3 H3 S3 g3 hr hys => ?_⟩
    have fl := filt_le (ps := [d])
    refine ⟨r, ys, _, G3, M, rfl, S3, hr, hys, whole_mem hps0, Nat.le_trans fl (by show 1 ≤ 100000; decide), fun r2 zs G4 H4 S4 g4 hr2 hzs => ?_⟩
    obtain ⟨n1, n2⟩ := nxt_ok hps0
    have dp0 := depth_nxt [d] (fun z => nomatch z)
    have dp1 : depthL [d] = depthV d := by simp [depthL]
    refine ⟨fun m σ H' => ∃ (G : Hp) (pl : Addr) (xs : List V) (ps : List Val) (n t : Nat), Sb G H' M ∧ Same G0 G ∧ G pl = some (.lst xs) ∧ VHs G ps xs ∧ okVs ps n ∧ ps.length * 4 ^ n ≤ 4096 ∧ m = depthL ps ∧ t + depthL ps = depthV d ∧ σ = [some v, some (.int (t : Int)), some (.ref pl)], ⟨_, _, r2, zs, nxt [d], 5 - 1, 1, S4, Same.trans g0 (Same.trans g3 g4), hr2, hzs, n1, pow_step (n := 5) (l := 1) (by decide) n2 (fun z => nomatch z), rfl, by omega, rfl⟩, ?_⟩
    rintro m σ H' ⟨G, pl, xs, ps, n, t, S1, g1, hpl, hxs, hps, hlen, rfl, ht, rfl⟩
    have lp := len_pow hlen
    have xl := hxs.len
    refine ⟨_, rfl, !xs.isEmpty, .inl ⟨xs, SqL.of (S1.s _ _ hpl), rfl⟩, ?_⟩
    cases ps with
    | nil =>
      have : xs = [] := List.eq_nil_of_length_eq_zero xl
      subst this
      refine iteF' rfl ⟨_, rfl, ?_⟩
      have := q G H' S1 g1
      simp only [depthL] at ht
      rw [← ht] at this
      exact this
    | cons e ps =>
      have ne : (!xs.isEmpty) = true := by cases xs with
        | nil => simp at xl
        | cons x xs => rfl
      refine iteT' ne ?_
      have hdp := depth_nxt (e :: ps) (fun z => nomatch z)
      obtain ⟨n1, n2⟩ := nxt_ok hps
      have h0 : n = 0 → (nxt (e :: ps)).length = 0 := fun z => by
        subst z
        rw [nxt_0 hps]
        rfl
      refine ⟨fun σ' H' => ∃ (G : Hp) (pl : Addr) (xs : List V) (ps' : List Val) (n t : Nat), Sb G H' M ∧ Same G0 G ∧ G pl = some (.lst xs) ∧ VHs G ps' xs ∧ okVs ps' n ∧ ps'.length * 4 ^ n ≤ 4096 ∧ ps' = nxt (e :: ps) ∧ t + depthL ps' = depthV d ∧ σ' = [some v, some (.int (t : Int)), some (.ref pl)], ?_, ?_⟩
      · rintro σ' H' ⟨G, pl, xs, ps', n, t, a1, a2, a3, a4, a5, a6, a7, a8, a9⟩
        exact ⟨depthL ps', by rw [a7]; omega, G, pl, xs, ps', n, t, a1, a2, a3, a4, a5, a6, rfl, a8, a9⟩
      · refine ⟨_, rfl, _, _, rfl, rfl, _, rfl, pl, xs, e :: ps, G, M, rfl, S1, hpl, hxs, by omega, fun r ys G3 H3 S3 g3 hr hys => ?_⟩
        have fl := filt_le (ps := e :: ps)
        refine ⟨r, ys, _, G3, M, rfl, S3, hr, hys, whole_mem hps, by omega, fun r2 zs G4 H4 S4 g4 hr2 hzs => ?_⟩
        exact ⟨G4, r2, zs, nxt (e :: ps), n - 1, t + 1, S4, Same.trans g1 (Same.trans g3 g4), hr2, hzs, n1, pow_step hlen n2 h0, rfl, by omega, rfl⟩
end
end VL

set_option Elab.async false
set_option linter.all false
set_option maxRecDepth 100000
set_option maxHeartbeats 4000000
namespace VL
open PySem PySem.Spec PyProof.Rows L2
/-! ### values where dicts may be locked -/
mutual
def VR (H : Hp) : Val → V → Prop
  | .nul, v => v = .non
  | .bl b, v => v = .bl b
  | .num i, v => v = .int i
  | .txt x, v => v = .str x
  | .lst vs, v => ∃ a xs, v = .ref a ∧ H a = some (.lst xs) ∧ VRs H vs xs
  | .rc ks vs, v => ∃ a kvs, v = .ref a ∧ Rd H a (.dK kvs) ∧ kvs.map (·.1) = ks.map Sum.inr ∧ ks.Nodup ∧ VRs H vs (kvs.map (·.2))
  | .act o n vs, v => ∃ a l xs, v = .ref a ∧ H a = some (.tup [.str "act", .int o, .str n, .ref l]) ∧ H l = some (.lst xs) ∧ VRs H vs xs
def VRs (H : Hp) : List Val → List V → Prop
  | [], xs => xs = []
  | d :: ds, xs => ∃ x ys, xs = x :: ys ∧ VR H d x ∧ VRs H ds ys
end
/-- nothing changes but that dicts are locked or free again -/
def Lk (H H' : Hp) : Prop := (∀ b xs, H b = some (.lst xs) → H' b = some (.lst xs)) ∧ (∀ b xs, H b = some (.tup xs) → H' b = some (.tup xs)) ∧ ∀ b kvs, Rd H b (.dK kvs) → Rd H' b (.dK kvs)
theorem Lk.of {H H' : Hp} (s : Same H H') : Lk H H' := ⟨fun b xs h => s _ _ h, fun b xs h => s _ _ h, fun b kvs h => h.elim (fun h => .inl (s _ _ h)) (fun ⟨o, h⟩ => .inr ⟨o, s _ _ h⟩)⟩
theorem Lk.trans {H H' H'' : Hp} (a : Lk H H') (b : Lk H' H'') : Lk H H'' := ⟨fun x xs h => b.1 _ _ (a.1 _ _ h), fun x xs h => b.2.1 _ _ (a.2.1 _ _ h), fun x kvs h => b.2.2 _ _ (a.2.2 _ _ h)⟩
theorem Lk.lock {H : Hp} {a : Addr} {kvs : List (Key × V)} {od : Obj} (h : H a = some (.dK kvs)) : Lk H (upd H a (.frz od (.dK kvs))) := by
  refine ⟨fun b xs e => ?_, fun b xs e => ?_, fun b ws e => ?_⟩
  · have : b ≠ a := fun z => by rw [z, h] at e; cases e
    rw [upd_ne this]
    exact e
  · have : b ≠ a := fun z => by rw [z, h] at e; cases e
    rw [upd_ne this]
    exact e
  · by_cases z : b = a
    · subst z
      rcases e with e | ⟨o, e⟩
      · rw [h] at e
        cases e
        exact .inr ⟨od, upd_same⟩
      · rw [h] at e
        cases e
    · rcases e with e | ⟨o, e⟩
      · exact .inl (by rw [upd_ne z]; exact e)
      · exact .inr ⟨o, by rw [upd_ne z]; exact e⟩
mutual
theorem VR_lk {H H' : Hp} (s : Lk H H') : ∀ (d : Val) (v : V), VR H d v → VR H' d v
  | .nul, v, h => by simpa only [VR] using h
  | .bl b, v, h => by simpa only [VR] using h
  | .num i, v, h => by simpa only [VR] using h
  | .txt x, v, h => by simpa only [VR] using h
  | .lst vs, v, h => by
    simp only [VR] at h ⊢
    obtain ⟨a, xs, e, h1, h2⟩ := h
    exact ⟨a, xs, e, s.1 _ _ h1, VRs_lk s vs xs h2⟩
  | .rc ks vs, v, h => by
    simp only [VR] at h ⊢
    obtain ⟨a, kvs, e, h1, h2, h3, h4⟩ := h
    exact ⟨a, kvs, e, s.2.2 _ _ h1, h2, h3, VRs_lk s vs _ h4⟩
  | .act o n vs, v, h => by
    simp only [VR] at h ⊢
    obtain ⟨a, l, xs, e, h1, h2, h3⟩ := h
    exact ⟨a, l, xs, e, s.2.1 _ _ h1, s.1 _ _ h2, VRs_lk s vs xs h3⟩
theorem VRs_lk {H H' : Hp} (s : Lk H H') : ∀ (ds : List Val) (xs : List V), VRs H ds xs → VRs H' ds xs
  | [], xs, h => by simpa only [VRs] using h
  | d :: ds, xs, h => by
    simp only [VRs] at h ⊢
    obtain ⟨x, ys, e, h1, h2⟩ := h
    exact ⟨x, ys, e, VR_lk s d x h1, VRs_lk s ds ys h2⟩
end
mutual
theorem VH_vr {H : Hp} : ∀ (d : Val) (v : V), VH H d v → VR H d v
  | .nul, v, h => by simpa only [VR, VH] using h
  | .bl b, v, h => by simpa only [VR, VH] using h
  | .num i, v, h => by simpa only [VR, VH] using h
  | .txt x, v, h => by simpa only [VR, VH] using h
  | .lst vs, v, h => by
    simp only [VR, VH] at h ⊢
    obtain ⟨a, xs, e, h1, h2⟩ := h
    exact ⟨a, xs, e, h1, VHs_vr vs xs h2⟩
  | .rc ks vs, v, h => by
    simp only [VR, VH] at h ⊢
    obtain ⟨a, kvs, e, h1, h2, h3, h4⟩ := h
    exact ⟨a, kvs, e, .inl h1, h2, h3, VHs_vr vs _ h4⟩
  | .act o n vs, v, h => by
    simp only [VR, VH] at h ⊢
    obtain ⟨a, l, xs, e, h1, h2, h3⟩ := h
    exact ⟨a, l, xs, e, h1, h2, VHs_vr vs xs h3⟩
theorem VHs_vr {H : Hp} : ∀ (ds : List Val) (xs : List V), VHs H ds xs → VRs H ds xs
  | [], xs, h => by simpa only [VRs, VHs] using h
  | d :: ds, xs, h => by
    simp only [VRs, VHs] at h ⊢
    obtain ⟨x, ys, e, h1, h2⟩ := h
    exact ⟨x, ys, e, VH_vr d x h1, VHs_vr ds ys h2⟩
end
theorem VH.vr {H : Hp} {d : Val} {v : V} (h : VH H d v) : VR H d v := VH_vr d v h
theorem VR.lk {H H' : Hp} {d : Val} {v : V} (h : VR H d v) (s : Lk H H') : VR H' d v := VR_lk s d v h
theorem VRs.lk {H H' : Hp} {ds : List Val} {xs : List V} (h : VRs H ds xs) (s : Lk H H') : VRs H' ds xs := VRs_lk s ds xs h
theorem VR.same {H H' : Hp} {d : Val} {v : V} (h : VR H d v) (s : Same H H') : VR H' d v := h.lk (.of s)
theorem VRs.len {H : Hp} : ∀ {ds : List Val} {xs : List V}, VRs H ds xs → xs.length = ds.length
  | [], xs, h => by
    simp only [VRs] at h
    rw [h]
    rfl
  | d :: ds, xs, h => by
    simp only [VRs] at h
    obtain ⟨x, ys, e, _, h2⟩ := h
    rw [e, List.length_cons, List.length_cons, VRs.len h2]
theorem VRs.get {H : Hp} : ∀ {ds : List Val} {xs : List V} {i : Nat} {x : V}, VRs H ds xs → xs[i]? = some x → ∃ d, ds[i]? = some d ∧ VR H d x
  | [], xs, i, x, h, e => by
    simp only [VRs] at h
    rw [h] at e
    cases e
  | d :: ds, xs, i, x, h, e => by
    simp only [VRs] at h
    obtain ⟨y, ys, e1, h1, h2⟩ := h
    rw [e1] at e
    cases i with
    | zero => exact ⟨d, rfl, by obtain rfl := Option.some.inj e; exact h1⟩
    | succ i =>
      obtain ⟨d', e', h'⟩ := VRs.get h2 (i := i) (x := x) (by simpa using e)
      exact ⟨d', by simpa using e', h'⟩
mutual
theorem VH_det {H : Hp} : ∀ (d e : Val) (v : V), VH H d v → VH H e v → d = e
  | .nul, e, v, h, g => by
    simp only [VH] at h
    subst h
    cases e <;> simp [VH] at g
    rfl
  | .bl b, e, v, h, g => by
    simp only [VH] at h
    subst h
    cases e <;> simp [VH] at g
    rw [g]
  | .num i, e, v, h, g => by
    simp only [VH] at h
    subst h
    cases e <;> simp [VH] at g
    rw [g]
  | .txt x, e, v, h, g => by
    simp only [VH] at h
    subst h
    cases e <;> simp [VH] at g
    rw [g]
  | .lst vs, e, v, h, g => by
    simp only [VH] at h
    obtain ⟨a, xs, rfl, h1, h2⟩ := h
    cases e with
    | lst ws =>
      simp only [VH] at g
      obtain ⟨a', xs', e', g1, g2⟩ := g
      cases e'
      rw [h1] at g1
      cases g1
      rw [VHs_det vs ws xs h2 g2]
    | rc ks ws =>
      simp only [VH] at g
      obtain ⟨a', xs', e', g1, g2⟩ := g
      cases e'
      rw [h1] at g1
      cases g1
    | act o n ws =>
      simp only [VH] at g
      obtain ⟨a', l, xs', e', g1, g2⟩ := g
      cases e'
      rw [h1] at g1
      cases g1
    | _ => simp [VH] at g
  | .rc ks vs, e, v, h, g => by
    simp only [VH] at h
    obtain ⟨a, xs, rfl, h1, h2, _, h4⟩ := h
    cases e with
    | lst ws =>
      simp only [VH] at g
      obtain ⟨a', xs', e', g1, g2⟩ := g
      cases e'
      rw [h1] at g1
      cases g1
    | rc ls ws =>
      simp only [VH] at g
      obtain ⟨a', xs', e', g1, g2, _, g4⟩ := g
      cases e'
      rw [h1] at g1
      cases g1
      rw [VHs_det vs ws _ h4 g4]
      rw [h2] at g2
      have : ∀ {a b : List Str}, a.map (Sum.inr (α := Int)) = b.map Sum.inr → a = b := by
        intro a
        induction a with
        | nil => intro b q; cases b with
          | nil => rfl
          | cons _ _ => simp at q
        | cons x a ih => intro b q; cases b with
          | nil => simp at q
          | cons y b =>
            simp only [List.map_cons, List.cons.injEq, Sum.inr.injEq] at q
            rw [q.1, ih q.2]
      rw [this g2]
    | act o n ws =>
      simp only [VH] at g
      obtain ⟨a', l, xs', e', g1, g2⟩ := g
      cases e'
      rw [h1] at g1
      cases g1
    | _ => simp [VH] at g
  | .act o n vs, e, v, h, g => by
    simp only [VH] at h
    obtain ⟨a, l, xs, rfl, h1, h2, h3⟩ := h
    cases e with
    | lst ws =>
      simp only [VH] at g
      obtain ⟨a', xs', e', g1, g2⟩ := g
      cases e'
      rw [h1] at g1
      cases g1
    | rc ks ws =>
      simp only [VH] at g
      obtain ⟨a', xs', e', g1, g2⟩ := g
      cases e'
      rw [h1] at g1
      cases g1
    | act o' n' ws =>
      simp only [VH] at g
      obtain ⟨a', l', xs', e', g1, g2, g3⟩ := g
      cases e'
      rw [h1] at g1
      cases g1
      rw [h2] at g2
      cases g2
      rw [VHs_det vs ws xs h3 g3]
    | _ => simp [VH] at g
theorem VHs_det {H : Hp} : ∀ (ds es : List Val) (xs : List V), VHs H ds xs → VHs H es xs → ds = es
  | [], es, xs, h, g => by
    simp only [VHs] at h
    subst h
    cases es with
    | nil => rfl
    | cons e es => simp [VHs] at g
  | d :: ds, es, xs, h, g => by
    simp only [VHs] at h
    obtain ⟨x, ys, rfl, h1, h2⟩ := h
    cases es with
    | nil => simp [VHs] at g
    | cons e es =>
      simp only [VHs] at g
      obtain ⟨x', ys', e', g1, g2⟩ := g
      cases e'
      rw [VH_det d e x h1 g1, VHs_det ds es ys h2 g2]
end
theorem depthL_mem : ∀ {ds : List Val} {d : Val}, d ∈ ds → depthV d ≤ depthL ds
  | e :: ds, d, h => by
    simp only [depthL]
    rcases List.mem_cons.mp h with rfl | h
    · omega
    · have := depthL_mem h
      omega
section
variable {H : Hp} {a : Addr} {o : HO} {D : Val} {kvs : List (Key × V)}
mutual
theorem VH_upd (ha : H a = some (.dK kvs)) (hD : VH H D (.ref a)) : ∀ (d : Val) (v : V), VH H d v → depthV d < depthV D → VH (upd H a o) d v
  | .nul, v, h, l => by simpa only [VH] using h
  | .bl b, v, h, l => by simpa only [VH] using h
  | .num i, v, h, l => by simpa only [VH] using h
  | .txt x, v, h, l => by simpa only [VH] using h
  | .lst vs, v, h, l => by
    simp only [VH] at h ⊢
    obtain ⟨b, xs, e, h1, h2⟩ := h
    have : b ≠ a := fun z => by rw [z, ha] at h1; cases h1
    simp only [depthV] at l
    exact ⟨b, xs, e, by rw [upd_ne this]; exact h1, VHs_upd ha hD vs xs h2 (by omega)⟩
  | .rc ks vs, v, h, l => by
    have hh := h
    simp only [VH] at h ⊢
    obtain ⟨b, ws, e, h1, h2, h3, h4⟩ := h
    have : b ≠ a := fun z => by
      rw [e, z] at hh
      rw [VH_det _ _ _ hh hD] at l
      omega
    simp only [depthV] at l
    exact ⟨b, ws, e, by rw [upd_ne this]; exact h1, h2, h3, VHs_upd ha hD vs _ h4 (by omega)⟩
  | .act p n vs, v, h, l => by
    simp only [VH] at h ⊢
    obtain ⟨b, c, xs, e, h1, h2, h3⟩ := h
    have n1 : b ≠ a := fun z => by rw [z, ha] at h1; cases h1
    have n2 : c ≠ a := fun z => by rw [z, ha] at h2; cases h2
    simp only [depthV] at l
    exact ⟨b, c, xs, e, by rw [upd_ne n1]; exact h1, by rw [upd_ne n2]; exact h2, VHs_upd ha hD vs xs h3 (by omega)⟩
theorem VHs_upd (ha : H a = some (.dK kvs)) (hD : VH H D (.ref a)) : ∀ (ds : List Val) (xs : List V), VHs H ds xs → depthL ds < depthV D → VHs (upd H a o) ds xs
  | [], xs, h, l => by simpa only [VHs] using h
  | d :: ds, xs, h, l => by
    simp only [VHs] at h ⊢
    simp only [depthL] at l
    obtain ⟨x, ys, e, h1, h2⟩ := h
    exact ⟨x, ys, e, VH_upd ha hD d x h1 (by omega), VHs_upd ha hD ds ys h2 (by omega)⟩
end
end
theorem ty_R {K : PySem.W.Frag} {H : Hp} {d : Val} {v : V} (h : VR H d v) : TyX K H v (.type (tyN d)) := by
  cases d with
  | nul => simp only [VR] at h; rw [h]; exact .base .non
  | bl b => simp only [VR] at h; rw [h]; exact .base (.bl b)
  | num i => simp only [VR] at h; rw [h]; exact .base (.int i)
  | txt x => simp only [VR] at h; rw [h]; exact .base (.str x)
  | lst vs => simp only [VR] at h; obtain ⟨a, xs, e, h1, _⟩ := h; rw [e]; exact .base (.lst h1)
  | rc ks vs =>
    simp only [VR] at h
    obtain ⟨a, xs, e, h1, _⟩ := h
    rw [e]
    rcases h1 with h1 | ⟨o, h1⟩
    · exact .base (.dK h1)
    · exact .fDict h1
  | act o n vs => simp only [VR] at h; obtain ⟨a, l, xs, e, h1, _⟩ := h; rw [e]; exact .base (.tup h1)
end VL

set_option Elab.async false
set_option linter.all false
set_option pp.maxSteps 500
set_option maxRecDepth 100000
set_option maxHeartbeats 4000000
namespace VL
open PySem PySem.Spec PyProof.Rows L2
theorem is_nonR {H : Hp} {d : Val} {v : V} (h : VR H d v) : decide (v = .non) = isN d := by
  cases d with
  | nul => simp only [VR] at h; rw [h]; rfl
  | bl b => simp only [VR] at h; rw [h]; rfl
  | num i => simp only [VR] at h; rw [h]; rfl
  | txt x => simp only [VR] at h; rw [h]; rfl
  | lst vs => simp only [VR] at h; obtain ⟨a, xs, e, h1, _⟩ := h; rw [e]; rfl
  | rc ks vs => simp only [VR] at h; obtain ⟨a, xs, e, h1, _⟩ := h; rw [e]; rfl
  | act o n vs => simp only [VR] at h; obtain ⟨a, l, xs, e, h1, _⟩ := h; rw [e]; rfl
theorem sameL_len : ∀ {ds es : List Val}, sameL ds es = true → ds.length = es.length
  | [], es, h => by
    cases es with
    | nil => rfl
    | cons e es => simp [sameL] at h
  | d :: ds, es, h => by
    cases es with
    | nil => simp [sameL] at h
    | cons e es =>
      simp only [sameL, Bool.and_eq_true] at h
      rw [List.length_cons, List.length_cons, sameL_len h.2]
theorem sameL_iff : ∀ {ds es : List Val}, ds.length = es.length → (sameL ds es = true ↔ ∀ (i : Nat) (d e : Val), ds[i]? = some d → es[i]? = some e → sameV d e = true)
  | [], es, h => by
    cases es with
    | nil => simp [sameL]
    | cons e es => simp at h
  | d :: ds, es, h => by
    cases es with
    | nil => simp at h
    | cons e es =>
      have ih := sameL_iff (ds := ds) (es := es) (by simpa using h)
      simp only [sameL, Bool.and_eq_true, ih]
      constructor
      · rintro ⟨h1, h2⟩ i d' e' e1 e2
        cases i with
        | zero =>
          obtain rfl := Option.some.inj e1
          obtain rfl := Option.some.inj e2
          exact h1
        | succ i => exact h2 i d' e' (by simpa using e1) (by simpa using e2)
      · intro hh
        exact ⟨hh 0 d e rfl rfl, fun i d' e' e1 e2 => hh (i + 1) d' e' (by simpa using e1) (by simpa using e2)⟩
theorem val_look {H : Hp} {x : Str} : ∀ {kws : List (Key × V)} {ls : List Str} {es : List Val}, kws.map (·.1) = ls.map Sum.inr → VRs H es (kws.map (·.2)) → (lookV ls es x = none ∧ valV kws (.inr x) = none) ∨ ∃ w v, lookV ls es x = some w ∧ valV kws (.inr x) = some v ∧ VR H w v
  | [], ls, es, h, g => by
    have : ls = [] := by cases ls <;> simp at h ⊢
    subst this
    exact .inl ⟨by simp [lookV], rfl⟩
  | p :: kws, [], es, h, g => by simp at h
  | p :: kws, l :: ls, [], h, g => by simp [VRs] at g
  | p :: kws, l :: ls, e :: es, h, g => by
    simp only [List.map_cons, List.cons.injEq] at h
    simp only [VRs, List.map_cons, List.cons.injEq] at g
    obtain ⟨y, ys, ⟨rfl, rfl⟩, g1, g2⟩ := g
    simp only [lookV]
    by_cases z : l = x
    · subst z
      rw [if_pos rfl]
      exact .inr ⟨e, p.2, rfl, valV_pos h.1, g1⟩
    · rw [if_neg z, valV_neg (by rw [h.1]; exact fun q => z (Sum.inr.inj q))]
      exact val_look h.2 g2
def spSame (n : Nat) : Sp := fun vs H Q _ => ∃ (a b : V) (d e : Val), vs = [a, b] ∧ VH H d a ∧ VR H e b ∧ okV d n ∧ okV e 5 ∧ ∀ H', Same H H' → Q (.bl (sameV d e)) H'
def spSL (n : Nat) : Sp := fun vs H Q _ => ∃ (a b : Addr) (xs ys : List V) (ds es : List Val), vs = [.ref a, .ref b] ∧ H a = some (.lst xs) ∧ H b = some (.lst ys) ∧ VHs H ds xs ∧ VRs H es ys ∧ okVs ds n ∧ okVs es 5 ∧ ∀ H', Same H H' → Q (.bl (sameL ds es)) H'
def spSR (n : Nat) : Sp := fun vs H Q _ => ∃ (a b : Addr) (ks ls : List Str) (ds es : List Val), vs = [.ref a, .ref b] ∧ VH H (.rc ks ds) (.ref a) ∧ VR H (.rc ls es) (.ref b) ∧ okV (.rc ks ds) (n + 1) ∧ okV (.rc ls es) 5 ∧ ∀ H', Same H H' → Q (.bl (decide (ks.length = ls.length) && sameR ds ks ls es)) H'
section
variable {P : Program} {w : World} {K : PySem.W.Frag} {mg : Str → Option Value} {base : Heap} {C : Ad}
theorem sc_same : FnScope ["a", "b"] ["a", "b"] (defScope s_same) := ⟨rfl, rfl, rfl, by decide +kernel, rfl, by decide +kernel, by decide +kernel⟩
theorem same_S (T : Txt K w mg C) {n k : Nat} {spl spr : Sp} (hl : ∀ m, m + 1 = n → spl = spSL m) (hr' : ∀ m, m + 1 = n → spr = spSR m) (Gsame_lists : Cal P w K mg base k "same_lists" spl) (Gsame_records : Cal P w K mg base k "same_records" spr) : Cal P w K mg base (k + 1) "same" (spSame n) := by
  refine cal_of T.d_same sc_same (fun vs H Q E h => ?_) (fun f cdv A outer s H vs Q E hr h => ?_)
  · obtain ⟨a, b, d, e, rfl, _⟩ := h
    rfl
  · obtain ⟨a, b, d, e, rfl, ha, hb, oa, ob, q⟩ := h
    have ta := ty_V (K := K) ha
    have tb := ty_R (K := K) hb
    refine ⟨_, (pss_cons (ps_if (pt_val (pe_callB call_isi (by rfl) T.z_isinstance (by decide +kernel) (pa_cons (pv 0) (pa_cons (pe_bltn (v := .ty "int") (by rfl) T.z_int (by decide +kernel) rfl) pa_nil)))) (pss_one (ps_ret (pe_and (pe_callB call_isi (by rfl) T.z_isinstance (by decide +kernel) (pa_cons (pv 1) (pa_cons (pe_bltn (v := .ty "int") (by rfl) T.z_int (by decide +kernel) rfl) pa_nil))) (pe_and (pe_cmpR op_eq (pe_callB call_isi (by rfl) T.z_isinstance (by decide +kernel) (pa_cons (pv 0) (pa_cons (pe_bltn (v := .ty "bool") (by rfl) T.z_bool (by decide +kernel) rfl) pa_nil))) (pe_callB call_isi (by rfl) T.z_isinstance (by decide +kernel) (pa_cons (pv 1) (pa_cons (pe_bltn (v := .ty "bool") (by rfl) T.z_bool (by decide +kernel) rfl) pa_nil))) (nomark _)) (pe_one (pe_cmpR op_eq (pv 0) (pv 1) (nomark _))))))) pss_nil) (pss_cons (ps_if (pt_val (pe_callB call_isi (by rfl) T.z_isinstance (by decide +kernel) (pa_cons (pv 0) (pa_cons (pe_bltn (v := .ty "str") (by rfl) T.z_str (by decide +kernel) rfl) pa_nil)))) (pss_one (ps_ret (pe_and (pe_callB call_isi (by rfl) T.z_isinstance (by decide +kernel) (pa_cons (pv 1) (pa_cons (pe_bltn (v := .ty "str") (by rfl) T.z_str (by decide +kernel) rfl) pa_nil))) (pe_one (pe_cmpR op_eq (pv 0) (pv 1) (nomark _)))))) pss_nil) (pss_cons (ps_if (pt_val (pe_callB call_isi (by rfl) T.z_isinstance (by decide +kernel) (pa_cons (pv 0) (pa_cons (pe_bltn (v := .ty "list") (by rfl) T.z_list (by decide +kernel) rfl) pa_nil)))) (pss_one (ps_ret (pe_and (pe_callB call_isi (by rfl) T.z_isinstance (by decide +kernel) (pa_cons (pv 1) (pa_cons (pe_bltn (v := .ty "list") (by rfl) T.z_list (by decide +kernel) rfl) pa_nil))) (pe_one (pe_c Gsame_lists hr (by omega) (by rfl) (pa_cons (pv 0) (pa_cons (pv 1) pa_nil))))))) pss_nil) (pss_cons (ps_if (pt_val (pe_callB call_isi (by rfl) T.z_isinstance (by decide +kernel) (pa_cons (pv 0) (pa_cons (pe_bltn (v := .ty "dict") (by rfl) T.z_dict (by decide +kernel) rfl) pa_nil)))) (pss_one (ps_ret (pe_and (pe_callB call_isi (by rfl) T.z_isinstance (by decide +kernel) (pa_cons (pv 1) (pa_cons (pe_bltn (v := .ty "dict") (by rfl) T.z_dict (by decide +kernel) rfl) pa_nil))) (pe_one (pe_c Gsame_records hr (by omega) (by rfl) (pa_cons (pv 0) (pa_cons (pv 1) pa_nil))))))) pss_nil) (pss_cons (ps_if (pt_val (pe_callB call_isi (by rfl) T.z_isinstance (by decide +kernel) (pa_cons (pv 0) (pa_cons (pe_bltn (v := .ty "tuple") (by rfl) T.z_tuple (by decide +kernel) rfl) pa_nil)))) (pss_one (ps_ret (pe_and (pe_callB call_isi (by rfl) T.z_isinstance (by decide +kernel) (pa_cons (pv 1) (pa_cons (pe_bltn (v := .ty "tuple") (by rfl) T.z_tuple (by decide +kernel) rfl) pa_nil))) (pe_and (pe_cmpR op_eq (pe_ix ix_tup (pv 0) pe_int (fun _ _ => rfl)) (pe_ix ix_tup (pv 1) pe_int (fun _ _ => rfl)) (nomark _)) (pe_and (pe_cmpR op_eq (pe_ix ix_tup (pv 0) pe_int (fun _ _ => rfl)) (pe_ix ix_tup (pv 1) pe_int (fun _ _ => rfl)) (nomark _)) (pe_one (pe_c Gsame_lists hr (by omega) (by rfl) (pa_cons (pe_ix ix_tup (pv 0) pe_int (fun _ _ => rfl)) (pa_cons (pe_ix ix_tup (pv 1) pe_int (fun _ _ => rfl)) pa_nil))))))))) pss_nil) (pss_one (ps_ret (pe_cmp (pc_isN (pv 1)))))))))), ?_⟩
    refine ⟨_, rfl, a, .ty "int", _, _, isI d, rfl, .ty _, ta, kit_ty (kI d), isI d, rfl, ?_⟩
    have q0 := q H (Same.refl _)
    cases d with
    | nul =>
      refine iteF' rfl ⟨_, rfl, a, .ty "str", _, _, _, rfl, .ty _, ta, kit_ty (kS _), _, rfl, iteF' rfl ⟨_, rfl, a, .ty "list", _, _, _, rfl, .ty _, ta, kit_ty (kL _), _, rfl, iteF' rfl ⟨_, rfl, a, .ty "dict", _, _, _, rfl, .ty _, ta, kit_ty (kD _), _, rfl, iteF' rfl ⟨_, rfl, a, .ty "tuple", _, _, _, rfl, .ty _, ta, kit_ty (kA _), _, rfl, iteF' rfl ⟨_, rfl, ?_⟩⟩⟩⟩⟩
      show Q (.bl (decide (b = .non))) H
      rw [is_nonR hb]
      have : sameV .nul e = isN e := by cases e <;> rfl
      rw [← this]
      exact q0
    | bl x =>
      simp only [VH] at ha
      subst ha
      refine iteT' rfl ⟨_, rfl, b, .ty "int", _, _, isI e, rfl, .ty _, tb, kit_ty (kI e), isI e, rfl, ?_⟩
      cases e with
      | bl y =>
        simp only [VR] at hb
        subst hb
        refine iteT' rfl ⟨_, rfl, _, .ty "bool", _, _, _, rfl, .ty _, ta, kit_ty (kB _), _, rfl, _, .ty "bool", _, _, _, rfl, .ty _, tb, kit_ty (kB _), rfl, _, rfl, iteT' rfl ⟨_, rfl, _, rfl, rfl, ?_⟩⟩
        have : sameV (.bl x) (.bl y) = decide (V.bl x = V.bl y) := by simp [sameV]
        rw [← this]
        exact q0
      | num y =>
        refine iteT' rfl ⟨_, rfl, _, .ty "bool", _, _, _, rfl, .ty _, ta, kit_ty (kB _), _, rfl, _, .ty "bool", _, _, _, rfl, .ty _, tb, kit_ty (kB _), rfl, _, rfl, iteF' rfl ?_⟩
        exact q0
      | _ => exact iteF' rfl q0
    | num x =>
      simp only [VH] at ha
      subst ha
      refine iteT' rfl ⟨_, rfl, b, .ty "int", _, _, isI e, rfl, .ty _, tb, kit_ty (kI e), isI e, rfl, ?_⟩
      cases e with
      | num y =>
        simp only [VR] at hb
        subst hb
        refine iteT' rfl ⟨_, rfl, _, .ty "bool", _, _, _, rfl, .ty _, ta, kit_ty (kB _), _, rfl, _, .ty "bool", _, _, _, rfl, .ty _, tb, kit_ty (kB _), rfl, _, rfl, iteT' rfl ⟨_, rfl, _, rfl, rfl, ?_⟩⟩
        have : sameV (.num x) (.num y) = decide (V.int x = V.int y) := by simp [sameV]
        rw [← this]
        exact q0
      | bl y =>
        refine iteT' rfl ⟨_, rfl, _, .ty "bool", _, _, _, rfl, .ty _, ta, kit_ty (kB _), _, rfl, _, .ty "bool", _, _, _, rfl, .ty _, tb, kit_ty (kB _), rfl, _, rfl, iteF' rfl ?_⟩
        exact q0
      | _ => exact iteF' rfl q0
    | txt x =>
      simp only [VH] at ha
      subst ha
      refine iteF' rfl ⟨_, rfl, _, .ty "str", _, _, _, rfl, .ty _, ta, kit_ty (kS _), _, rfl, iteT' rfl ⟨_, rfl, b, .ty "str", _, _, isS e, rfl, .ty _, tb, kit_ty (kS e), isS e, rfl, ?_⟩⟩
      cases e with
      | txt y =>
        simp only [VR] at hb
        subst hb
        refine iteT' rfl ⟨_, rfl, _, rfl, rfl, ?_⟩
        have : sameV (.txt x) (.txt y) = decide (V.str x = V.str y) := by simp [sameV]
        rw [← this]
        exact q0
      | _ => exact iteF' rfl q0
    | lst vs =>
      refine iteF' rfl ⟨_, rfl, a, .ty "str", _, _, _, rfl, .ty _, ta, kit_ty (kS _), _, rfl, iteF' rfl ⟨_, rfl, a, .ty "list", _, _, _, rfl, .ty _, ta, kit_ty (kL _), _, rfl, iteT' rfl ⟨_, rfl, b, .ty "list", _, _, isL e, rfl, .ty _, tb, kit_ty (kL e), isL e, rfl, ?_⟩⟩⟩
      cases e with
      | lst ws =>
        simp only [okV] at oa ob
        obtain ⟨m, rfl, o1, o2⟩ := oa
        obtain ⟨m', e', p1, p2⟩ := ob
        rw [hl m rfl]
        simp only [VH] at ha
        simp only [VR] at hb
        obtain ⟨a', xs, rfl, h1, h2⟩ := ha
        obtain ⟨b', ys, rfl, g1, g2⟩ := hb
        exact iteT' rfl ⟨_, rfl, _, rfl, a', b', xs, ys, vs, ws, rfl, h1, g1, h2, g2, o2, okVs_mono ws (by omega) p2, fun H' s' => q H' s'⟩
      | _ => exact iteF' rfl q0
    | rc ks vs =>
      refine iteF' rfl ⟨_, rfl, a, .ty "str", _, _, _, rfl, .ty _, ta, kit_ty (kS _), _, rfl, iteF' rfl ⟨_, rfl, a, .ty "list", _, _, _, rfl, .ty _, ta, kit_ty (kL _), _, rfl, iteF' rfl ⟨_, rfl, a, .ty "dict", _, _, _, rfl, .ty _, ta, kit_ty (kD _), _, rfl, iteT' rfl ⟨_, rfl, b, .ty "dict", _, _, isD e, rfl, .ty _, tb, kit_ty (kD e), isD e, rfl, ?_⟩⟩⟩⟩
      cases e with
      | rc ls ws =>
        obtain ⟨m, rfl⟩ : ∃ m, n = m + 1 := by
          simp only [okV] at oa
          obtain ⟨m, e', _⟩ := oa
          exact ⟨m, e'⟩
        rw [hr' m rfl]
        have ha' := ha
        have hb' := hb
        simp only [VH] at ha'
        simp only [VR] at hb'
        obtain ⟨a', xs, rfl, _⟩ := ha'
        obtain ⟨b', ys, rfl, _⟩ := hb'
        exact iteT' rfl ⟨_, rfl, _, rfl, a', b', ks, ls, vs, ws, rfl, ha, hb, oa, ob, fun H' s' => q H' s'⟩
      | _ => exact iteF' rfl q0
    | act o m vs =>
      refine iteF' rfl ⟨_, rfl, a, .ty "str", _, _, _, rfl, .ty _, ta, kit_ty (kS _), _, rfl, iteF' rfl ⟨_, rfl, a, .ty "list", _, _, _, rfl, .ty _, ta, kit_ty (kL _), _, rfl, iteF' rfl ⟨_, rfl, a, .ty "dict", _, _, _, rfl, .ty _, ta, kit_ty (kD _), _, rfl, iteF' rfl ⟨_, rfl, a, .ty "tuple", _, _, _, rfl, .ty _, ta, kit_ty (kA _), _, rfl, iteT' rfl ⟨_, rfl, b, .ty "tuple", _, _, isA e, rfl, .ty _, tb, kit_ty (kA e), isA e, rfl, ?_⟩⟩⟩⟩⟩
      cases e with
      | act o' m' ws =>
        simp only [okV] at oa ob
        obtain ⟨j, rfl, _, _, o1, o2⟩ := oa
        obtain ⟨j', e', _, _, p1, p2⟩ := ob
        rw [hl j rfl]
        simp only [VH] at ha
        simp only [VR] at hb
        obtain ⟨a', l, xs, rfl, h1, h2, h3⟩ := ha
        obtain ⟨b', l', ys, rfl, g1, g2, g3⟩ := hb
        refine iteT' rfl ⟨_, rfl, a', _, _, _, rfl, rfl, SqT.of h1, at_1, _, rfl, b', _, _, _, rfl, rfl, SqT.of g1, at_1, rfl, _, rfl, ?_⟩
        by_cases e1 : o = o'
        · refine iteT' (decide_eq_true (by rw [e1])) ⟨_, rfl, a', _, _, _, rfl, rfl, SqT.of h1, at_2, _, rfl, b', _, _, _, rfl, rfl, SqT.of g1, at_2, rfl, _, rfl, ?_⟩
          by_cases e2 : m = m'
          · refine iteT' (decide_eq_true (by rw [e2])) ⟨_, rfl, a', _, _, _, rfl, rfl, SqT.of h1, at_3, _, rfl, b', _, _, _, rfl, rfl, SqT.of g1, at_3, l, l', xs, ys, vs, ws, rfl, h2, g2, h3, g3, o2, okVs_mono ws (by omega) p2, fun H' s' => ?_⟩
            have := q H' s'
            simp only [sameV, e1, e2, decide_true, Bool.true_and] at this
            exact this
          · refine iteF' (decide_eq_false (fun z => e2 (V.str.inj z))) ?_
            simp only [sameV, e2, decide_false, Bool.false_and, Bool.and_false] at q0
            exact q0
        · refine iteF' (decide_eq_false (fun z => e1 (V.int.inj z))) ?_
          simp only [sameV, e1, decide_false, Bool.false_and] at q0
          exact q0
      | _ => exact iteF' rfl q0
theorem sc_same_lists : FnScope ["a", "b", "left", "right"] ["a", "b"] (defScope s_same_lists) := ⟨rfl, rfl, rfl, by decide +kernel, rfl, by decide +kernel, by decide +kernel⟩
theorem sameL_S (T : Txt K w mg C) {n k : Nat} (Gsame : Cal P w K mg base k "same" (spSame n)) : Cal P w K mg base (k + 1) "same_lists" (spSL n) := by
  refine cal_of T.d_same_lists sc_same_lists (fun vs H Q E h => ?_) (fun f cdv A outer s H vs Q E hr h => ?_)
  · obtain ⟨a, b, xs, ys, ds, es, rfl, _⟩ := h
    rfl
  · obtain ⟨a, b, xs, ys, ds, es, rfl, ha, hb, hxs, hys, oa, ob, q⟩ := h
    have xl := hxs.len
    have yl := hys.len
    refine ⟨_, (pss_cons (ps_if (pt_cmpR op_ne (pe_callB call_len_seq (by rfl) T.z_len PySem.boot_len (pa_cons (pv 0) pa_nil)) (pe_callB call_len_seq (by rfl) T.z_len PySem.boot_len (pa_cons (pv 1) pa_nil)) (nomark _)) (pss_one (ps_ret pe_bl)) pss_nil) (pss_cons (ps_for PassesOwn.never rfl (pi_zip (by rfl) T.z_zip (pa_cons (pv 0) (pa_cons (pv 1) pa_nil))) (pg_tup rfl (pgs_cons (pg_name (i := 2) sc_same_lists.nd rfl (Or.inl rfl)) (pgs_cons (pg_name (i := 3) sc_same_lists.nd rfl (Or.inl rfl)) pgs_nil))) (pss_one (ps_if (pt_not (pt_val (pe_c Gsame hr (by omega) (by rfl) (pa_cons (pv 2) (pa_cons (pv 3) pa_nil))))) (pss_one (ps_ret pe_bl)) pss_nil))) (pss_one (ps_ret pe_bl)))), ?_⟩
    refine ⟨_, rfl, a, _, rfl, .inl (SqL.of ha), _, rfl, b, _, rfl, .inl (SqL.of hb), rfl, _, rfl, ?_⟩
    by_cases hl : ds.length = es.length
    · refine iteF' (by rw [xl, yl, hl]; simp) ?_
      refine ⟨_, rfl, _, rfl, a, b, xs, ys, rfl, SqL.of ha, SqL.of hb, ?_⟩
      refine for_it (walk_zip (K := K) (a := a) (b := b) (xs := xs) (ys := ys) rfl) (fun i σ H' => Same H H' ∧ (∃ y2 y3 : Option V, σ = [some (.ref a), some (.ref b), y2, y3]) ∧ ∀ (j : Nat) (d e : Val), j < i → ds[j]? = some d → es[j]? = some e → sameV d e = true) ⟨Same.refl _, ⟨_, _, rfl⟩, fun j d e hj => absurd hj (Nat.not_lt_zero _)⟩ (fun i σ H' _ z => ⟨SqL.of (z.1 _ _ ha), SqL.of (z.1 _ _ hb)⟩) ?_ ?_
      · rintro i v σ H1 H2 hi ⟨s1, ⟨y2, y3, rfl⟩, inv⟩ ⟨T0, x, y, rfl, hT, rfl, hx, hy⟩
        obtain ⟨d, hd, vx⟩ := hxs.get hx
        obtain ⟨e, he, vy⟩ := hys.get hy
        have s3 := Same.trans s1 (Sm.new (o := .tup [x, y]) hT)
        refine ⟨_, _, rfl, SqT.of upd_same, rfl, _, _, rfl, _, _, rfl, rfl, ?_⟩
        refine ⟨_, rfl, _, rfl, x, y, d, e, rfl, vx.same s3, vy.same s3, okVs_get oa hd, okVs_get ob he, fun H' s' => ⟨_, rfl, ?_⟩⟩
        cases eq : sameV d e with
        | true =>
          refine iteF' rfl ⟨Same.trans s3 s', ⟨_, _, rfl⟩, fun j d' e' hj h1 h2 => ?_⟩
          by_cases ej : j = i
          · subst ej
            rw [hd] at h1
            rw [he] at h2
            cases h1
            cases h2
            exact eq
          · exact inv j d' e' (by omega) h1 h2
        | false =>
          refine iteT' rfl ?_
          have : sameL ds es = false := by
            cases e2 : sameL ds es with
            | false => rfl
            | true => rw [(sameL_iff hl).mp e2 i d e hd he] at eq; exact nomatch eq
          rw [this] at q
          exact q H' (Same.trans s3 s')
      · rintro σ H1 ⟨s1, ⟨y2, y3, rfl⟩, inv⟩
        have : sameL ds es = true := (sameL_iff hl).mpr fun j d e h1 h2 => inv j d e (by have := (List.getElem?_eq_some_iff.mp h1).1; omega) h1 h2
        rw [this] at q
        exact q H1 s1
    · refine iteT' (by rw [xl, yl]; simpa using fun z => hl (by omega)) ?_
      have : sameL ds es = false := by
        cases e : sameL ds es with
        | false => rfl
        | true => exact absurd (sameL_len e) hl
      rw [this] at q
      exact q H (Same.refl _)
theorem sc_same_records : FnScope ["a", "b", "name"] ["a", "b"] (defScope s_same_records) := ⟨rfl, rfl, rfl, by decide +kernel, rfl, by decide +kernel, by decide +kernel⟩
theorem sameR_S (T : Txt K w mg C) {n k : Nat} (Gsame : Cal P w K mg base k "same" (spSame n)) : Cal P w K mg base (k + 1) "same_records" (spSR n) := by
  refine cal_of T.d_same_records sc_same_records (fun vs H Q E h => ?_) (fun f cdv A outer s H vs Q E hr h => ?_)
  · obtain ⟨a, b, ks, ls, ds, es, rfl, _⟩ := h
    rfl
  · obtain ⟨a, b, ks, ls, ds, es, rfl, ha, hb, oa, ob, q⟩ := h
    have hu := hu_of hr
    have ha0 := ha
    simp only [VH] at ha
    simp only [VR] at hb
    obtain ⟨_, kvs, e0, ha1, ha2, ha3, ha4⟩ := ha
    cases e0
    obtain ⟨_, kws, e0, hb1, hb2, hb3, hb4⟩ := hb
    cases e0
    simp only [okV] at oa ob
    obtain ⟨n', en, _, kl, knd, _, oad⟩ := oa
    obtain rfl : n = n' := by omega
    obtain ⟨m', em, _, ll, lnd, _, obd⟩ := ob
    have kvl : kvs.length = ks.length := by have := congrArg List.length ha2; simpa using this
    have kwl : kws.length = ls.length := by have := congrArg List.length hb2; simpa using this
    refine ⟨_, (pss_cons (ps_if (pt_cmpR op_ne (pe_callB call_lenR (by rfl) T.z_len PySem.boot_len (pa_cons (pv 0) pa_nil)) (pe_callB call_lenR (by rfl) T.z_len PySem.boot_len (pa_cons (pv 1) pa_nil)) (nomark _)) (pss_one (ps_ret pe_bl)) pss_nil) (pss_cons (ps_lock (ps_for PassesOwn.never rfl (pi_keys (pv 0)) (pg_name (i := 2) sc_same_records.nd rfl (Or.inl rfl)) (pss_one (ps_if (PW.pt (pw_or (pt_cmp (pc_dnotin hu (pv 2) (pv 1))) (pw_or1 (pt_not (pt_val (pe_c Gsame hr (by omega) (by rfl) (pa_cons (pe_dget hu (pv 0) (pv 2) (fun _ _ => rfl)) (pa_cons (pe_dget hu (pv 1) (pv 2) (fun _ _ => rfl)) pa_nil)))))))) (pss_one (ps_ret pe_bl)) pss_nil)))) (pss_one (ps_ret pe_bl)))), ?_⟩
    refine ⟨_, rfl, a, _, rfl, .inl ha1, _, rfl, b, _, rfl, hb1, rfl, _, rfl, ?_⟩
    by_cases hl : ks.length = ls.length
    · refine iteF' (by rw [kvl, kwl, hl]; simp) ?_
      refine ⟨a, _, ha1, trivial, fun od => ?_⟩
      have hlk : upd H a (.frz od (.dK kvs)) a = some (.frz od (.dK kvs)) := upd_same
      have lk : Lk H (upd H a (.frz od (.dK kvs))) := Lk.lock ha1
      refine ⟨_, rfl, a, od, rfl, .inl ⟨_, hlk, ?_⟩⟩
      have va := VHs_upd (o := .frz od (.dK kvs)) ha1 ha0 ds _ ha4 (by simp only [depthV]; omega)
      have false_of : ∀ {j : Nat} {k : Str} {d : Val}, ks[j]? = some k → ds[j]? = some d → (∀ w, lookV ls es k = some w → sameV d w = false) → ∀ H', Same H H' → Q (.bl false) H' := by
        intro j k d h1 h2 h3 H' s'
        have : sameR ds ks ls es = false := by
          cases e : sameR ds ks ls es with
          | false => rfl
          | true =>
            obtain ⟨w, e1, e2⟩ := (sameR_iff kl).mp e j k d h1 h2
            rw [h3 w e1] at e2
            exact nomatch e2
        have z := q H' s'
        rw [this, Bool.and_false] at z
        exact z
      refine for_it (walk_keys (d := a) (o := od) (kvs := kvs)) (fun i σ H' => Same (upd H a (.frz od (.dK kvs))) H' ∧ (∃ y2 : Option V, σ = [some (.ref a), some (.ref b), y2]) ∧ ∀ (j : Nat) (k : Str) (d : Val), j < i → ks[j]? = some k → ds[j]? = some d → ∃ w, lookV ls es k = some w ∧ sameV d w = true) ⟨Same.refl _, ⟨_, rfl⟩, fun j k d hj => absurd hj (Nat.not_lt_zero _)⟩ (fun i σ H' _ z => z.1 _ _ hlk) ?_ ?_
      · rintro i x σ H1 H2 hi ⟨s1, ⟨y2, rfl⟩, inv⟩ ⟨rfl, k, v, hkv, rfl⟩
        obtain ⟨kx, rfl, hkx⟩ := walk_kn ha2 hkv
        have lk2 := lk.trans (.of s1)
        have rb := lk2.2.2 _ _ hb1
        have ra := s1 _ _ hlk
        have hv : (kvs.map (·.2))[i]? = some v := by rw [List.getElem?_map, hkv]; rfl
        obtain ⟨d, hd, vd⟩ := va.get hv
        have un := unlock ha1 s1
        refine ⟨_, rfl, _, rfl, b, _, rfl, .inl ⟨kws, .inr kx, rb, rfl, rfl⟩, _, rfl, ?_⟩
        rcases val_look (x := kx) hb2 (hb4.lk lk2) with ⟨l1, l2⟩ | ⟨w, v', l1, l2, l3⟩
        · refine iteT' (by rw [l2]; rfl) (iteT' rfl ⟨s1 _ _ hlk, ?_⟩)
          exact false_of hkx hd (fun w hw => by rw [l1] at hw; exact nomatch hw) _ un
        · refine iteF' (by rw [l2]; rfl) ?_
          have gv : valV kvs (.inr kx) = some v := by
            have nd : (kvs.map (·.1)).Nodup := by
              rw [ha2]
              exact List.Pairwise.map _ (fun a b z q => z (Sum.inr.inj q)) knd
            exact valV_nd nd hkv
          obtain ⟨jw, lj1, lj2⟩ := lookV_some l1
          refine ⟨_, rfl, _, rfl, a, v, rfl, .inl ⟨kvs, .inr kx, .inr ⟨od, ra⟩, rfl, gv.symm⟩, _, rfl, _, rfl, b, v', rfl, .inl ⟨kws, .inr kx, rb, rfl, l2.symm⟩, v, v', d, w, rfl, vd.same s1, l3, okVs_get oad hd, okV_mono w (by omega) (okVs_get obd lj2), fun H' s' => ⟨_, rfl, ?_⟩⟩
          cases eq : sameV d w with
          | true =>
            refine iteF' rfl ⟨Same.trans s1 s', ⟨_, rfl⟩, fun j k' d' hj h1 h2 => ?_⟩
            by_cases ej : j = i
            · subst ej
              rw [hkx] at h1
              rw [hd] at h2
              cases h1
              cases h2
              exact ⟨w, l1, eq⟩
            · exact inv j k' d' (by omega) h1 h2
          | false =>
            refine iteT' rfl ⟨s' _ _ ra, ?_⟩
            exact false_of hkx hd (fun w' hw => by rw [l1] at hw; cases hw; exact eq) _ (unlock ha1 (Same.trans s1 s'))
      · rintro σ H1 ⟨s1, ⟨y2, rfl⟩, inv⟩
        refine ⟨s1 _ _ hlk, ?_⟩
        have : sameR ds ks ls es = true := (sameR_iff kl).mpr fun j k d h1 h2 => inv j k d (by have := (List.getElem?_eq_some_iff.mp h1).1; omega) h1 h2
        have z := q _ (unlock ha1 s1)
        simp only [hl, this, decide_true, Bool.and_true] at z
        exact z
    · refine iteT' (by rw [kvl, kwl]; simpa using fun z => hl (by omega)) ?_
      have := q H (Same.refl _)
      simp only [hl, decide_false, Bool.false_and] at this
      exact this
theorem sl_0 (T : Txt K w mg C) {k : Nat} : Cal P w K mg base (k + 1) "same_lists" spFalse := cal_of T.d_same_lists sc_same_lists (fun vs H Q E h => h.elim) (fun f cdv A outer s H vs Q E hr h => h.elim)
theorem sr_0 (T : Txt K w mg C) {k : Nat} : Cal P w K mg base (k + 1) "same_records" spFalse := cal_of T.d_same_records sc_same_records (fun vs H Q E h => h.elim) (fun f cdv A outer s H vs Q E hr h => h.elim)
theorem same_N (T : Txt K w mg C) : ∀ n : Nat, Cal P w K mg base (2 * n + 2) "same" (spSame n)
  | 0 => same_S T (spl := spFalse) (spr := spFalse) (fun m h => by omega) (fun m h => by omega) (sl_0 T) (sr_0 T)
  | n + 1 => same_S T (n := n + 1) (spl := spSL n) (spr := spSR n) (fun m h => by rw [show m = n by omega]) (fun m h => by rw [show m = n by omega]) (sameL_S T (same_N T n)) (sameR_S T (same_N T n))
end
end VL

set_option Elab.async false
set_option linter.all false
set_option pp.maxSteps 500
set_option maxRecDepth 100000
set_option maxHeartbeats 4000000
namespace VL
open PySem PySem.Spec PyProof.Rows L2
/-! ### copies -/
mutual
def VT (H : Hp) : Val → V → List Addr → Prop
  | .nul, v, A => v = .non ∧ A = []
  | .bl b, v, A => v = .bl b ∧ A = []
  | .num i, v, A => v = .int i ∧ A = []
  | .txt x, v, A => v = .str x ∧ A = []
  | .lst vs, v, A => ∃ a xs B, v = .ref a ∧ H a = some (.lst xs) ∧ VTs H vs xs B ∧ A = a :: B
  | .rc ks vs, v, A => ∃ a kvs B, v = .ref a ∧ H a = some (.dK kvs) ∧ kvs.map (·.1) = ks.map Sum.inr ∧ ks.Nodup ∧ VTs H vs (kvs.map (·.2)) B ∧ A = a :: B
  | .act o n vs, v, A => ∃ a l xs B, v = .ref a ∧ H a = some (.tup [.str "act", .int o, .str n, .ref l]) ∧ H l = some (.lst xs) ∧ VTs H vs xs B ∧ A = l :: B
def VTs (H : Hp) : List Val → List V → List Addr → Prop
  | [], xs, A => xs = [] ∧ A = []
  | d :: ds, xs, A => ∃ x ys B D, xs = x :: ys ∧ VT H d x B ∧ VTs H ds ys D ∧ A = B ++ D
end
/-- what a value's parts are is kept -/
def Kp (H H' : Hp) : Prop := (∀ b xs, H b = some (.lst xs) → H' b = some (.lst xs)) ∧ (∀ b xs, H b = some (.tup xs) → H' b = some (.tup xs)) ∧ ∀ b kvs, H b = some (.dK kvs) → H' b = some (.dK kvs)
theorem Kp.of {H H' : Hp} (s : Same H H') : Kp H H' := ⟨fun b xs h => s _ _ h, fun b xs h => s _ _ h, fun b kvs h => s _ _ h⟩
theorem Kp.frz {H : Hp} {a : Addr} {od : Obj} {u o : HO} (h : H a = some (.frz od u)) : Kp H (upd H a o) := by
  refine ⟨fun b xs e => ?_, fun b xs e => ?_, fun b xs e => ?_⟩ <;>
  · have : b ≠ a := fun z => by rw [z, h] at e; cases e
    rw [upd_ne this]
    exact e
mutual
theorem VT_kp {H H' : Hp} (s : Kp H H') : ∀ (d : Val) (v : V) (A : List Addr), VT H d v A → VT H' d v A
  | .nul, v, A, h => by simpa only [VT] using h
  | .bl b, v, A, h => by simpa only [VT] using h
  | .num i, v, A, h => by simpa only [VT] using h
  | .txt x, v, A, h => by simpa only [VT] using h
  | .lst vs, v, A, h => by
    simp only [VT] at h ⊢
    obtain ⟨a, xs, B, e, h1, h2, h3⟩ := h
    exact ⟨a, xs, B, e, s.1 _ _ h1, VTs_kp s vs xs B h2, h3⟩
  | .rc ks vs, v, A, h => by
    simp only [VT] at h ⊢
    obtain ⟨a, kvs, B, e, h1, h2, h3, h4, h5⟩ := h
    exact ⟨a, kvs, B, e, s.2.2 _ _ h1, h2, h3, VTs_kp s vs _ B h4, h5⟩
  | .act o n vs, v, A, h => by
    simp only [VT] at h ⊢
    obtain ⟨a, l, xs, B, e, h1, h2, h3, h4⟩ := h
    exact ⟨a, l, xs, B, e, s.2.1 _ _ h1, s.1 _ _ h2, VTs_kp s vs xs B h3, h4⟩
theorem VTs_kp {H H' : Hp} (s : Kp H H') : ∀ (ds : List Val) (xs : List V) (A : List Addr), VTs H ds xs A → VTs H' ds xs A
  | [], xs, A, h => by simpa only [VTs] using h
  | d :: ds, xs, A, h => by
    simp only [VTs] at h ⊢
    obtain ⟨x, ys, B, D, e, h1, h2, h3⟩ := h
    exact ⟨x, ys, B, D, e, VT_kp s d x B h1, VTs_kp s ds ys D h2, h3⟩
end
theorem VT.same {H H' : Hp} {d : Val} {v : V} {A : List Addr} (h : VT H d v A) (s : Same H H') : VT H' d v A := VT_kp (.of s) d v A h
theorem VTs.same {H H' : Hp} {ds : List Val} {xs : List V} {A : List Addr} (h : VTs H ds xs A) (s : Same H H') : VTs H' ds xs A := VTs_kp (.of s) ds xs A h
mutual
theorem VT_vh {H : Hp} : ∀ (d : Val) (v : V) (A : List Addr), VT H d v A → VH H d v ∧ ∀ a ∈ A, (H a).isSome = true
  | .nul, v, A, h => by
    simp only [VT] at h
    simp only [VH]
    exact ⟨h.1, by rw [h.2]; simp⟩
  | .bl b, v, A, h => by
    simp only [VT] at h
    simp only [VH]
    exact ⟨h.1, by rw [h.2]; simp⟩
  | .num i, v, A, h => by
    simp only [VT] at h
    simp only [VH]
    exact ⟨h.1, by rw [h.2]; simp⟩
  | .txt x, v, A, h => by
    simp only [VT] at h
    simp only [VH]
    exact ⟨h.1, by rw [h.2]; simp⟩
  | .lst vs, v, A, h => by
    simp only [VT] at h
    simp only [VH]
    obtain ⟨a, xs, B, e, h1, h2, h3⟩ := h
    obtain ⟨i1, i2⟩ := VTs_vh vs xs B h2
    refine ⟨⟨a, xs, e, h1, i1⟩, fun b hb => ?_⟩
    rw [h3] at hb
    rcases List.mem_cons.mp hb with rfl | hb
    · rw [h1]; rfl
    · exact i2 b hb
  | .rc ks vs, v, A, h => by
    simp only [VT] at h
    simp only [VH]
    obtain ⟨a, kvs, B, e, h1, h2, h3, h4, h5⟩ := h
    obtain ⟨i1, i2⟩ := VTs_vh vs _ B h4
    refine ⟨⟨a, kvs, e, h1, h2, h3, i1⟩, fun b hb => ?_⟩
    rw [h5] at hb
    rcases List.mem_cons.mp hb with rfl | hb
    · rw [h1]; rfl
    · exact i2 b hb
  | .act o n vs, v, A, h => by
    simp only [VT] at h
    simp only [VH]
    obtain ⟨a, l, xs, B, e, h1, h2, h3, h4⟩ := h
    obtain ⟨i1, i2⟩ := VTs_vh vs xs B h3
    refine ⟨⟨a, l, xs, e, h1, h2, i1⟩, fun b hb => ?_⟩
    rw [h4] at hb
    rcases List.mem_cons.mp hb with rfl | hb
    · rw [h2]; rfl
    · exact i2 b hb
theorem VTs_vh {H : Hp} : ∀ (ds : List Val) (xs : List V) (A : List Addr), VTs H ds xs A → VHs H ds xs ∧ ∀ a ∈ A, (H a).isSome = true
  | [], xs, A, h => by
    simp only [VTs] at h
    simp only [VHs]
    exact ⟨h.1, by rw [h.2]; simp⟩
  | d :: ds, xs, A, h => by
    simp only [VTs] at h
    simp only [VHs]
    obtain ⟨x, ys, B, D, e, h1, h2, h3⟩ := h
    obtain ⟨i1, i2⟩ := VT_vh d x B h1
    obtain ⟨j1, j2⟩ := VTs_vh ds ys D h2
    refine ⟨⟨x, ys, e, i1, j1⟩, fun b hb => ?_⟩
    rw [h3] at hb
    rcases List.mem_append.mp hb with hb | hb
    · exact i2 b hb
    · exact j2 b hb
end
theorem VTs.nil {H : Hp} : VTs H [] [] [] := by simp [VTs]
theorem VTs.snoc {H : Hp} : ∀ {ds : List Val} {xs : List V} {A : List Addr} {d : Val} {v : V} {B : List Addr}, VTs H ds xs A → VT H d v B → VTs H (ds ++ [d]) (xs ++ [v]) (A ++ B)
  | [], xs, A, d, v, B, h, g => by
    simp only [VTs] at h
    rw [h.1, h.2]
    simp only [List.nil_append, VTs]
    exact ⟨v, [], B, [], rfl, g, by simp, by simp⟩
  | e :: ds, xs, A, d, v, B, h, g => by
    simp only [VTs] at h
    obtain ⟨x, ys, C, D, rfl, h1, h2, rfl⟩ := h
    simp only [List.cons_append, VTs]
    exact ⟨x, ys ++ [v], C, D ++ B, rfl, h1, VTs.snoc h2 g, by rw [List.append_assoc]⟩
theorem VT.fresh {H G : Hp} {d : Val} {v : V} {A : List Addr} (h : VT H d v A) (g : ∀ a ∈ A, G a = none) {a : Addr} (ha : (G a).isSome = true) : a ∉ A := fun z => by rw [g a z] at ha; exact nomatch ha
mutual
def cst : Val → Nat
  | .lst vs => cstL vs + 1
  | .rc _ vs => cstL vs + 1
  | .act _ _ vs => cstL vs + 2
  | _ => 0
def cstL : List Val → Nat
  | [] => 0
  | d :: ds => max (cst d) (cstL ds)
end
theorem cstL_mem : ∀ {ds : List Val} {d : Val}, d ∈ ds → cst d ≤ cstL ds
  | e :: ds, d, h => by
    simp only [cstL]
    rcases List.mem_cons.mp h with rfl | h
    · omega
    · have := cstL_mem h
      omega
mutual
theorem cst_le : ∀ (d : Val) {n : Nat}, okV d n → cst d ≤ 2 * n
  | .nul, n, h => by simp [cst]
  | .bl b, n, h => by simp [cst]
  | .num i, n, h => by simp [cst]
  | .txt x, n, h => by simp [cst]
  | .lst vs, n, h => by
    simp only [okV] at h
    obtain ⟨m, rfl, _, h2⟩ := h
    have := cstL_le vs h2
    simp only [cst]
    omega
  | .rc ks vs, n, h => by
    simp only [okV] at h
    obtain ⟨m, rfl, _, _, _, _, h2⟩ := h
    have := cstL_le vs h2
    simp only [cst]
    omega
  | .act o x vs, n, h => by
    simp only [okV] at h
    obtain ⟨m, rfl, _, _, _, h2⟩ := h
    have := cstL_le vs h2
    simp only [cst]
    omega
theorem cstL_le : ∀ (ds : List Val) {n : Nat}, okVs ds n → cstL ds ≤ 2 * n
  | [], n, h => by simp [cstL]
  | d :: ds, n, h => by
    simp only [okVs] at h
    have := cst_le d h.1
    have := cstL_le ds h.2
    simp only [cstL]
    omega
end
theorem Sb.lock {G H : Hp} {M : List (Addr × HO)} {a : Addr} {o u : HO} (S : Sb G H M) (h : G a = some o) : Sb (upd G a u) (upd H a u) M := by
  refine ⟨fun b x e => ?_, fun p hp => ?_, S.nd⟩
  · by_cases z : b = a
    · subst z
      rw [upd_same] at e ⊢
      exact e
    · rw [upd_ne z] at e ⊢
      exact S.s _ _ e
  · have := S.m p hp
    have ne : p.1 ≠ a := fun z => by rw [z, h] at this; exact nomatch this.1
    exact ⟨by rw [upd_ne ne]; exact this.1, by rw [upd_ne ne]; exact this.2⟩
def textV : Val → V
  | .nul => .str ""
  | .bl b => .str (if b then "true" else "false")
  | .num i => .str (Str.ofString (toString i))
  | .txt x => .str x
  | _ => .non
theorem log_31 {i : Int} (h0 : -(10 ^ 31) < i) (h1 : i < 10 ^ 31) : i.natAbs.log2 < 1920 := by
  have h2 : i.natAbs < 2 ^ 1920 := by
    have : i.natAbs < 10 ^ 31 := by omega
    exact Nat.lt_trans this (by decide)
  by_cases hz : i.natAbs = 0
  · rw [hz]; decide
  · exact (Nat.log2_lt hz).mpr h2
def spTextOf : Sp := fun vs H Q _ => ∃ (v : V) (d : Val), vs = [v] ∧ VH H d v ∧ okV d 5 ∧ Q (textV d) H
def spCopyV (m : Nat) : Sp := fun vs H Q _ => ∃ (v : V) (d : Val) (G : Hp) (M : List (Addr × HO)), vs = [v] ∧ Sb G H M ∧ VH G d v ∧ okV d 5 ∧ cst d ≤ m ∧ ∀ y A G' H', Sb G' H' M → Same G G' → VT G' d y A → A.Nodup → (∀ a ∈ A, G a = none) → Q y H'
section
variable {P : Program} {w : World} {K : PySem.W.Frag} {mg : Str → Option Value} {base : Heap} {C : Ad}
theorem sc_text_of : FnScope ["value"] ["value"] (defScope s_text_of) := ⟨rfl, rfl, rfl, by decide +kernel, rfl, by decide +kernel, by decide +kernel⟩
theorem ok_textOf (T : Txt K w mg C) : Cal P w K mg base 2 "text_of" spTextOf := by
  have Gis_number := ok_isNum (P := P) (base := base) T
  have Gis_text := ok_isText (P := P) (base := base) T
  refine cal_of T.d_text_of sc_text_of (fun vs H Q E h => ?_) (fun f cdv A outer s H vs Q E hr h => ?_)
  · obtain ⟨v, d, rfl, _⟩ := h
    rfl
  · obtain ⟨v, d, rfl, hv, hok, q⟩ := h
    have hv0 := hv
    refine ⟨_, (pss_cons (ps_if (pt_cmp (pc_isN (pv 0))) (pss_one (ps_ret pe_str)) pss_nil) (pss_cons (ps_if (pt_cmpR op_isBl (pv 0) pe_bl (nomark _)) (pss_one (ps_ret pe_str)) pss_nil) (pss_cons (ps_if (pt_cmpR op_isBl (pv 0) pe_bl (nomark _)) (pss_one (ps_ret pe_str)) pss_nil) (pss_cons (ps_if (pt_val (pe_c Gis_number hr (by decide) (by rfl) (pa_cons (pv 0) pa_nil))) (pss_one (ps_ret (pe_callTy call_str_int (by rfl) T.z_str (by decide +kernel) (pa_cons (pv 0) pa_nil)))) pss_nil) (pss_cons (ps_if (pt_val (pe_c Gis_text hr (by decide) (by rfl) (pa_cons (pv 0) pa_nil))) (pss_one (ps_ret (pv 0))) pss_nil) (pss_one (ps_ret pe_non))))))), ?_⟩
    refine ⟨_, rfl, _, rfl, ?_⟩
    cases d with
    | nul =>
      simp only [VH] at hv
      subst hv
      exact iteT' rfl q
    | bl b =>
      simp only [VH] at hv
      subst hv
      refine iteF' rfl ⟨_, rfl, true, rfl, _, rfl, ?_⟩
      cases b with
      | true => exact iteT' rfl q
      | false => exact iteF' rfl ⟨_, rfl, false, rfl, _, rfl, iteT' rfl q⟩
    | num i =>
      simp only [VH] at hv
      subst hv
      simp only [okV] at hok
      refine iteF' rfl ⟨_, rfl, true, rfl, _, rfl, iteF' rfl ⟨_, rfl, false, rfl, _, rfl, iteF' rfl ⟨_, rfl, _, _, rfl, hv0, _, rfl, iteT' rfl ?_⟩⟩⟩
      exact ⟨_, rfl, i, rfl, log_31 hok.2.1 hok.2.2, q⟩
    | txt x =>
      simp only [VH] at hv
      subst hv
      refine iteF' rfl ⟨_, rfl, true, rfl, _, rfl, iteF' rfl ⟨_, rfl, false, rfl, _, rfl, iteF' rfl ⟨_, rfl, _, _, rfl, hv0, _, rfl, iteF' rfl ⟨_, rfl, _, _, rfl, hv0, _, rfl, iteT' rfl ?_⟩⟩⟩⟩
      exact ⟨_, rfl, q⟩
    | lst vs =>
      simp only [VH] at hv
      obtain ⟨a, _, rfl, _⟩ := hv
      exact iteF' rfl ⟨_, rfl, true, rfl, _, rfl, iteF' rfl ⟨_, rfl, false, rfl, _, rfl, iteF' rfl ⟨_, rfl, _, _, rfl, hv0, _, rfl, iteF' rfl ⟨_, rfl, _, _, rfl, hv0, _, rfl, iteF' rfl q⟩⟩⟩⟩
    | rc ks vs =>
      simp only [VH] at hv
      obtain ⟨a, _, rfl, _⟩ := hv
      exact iteF' rfl ⟨_, rfl, true, rfl, _, rfl, iteF' rfl ⟨_, rfl, false, rfl, _, rfl, iteF' rfl ⟨_, rfl, _, _, rfl, hv0, _, rfl, iteF' rfl ⟨_, rfl, _, _, rfl, hv0, _, rfl, iteF' rfl q⟩⟩⟩⟩
    | act o n vs =>
      simp only [VH] at hv
      obtain ⟨a, _, _, rfl, _⟩ := hv
      exact iteF' rfl ⟨_, rfl, true, rfl, _, rfl, iteF' rfl ⟨_, rfl, false, rfl, _, rfl, iteF' rfl ⟨_, rfl, _, _, rfl, hv0, _, rfl, iteF' rfl ⟨_, rfl, _, _, rfl, hv0, _, rfl, iteF' rfl q⟩⟩⟩⟩
end
end VL

set_option Elab.async false
set_option linter.all false
set_option pp.maxSteps 500
set_option maxRecDepth 100000
set_option maxHeartbeats 4000000
namespace VL
open PySem PySem.Spec PyProof.Rows L2
theorem scal_T {H : Hp} {d : Val} {v : V} (h : VH H d v) (hw : wholeV d = false) {H' : Hp} : VT H' d v [] := by
  cases d with
  | nul => simp only [VH] at h; simp only [VT]; exact ⟨h, trivial⟩
  | bl b => simp only [VH] at h; simp only [VT]; exact ⟨h, trivial⟩
  | num i => simp only [VH] at h; simp only [VT]; exact ⟨h, trivial⟩
  | txt x => simp only [VH] at h; simp only [VT]; exact ⟨h, trivial⟩
  | _ => exact nomatch hw
theorem okV_mem5 {d : Val} (h : okV d 5) : okVs (partsV d) 5 := by
  have := (okV_partsM h).1
  exact okVs_mono _ (by decide) this
section
variable {P : Program} {w : World} {K : PySem.W.Frag} {mg : Str → Option Value} {base : Heap} {C : Ad}
theorem sc_copy_of : FnScope ["value", "part", "name"] ["value"] (defScope s_copy_of) := ⟨rfl, rfl, rfl, by decide +kernel, rfl, by decide +kernel, by decide +kernel⟩
theorem copy_S (T : Txt K w mg C) {m k : Nat} {sp : Sp} (hsp : ∀ j, j + 1 = m → sp = spCopyV j) (Gcopy_of : Cal P w K mg base k "copy_of" sp) : Cal P w K mg base (k + 1) "copy_of" (spCopyV m) := by
  refine cal_of T.d_copy_of sc_copy_of (fun vs H Q E h => ?_) (fun f cdv A outer s H vs Q E hr h => ?_)
  · obtain ⟨v, d, G, M, rfl, _⟩ := h
    rfl
  · obtain ⟨v, d, G0, M, rfl, S, hv, hok, hc, q⟩ := h
    have hu := hu_of hr
    have big : 100000 < sizeLine := by decide
    have ty := ty_V (K := K) (hv.same S.s)
    have o5 := okV_mem5 hok
    have pl := (okV_partsM hok).2
    have q0 : wholeV d = false → Q v H := fun hw => q v [] G0 H S (Same.refl _) (scal_T hv hw) List.nodup_nil (fun a h => nomatch h)
    refine ⟨_, (pss_cons (ps_if (pt_val (pe_callB call_isi (by rfl) T.z_isinstance (by decide +kernel) (pa_cons (pv 0) (pa_cons (pe_bltn (v := .ty "list") (by rfl) T.z_list (by decide +kernel) rfl) pa_nil)))) (pss_one (ps_ret (pe_lc (own := [("part", 1)]) (g := gName 1) (tt := tYes) rfl sc_copy_of.nd (pi_list (pv 0)) (blkOk_by (N := ["value", "part", "name"]) (sc := (defScope s_copy_of)) (by decide +kernel)) (fun _ _ _ _ _ => pg_name (i := 1) sc_copy_of.nd rfl (Or.inl rfl)) (fun _ _ _ _ _ => pts_nil) (fun _ _ _ _ _ => (pe_ifExp (PW.pt (pw_or (pt_val (pe_callB (call_isiS (K := K) rfl) (by rfl) T.z_isinstance (by decide +kernel) (pa_cons (pv 1) (pa_cons (pe_bltn (v := .ty "int") (by rfl) T.z_int (by decide +kernel) rfl) pa_nil)))) (pw_or (pt_val (pe_callB (call_isiS (K := K) rfl) (by rfl) T.z_isinstance (by decide +kernel) (pa_cons (pv 1) (pa_cons (pe_bltn (v := .ty "str") (by rfl) T.z_str (by decide +kernel) rfl) pa_nil)))) (pw_or1 (pt_cmp (pc_isN (pv 1))))))) (pv 1) (pe_c Gcopy_of hr (by omega) (by rfl) (pa_cons (pv 1) pa_nil))))))) pss_nil) (pss_cons (ps_if (pt_val (pe_callB call_isi (by rfl) T.z_isinstance (by decide +kernel) (pa_cons (pv 0) (pa_cons (pe_bltn (v := .ty "dict") (by rfl) T.z_dict (by decide +kernel) rfl) pa_nil)))) (pss_one (ps_ret (pe_lock (pe_dc (own := [("name", 2)]) (g := gName 2) (tt := tYes) rfl sc_copy_of.nd (pi_keys (pv 0)) (blkOk_by (N := ["value", "part", "name"]) (sc := (defScope s_copy_of)) (by decide +kernel)) (fun _ _ _ _ _ => pg_name (i := 2) sc_copy_of.nd rfl (Or.inl rfl)) (fun _ _ _ _ _ => pts_nil) (fun _ _ _ _ _ => (pv 2)) (fun _ _ _ _ _ => (pe_c Gcopy_of hr (by omega) (by rfl) (pa_cons (pe_dget hu (pv 0) (pv 2) (fun _ _ => rfl)) pa_nil))))))) pss_nil) (pss_cons (ps_if (pt_val (pe_callB call_isi (by rfl) T.z_isinstance (by decide +kernel) (pa_cons (pv 0) (pa_cons (pe_bltn (v := .ty "tuple") (by rfl) T.z_tuple (by decide +kernel) rfl) pa_nil)))) (pss_one (ps_ret (pe_tup (pa_cons (pe_ix ix_tup (pv 0) pe_int (fun _ _ => rfl)) (pa_cons (pe_ix ix_tup (pv 0) pe_int (fun _ _ => rfl)) (pa_cons (pe_ix ix_tup (pv 0) pe_int (fun _ _ => rfl)) (pa_cons (pe_c Gcopy_of hr (by omega) (by rfl) (pa_cons (pe_ix ix_tup (pv 0) pe_int (fun _ _ => rfl)) pa_nil)) pa_nil))))))) pss_nil) (pss_one (ps_ret (pv 0)))))), ?_⟩
    refine ⟨_, rfl, v, .ty "list", _, _, isL d, rfl, .ty _, ty, kit_ty (kL d), isL d, rfl, ?_⟩
    cases d with
    | lst vs =>
      obtain ⟨j, rfl⟩ : ∃ j, m = j + 1 := by simp only [cst] at hc; exact ⟨m - 1, by omega⟩
      have e := hsp j rfl
      subst e
      simp only [VH] at hv
      obtain ⟨a, xs, rfl, ha, hxs⟩ := hv
      have xl := hxs.len
      refine iteT' rfl ⟨_, rfl, a, rfl, ⟨_, SqL.of (S.s _ _ ha)⟩, fun D hD => ?_⟩
      have S0 := S.add (o := .lst []) hD
      refine lc_it (walk_list (K := K) (a := a) (xs := xs)) (fun i H' => ∃ (ys : List V) (A : List Addr) (G : Hp), Sb G H' ((D, .lst ys) :: M) ∧ Same G0 G ∧ VTs G (vs.take i) ys A ∧ A.Nodup ∧ ∀ b ∈ A, G0 b = none) ⟨[], [], G0, S0, Same.refl _, .nil, List.nodup_nil, fun b h => nomatch h⟩ (fun i H' _ z => by obtain ⟨ys, A, G, S', g, _⟩ := z; exact SqL.of (S'.s _ _ (g _ _ ha))) ?_ ?_
      · rintro i x H1 H2 hi ⟨ys, A, G, S1, g, py, nd, fr⟩ ⟨rfl, hx⟩
        obtain ⟨d, hd, hvx⟩ := hxs.get hx
        have tk : vs.take (i + 1) = vs.take i ++ [d] := by rw [List.take_add_one, hd]; rfl
        have yl := (VTs_vh _ _ _ py).1.len
        rw [List.length_take] at yl
        have vl : vs.length ≤ 4 := pl
        have tyx := ty_V (K := K) ((hvx.same g).same S1.s)
        have fin : ∀ (y : V) (B : List Addr) (G' : Hp) (H3 : Hp), Sb G' H3 ((D, .lst ys) :: M) → Same G G' → VT G' d y B → B.Nodup → (∀ b ∈ B, G b = none) → ∃ acc, H3 D = some (.lst acc) ∧ acc.length < sizeLine ∧ ∃ (ys : List V) (A : List Addr) (G : Hp), Sb G (upd H3 D (.lst (acc ++ [y]))) ((D, .lst ys) :: M) ∧ Same G0 G ∧ VTs G (vs.take (i + 1)) ys A ∧ A.Nodup ∧ ∀ b ∈ A, G0 b = none := by
          intro y B G' H3 S3 g3 vt nB fB
          refine ⟨ys, S3.hd, by omega, ys ++ [y], A ++ B, G', S3.put, Same.trans g g3, by rw [tk]; exact (py.same g3).snoc vt, ?_, ?_⟩
          · refine List.nodup_append.mpr ⟨nd, nB, fun b hb c hcc e => ?_⟩
            have h1 := (VTs_vh _ _ _ py).2 b hb
            rw [e, fB c hcc] at h1
            exact nomatch h1
          · intro b hb
            rcases List.mem_append.mp hb with hb | hb
            · exact fr b hb
            · cases e : G0 b with
              | none => rfl
              | some u =>
                have := fB b hb
                rw [g _ _ e] at this
                exact nomatch this
        have self : wholeV d = false → ∃ acc, H2 D = some (.lst acc) ∧ acc.length < sizeLine ∧ ∃ (ys : List V) (A : List Addr) (G : Hp), Sb G (upd H2 D (.lst (acc ++ [x]))) ((D, .lst ys) :: M) ∧ Same G0 G ∧ VTs G (vs.take (i + 1)) ys A ∧ A.Nodup ∧ ∀ b ∈ A, G0 b = none := fun hw => fin x [] G H2 S1 (Same.refl _) (scal_T hvx hw) List.nodup_nil (fun b h => nomatch h)
        refine ⟨rfl, ?_⟩
        refine ⟨_, rfl, x, .ty "int", _, _, isI d, rfl, .ty _, tyx, kit_ty (kI d), isI d, rfl, ?_⟩
        cases e1 : isI d with
        | true => exact iteT' rfl (iteT' rfl ⟨_, rfl, self (by cases d <;> first | rfl | (simp [isI] at e1; done))⟩)
        | false =>
          refine iteF' rfl ⟨_, rfl, x, .ty "str", _, _, isS d, rfl, .ty _, tyx, kit_ty (kS d), isS d, rfl, ?_⟩
          cases e2 : isS d with
          | true => exact iteT' rfl (iteT' rfl ⟨_, rfl, self (by cases d <;> first | rfl | (simp [isS] at e2; done))⟩)
          | false =>
            refine iteF' rfl ⟨_, rfl, isN d, by rw [is_non hvx], ?_⟩
            cases e3 : isN d with
            | true => exact iteT' rfl ⟨_, rfl, self (by cases d <;> first | rfl | (simp [isN] at e3; done))⟩
            | false =>
              refine iteF' rfl ⟨_, rfl, x, d, G, _, rfl, S1, hvx.same g, okVs_get o5 hd, ?_, fun y B G' H3 S3 g3 vt nB fB => fin y B G' H3 S3 g3 vt nB fB⟩
              have := cstL_mem (List.mem_of_getElem? hd)
              simp only [cst] at hc
              omega
      · rintro H1 ⟨ys, A, G, S1, g, py, nd, fr⟩
        rw [xl, List.take_length] at py
        obtain ⟨S2, g2⟩ := S1.drop
        have hGD : G D = none := (S1.m _ List.mem_cons_self).1
        refine q (.ref D) (D :: A) _ H1 S2 (Same.trans g g2) ?_ ?_ ?_
        · simp only [VT]
          exact ⟨D, ys, A, rfl, upd_same, py.same g2, rfl⟩
        · refine List.nodup_cons.mpr ⟨fun z => ?_, nd⟩
          have := (VTs_vh _ _ _ py).2 D z
          rw [hGD] at this
          exact nomatch this
        · intro b hb
          rcases List.mem_cons.mp hb with rfl | hb
          · cases e : G0 b with
            | none => rfl
            | some u => rw [g _ _ e] at hGD; exact nomatch hGD
          · exact fr b hb
    | rc ks vs =>
      obtain ⟨j, rfl⟩ : ∃ j, m = j + 1 := by simp only [cst] at hc; exact ⟨m - 1, by omega⟩
      have e := hsp j rfl
      subst e
      have hv0 := hv
      simp only [VH] at hv
      obtain ⟨a, kvs, rfl, ha, hks, knd, hxs⟩ := hv
      have xl := hxs.len
      rw [List.length_map] at xl
      have vl : vs.length ≤ 4 := pl
      have kl : kvs.length = ks.length := by have := congrArg List.length hks; simpa using this
      have nd0 : (kvs.map (·.1)).Nodup := by
        rw [hks]
        exact List.Pairwise.map _ (fun a b z q => z (Sum.inr.inj q)) knd
      refine iteF' rfl ⟨_, rfl, _, .ty "dict", _, _, _, rfl, .ty _, ty, kit_ty (kD _), _, rfl, iteT' rfl ⟨a, _, S.s _ _ ha, trivial, fun od => ?_⟩⟩
      have va := VHs_upd (o := .frz od (.dK kvs)) ha hv0 vs _ hxs (by simp only [depthV]; omega)
      have hlk : upd G0 a (.frz od (.dK kvs)) a = some (.frz od (.dK kvs)) := upd_same
      have SL := S.lock (u := .frz od (.dK kvs)) ha
      refine ⟨_, rfl, a, od, rfl, .inl ⟨_, upd_same, fun D hD => ?_⟩⟩
      have S0 := SL.add (o := .dK []) hD
      refine dc_itQ (walk_keys (d := a) (o := od) (kvs := kvs)) (fun i H' => ∃ (ys : List (Key × V)) (A : List Addr) (G : Hp), Sb G H' ((D, .dK ys) :: M) ∧ Same (upd G0 a (.frz od (.dK kvs))) G ∧ ys.map (·.1) = (ks.take i).map Sum.inr ∧ VTs G (vs.take i) (ys.map (·.2)) A ∧ A.Nodup ∧ ∀ b ∈ A, upd G0 a (.frz od (.dK kvs)) b = none) ⟨[], [], _, S0, Same.refl _, rfl, .nil, List.nodup_nil, fun b h => nomatch h⟩ (fun i H' _ z => by obtain ⟨ys, A, G, S', g, _⟩ := z; exact S'.s _ _ (g _ _ hlk)) ?_ ?_
      · rintro i x H1 H2 hi ⟨ys, A, G, S1, g, ky, py, nd, fr⟩ ⟨rfl, k, v, hkv, rfl⟩
        obtain ⟨kx, rfl, hkx⟩ := walk_kn hks hkv
        have hv' : (kvs.map (·.2))[i]? = some v := by rw [List.getElem?_map, hkv]; rfl
        obtain ⟨d, hd, hvx⟩ := va.get hv'
        have tk : vs.take (i + 1) = vs.take i ++ [d] := by rw [List.take_add_one, hd]; rfl
        have tk2 : ks.take (i + 1) = ks.take i ++ [kx] := by rw [List.take_add_one, hkx]; rfl
        have yl : ys.length ≤ ks.length := by
          have := congrArg List.length ky
          rw [List.length_map, List.length_map, List.length_take] at this
          omega
        have gv : valV kvs (.inr kx) = some v := valV_nd nd0 hkv
        have knew : valV ys (.inr kx) = none := valV_out (by
          rw [ky]
          intro hm
          obtain ⟨x', hx', e'⟩ := List.mem_map.mp hm
          cases e'
          have nd2 := knd.sublist (List.take_sublist (i + 1) ks)
          rw [tk2] at nd2
          exact (List.nodup_append.mp nd2).2.2 _ hx' _ List.mem_cons_self rfl)
        refine ⟨rfl, ?_⟩
        refine ⟨_, rfl, _, rfl, _, rfl, a, v, rfl, .inl ⟨kvs, .inr kx, .inr ⟨od, S1.s _ _ (g _ _ hlk)⟩, rfl, gv.symm⟩, v, d, G, _, rfl, S1, hvx.same g, okVs_get o5 hd, ?_, fun y B G' H3 S3 g3 vt nB fB => ?_⟩
        · have := cstL_mem (List.mem_of_getElem? hd)
          simp only [cst] at hc
          omega
        · refine ⟨ys, .inr kx, rfl, S3.hd, by omega, ys ++ [(.inr kx, y)], A ++ B, G', by rw [putK_nw knew]; exact S3.put, Same.trans g g3, by rw [tk2, List.map_append, List.map_append, ky]; rfl, by rw [tk, List.map_append]; exact (py.same g3).snoc vt, ?_, ?_⟩
          · refine List.nodup_append.mpr ⟨nd, nB, fun b hb c hcc e => ?_⟩
            have h1 := (VTs_vh _ _ _ py).2 b hb
            rw [e, fB c hcc] at h1
            exact nomatch h1
          · intro b hb
            rcases List.mem_append.mp hb with hb | hb
            · exact fr b hb
            · cases e : upd G0 a (.frz od (.dK kvs)) b with
              | none => rfl
              | some u =>
                have := fB b hb
                rw [g _ _ e] at this
                exact nomatch this
      · rintro H1 ⟨ys, A, G, S1, g, ky, py, nd, fr⟩
        rw [kl, List.take_length] at ky
        rw [xl, List.take_length] at py
        have hGD : G D = none := (S1.m _ List.mem_cons_self).1
        have hGa : G a = some (.frz od (.dK kvs)) := g _ _ hlk
        refine ⟨S1.s _ _ hGa, ?_⟩
        obtain ⟨S2, g2⟩ := S1.drop
        have Da : D ≠ a := fun z => by rw [z, hGa] at hGD; exact nomatch hGD
        have S3 := S2.lock (u := .dK kvs) (g2 _ _ hGa)
        have kp := Kp.frz (o := .dK kvs) (g2 _ _ hGa)
        refine q (.ref D) (D :: A) _ _ S3 (unlock ha (Same.trans g g2)) ?_ ?_ ?_
        · simp only [VT]
          exact ⟨D, ys, A, rfl, by rw [upd_ne Da]; exact upd_same, ky, knd, VTs_kp kp _ _ _ (py.same g2), rfl⟩
        · refine List.nodup_cons.mpr ⟨fun z => ?_, nd⟩
          have := (VTs_vh _ _ _ py).2 D z
          rw [hGD] at this
          exact nomatch this
        · intro b hb
          have fin : ∀ b, upd G0 a (.frz od (.dK kvs)) b = none → G0 b = none := fun b hb => by
            by_cases z : b = a
            · rw [z, upd_same] at hb; exact nomatch hb
            · rw [upd_ne z] at hb; exact hb
          rcases List.mem_cons.mp hb with rfl | hb
          · refine fin _ ?_
            cases e : upd G0 a (.frz od (.dK kvs)) b with
            | none => rfl
            | some u => rw [g _ _ e] at hGD; exact nomatch hGD
          · exact fin b (fr b hb)
    | act o n vs =>
      obtain ⟨j, rfl⟩ : ∃ j, m = j + 1 := by simp only [cst] at hc; exact ⟨m - 1, by omega⟩
      have e := hsp j rfl
      subst e
      simp only [VH] at hv
      obtain ⟨a, l, xs, rfl, h1, h2, h3⟩ := hv
      refine iteF' rfl ⟨_, rfl, _, .ty "dict", _, _, _, rfl, .ty _, ty, kit_ty (kD _), _, rfl, iteF' rfl ⟨_, rfl, _, .ty "tuple", _, _, _, rfl, .ty _, ty, kit_ty (kA _), _, rfl, iteT' rfl ?_⟩⟩
      have tp := SqT.of (K := K) (S.s _ _ h1)
      refine ⟨_, rfl, a, _, _, _, rfl, rfl, tp, at_0, _, rfl, a, _, _, _, rfl, rfl, tp, at_1, _, rfl, a, _, _, _, rfl, rfl, tp, at_2, _, rfl, a, _, _, _, rfl, rfl, tp, at_3, .ref l, .lst vs, G0, M, rfl, S, by simp only [VH]; exact ⟨l, xs, rfl, h2, h3⟩, ?_, ?_, fun y A G' H' S' g' vt nd fr => ?_⟩
      · simp only [okV] at hok ⊢
        obtain ⟨k', e, _, _, p1, p2⟩ := hok
        exact ⟨k', e, p1, p2⟩
      · simp only [cst] at hc ⊢
        omega
      · simp only [VT] at vt
        obtain ⟨l', ys, B, rfl, g1, g2, rfl⟩ := vt
        refine ⟨by show 4 ≤ sizeLine; decide, fun p hp => ?_⟩
        have S2 := S'.alloc (o := .tup [.str "act", .int o, .str n, .ref l']) hp
        have gg := S'.grow (o := .tup [.str "act", .int o, .str n, .ref l']) hp
        refine q (.ref p) (l' :: B) _ _ S2 (Same.trans g' gg) ?_ nd fr
        simp only [VT]
        exact ⟨p, l', ys, B, rfl, upd_same, gg _ _ g1, g2.same gg, rfl⟩
    | _ => exact iteF' rfl ⟨_, rfl, v, .ty "dict", _, _, _, rfl, .ty _, ty, kit_ty (kD _), _, rfl, iteF' rfl ⟨_, rfl, v, .ty "tuple", _, _, _, rfl, .ty _, ty, kit_ty (kA _), _, rfl, iteF' rfl ⟨_, rfl, q0 rfl⟩⟩⟩
theorem copy_0 (T : Txt K w mg C) {k : Nat} : Cal P w K mg base (k + 1) "copy_of" spFalse := cal_of T.d_copy_of sc_copy_of (fun vs H Q E h => h.elim) (fun f cdv A outer s H vs Q E hr h => h.elim)
theorem copy_N (T : Txt K w mg C) : ∀ m : Nat, Cal P w K mg base (m + 2) "copy_of" (spCopyV m)
  | 0 => copy_S T (sp := spFalse) (fun m h => by omega) (copy_0 T)
  | m + 1 => copy_S T (sp := spCopyV m) (fun j h => by rw [show j = m by omega]) (copy_N T m)
theorem sc_copied : FnScope ["value"] ["value"] (defScope s_copied) := ⟨rfl, rfl, rfl, by decide +kernel, rfl, by decide +kernel, by decide +kernel⟩
theorem ok_copied (T : Txt K w mg C) : Cal P w K mg base 13 "copied" (spCopyV 10) := by
  have Gcopy_of := copy_N (P := P) (base := base) T 10
  refine cal_of T.d_copied sc_copied (fun vs H Q E h => ?_) (fun f cdv A outer s H vs Q E hr h => ?_)
  · obtain ⟨v, d, G, M, rfl, _⟩ := h
    rfl
  · obtain ⟨v, d, G, M, rfl, h⟩ := h
    exact ⟨_, (pss_one (ps_ret (pe_c Gcopy_of hr (by decide) (by rfl) (pa_cons (pv 0) pa_nil)))), _, rfl, v, d, G, M, rfl, h⟩
end
end VL

set_option Elab.async false
set_option linter.all false
set_option pp.maxSteps 500
set_option maxRecDepth 100000
set_option maxHeartbeats 4000000
namespace VL
open PySem PySem.Spec PyProof.Rows L2
theorem map_int_atR {ns : List Int} {j : Int} (h0 : 0 ≤ j) (h1 : j < (ns.length : Int)) : ∃ z, atI (ns.map V.int) j = some (.int z) := by
  have hj : j.toNat < ns.length := by omega
  refine ⟨ns[j.toNat], ?_⟩
  unfold atI ixN
  rw [if_pos h0, if_pos (by rw [List.length_map]; exact h1)]
  show (ns.map V.int)[j.toNat]? = _
  rw [List.getElem?_map, List.getElem?_eq_getElem hj]
  rfl
/-! ### two cells beside each other -/
theorem log_ok {i : Int} (h0 : 0 ≤ i) (h1 : i < 10 ^ 30) : i.natAbs.log2 < 1920 := by
  have h2 : i.natAbs < 2 ^ 1920 := by
    have : i.natAbs < 10 ^ 30 := by omega
    exact Nat.lt_trans this (by decide)
  by_cases hz : i.natAbs = 0
  · rw [hz]; decide
  · exact (Nat.log2_lt hz).mpr h2
def spCell (K : PySem.W.Frag) : Sp := fun vs H Q _ => ∃ (a : Addr) (ns : List Int) (k : Nat), vs = [.ref a, .int (k : Int)] ∧ SqL K H a (ns.map V.int) ∧ ∀ c, Q (.int c) H
def spStart : Sp := fun vs H Q _ => ∃ c k : Int, vs = [.int c, .int k] ∧ ∀ p s, H p = none → Q (.ref p) (upd H p (.lst [.int s]))
def spDig : Sp := fun vs H Q _ => ∃ (sa : Addr) (s m : Int), vs = [.ref sa, .int m] ∧ H sa = some (.lst [.int s]) ∧ 0 < m ∧ m ≤ 2000 ∧ ∀ z s', 0 ≤ z → z < m → Q (.int z) (upd H sa (.lst [.int s']))
theorem atI_mem {α : Type} {xs : List α} {k : Int} (h0 : 0 ≤ k) (h1 : k < xs.length) : ∃ x, atI xs k = some x ∧ x ∈ xs := by
  obtain ⟨m, rfl⟩ := Int.eq_ofNat_of_zero_le h0
  refine ⟨xs[m]'(by omega), ?_, List.getElem_mem _⟩
  unfold atI ixN
  rw [if_pos h0, if_pos h1]
  show xs[(m : Int).toNat]? = _
  rw [Int.toNat_natCast, List.getElem?_eq_getElem]
def nuT : Int → List Nat
  | .ofNat n => TL.numL n
  | .negSucc n => 45 :: TL.numL (n + 1)
theorem nuT_TX (i : Int) : Str.ofString (toString i) = TX (nuT i) := by
  cases i with
  | ofNat n => exact TL.ext_tl (TL.tl_num n)
  | negSucc n =>
    have e : toString (Int.negSucc n) = "-" ++ toString ((n + 1 : Nat) : Int) := rfl
    have h := SX.num_S (n + 1)
    rw [PySem.Str.ofString_eq_toList] at h
    rw [e, PySem.Str.ofString_eq_toList, String.toList_append, List.map_append]
    have h2 : ((toString ((n + 1 : Nat) : Int)).toList.map Char.toNat) = TL.numL (n + 1) := by
      have := congrArg (fun s : Str => s.cps.toList) h
      simpa using this
    rw [h2]
    rfl
theorem numL_31 {n : Nat} (h : n < 10 ^ 31) : (TL.numL n).length ≤ 31 := by
  have := toString_length_le (v := (n : Int)) (k := 31) (by omega) (by decide) (by omega)
  have e : Str.ofString (toString ((n : Nat) : Int)) = TX (TL.numL n) := SX.num_S n
  have h2 : (Str.ofString (toString ((n : Nat) : Int))).length ≤ 31 := this
  rw [e, TX_len] at h2
  exact h2
theorem small_int {i : Int} (h0 : -(10 ^ 31) < i) (h1 : i < 10 ^ 31) : Small 60 0 (.int i) := by
  have hl := log_31 h0 h1
  refine ⟨by simpa [PyData.showable] using hl, Nat.le_refl _, ?_⟩
  show (Str.ofString (toString i)).length ≤ 60
  rw [nuT_TX, TX_len]
  cases i with
  | ofNat n =>
    have := numL_31 (n := n) (by have : Int.ofNat n = (n : Int) := rfl; omega)
    show (TL.numL n).length ≤ 60
    omega
  | negSucc n =>
    have := numL_31 (n := n + 1) (by have : Int.negSucc n = -((n : Int) + 1) := by omega
                                     omega)
    show (45 :: TL.numL (n + 1)).length ≤ 60
    rw [List.length_cons]
    omega
theorem ok_num {i : Int} {n : Nat} (h0 : -(10 ^ 31) < i) (h1 : i < 10 ^ 31) : okV (.num i) n := by
  simp only [okV]
  exact ⟨small_int h0 h1, h0, h1⟩
theorem small_tx {l : List Nat} (h : l.length ≤ 5) (hc : ∀ c ∈ l, c < 128) : Small 60 0 (.str (TX l)) := by
  refine ⟨rfl, Nat.le_refl _, ?_⟩
  have := fmt_piled [TX l] (fun y hy c hcc => by
    rw [List.mem_singleton] at hy
    subst hy
    rw [TX_tl] at hcc
    exact Nat.lt_trans (hc c hcc) (by decide))
  have e1 : fmtCost [TX l] = 10 * l.length + 4 := by rw [fmtCost_cons, TX_len]; rfl
  have e2 : piled ([TX l].map reprText) = (reprText (TX l)).length + 2 := by simp [piled]
  show (reprText (TX l)).length ≤ _
  omega
theorem ok_txt {l : List Nat} {n : Nat} (h : l.length ≤ 5) (hc : ∀ c ∈ l, c < 128) : okV (.txt (TX l)) n := by
  simp only [okV]
  exact ⟨small_tx h hc, by rw [TX_len]; exact h⟩
def spText : Sp := fun vs H Q _ => ∃ (sa : Addr) (s : Int) (G : Hp) (M : List (Addr × HO)), vs = [.ref sa] ∧ Sb G H ((sa, .lst [.int s]) :: M) ∧ ∀ x s' G' H', Sb G' H' ((sa, .lst [.int s']) :: M) → Same G G' → okV (.txt x) 0 → Q (.str x) H'
def spNumL : Sp := fun vs H Q _ => ∃ (sa : Addr) (s : Int) (G : Hp) (M : List (Addr × HO)), vs = [.ref sa] ∧ Sb G H ((sa, .lst [.int s]) :: M) ∧ ∀ i s' H', Sb G H' ((sa, .lst [.int s']) :: M) → okV (.num i) 0 → Q (.int i) H'
section
variable {P : Program} {w : World} {K : PySem.W.Frag} {mg : Str → Option Value} {base : Heap} {C : Ad}
theorem sc__law_cell : FnScope ["script", "k"] ["script", "k"] (defScope s__law_cell) := ⟨rfl, rfl, rfl, by decide +kernel, rfl, by decide +kernel, by decide +kernel⟩
theorem ok_cell (T : Txt K w mg C) : Cal P w K mg base 1 "_law_cell" (spCell K) := by
  refine cal_of T.d__law_cell sc__law_cell (fun vs H Q E h => ?_) (fun f cdv A outer s H vs Q E hr h => ?_)
  · obtain ⟨a, ns, k, rfl, _⟩ := h
    rfl
  · obtain ⟨a, ns, k, rfl, ha, q⟩ := h
    refine ⟨_, (pss_cons (ps_if (pt_cmpR op_lt (pv 1) (pe_callB call_len_seq (by rfl) T.z_len PySem.boot_len (pa_cons (pv 0) pa_nil)) (nomark _)) (pss_one (ps_ret (pe_ix ix_list (pv 0) (pv 1) (fun _ _ => rfl)))) pss_nil) (pss_one (ps_ret pe_int))), ?_⟩
    refine ⟨_, rfl, _, rfl, a, _, rfl, .inl ha, _, _, rfl, rfl, _, rfl, ite2 (fun c => ?_) (fun c => ?_)⟩
    · have := of_decide_eq_true c
      rw [List.length_map] at this
      obtain ⟨z, hz⟩ := map_int_atR (ns := ns) (j := (k : Int)) (by omega) (by omega)
      exact ⟨_, rfl, _, rfl, a, _, _, _, rfl, rfl, ha, hz, q z⟩
    · exact q 0
theorem sc__law_start : FnScope ["cell", "k", "prime", "mixed"] ["cell", "k"] (defScope s__law_start) := ⟨rfl, rfl, rfl, by decide +kernel, rfl, by decide +kernel, by decide +kernel⟩
theorem ok_start (T : Txt K w mg C) : Cal P w K mg base 1 "_law_start" spStart := by
  refine cal_of T.d__law_start sc__law_start (fun vs H Q E h => ?_) (fun f cdv A outer s H vs Q E hr h => ?_)
  · obtain ⟨c, k, rfl, _⟩ := h
    rfl
  · obtain ⟨c, k, rfl, q⟩ := h
    refine ⟨_, (pss_cons (ps_set (i := 2) sc__law_start.nd rfl (Or.inl rfl) pe_int) (pss_cons (ps_if (pt_chain op_lt op_lt (pe_un un_neg pe_int) (pv 0) pe_int) (pss_cons (ps_set (i := 3) sc__law_start.nd rfl (Or.inl rfl) (pe_op op_mod (pe_callTy call_int1 (by rfl) T.z_int (by decide +kernel) (pa_cons (pe_op op_add (pe_op op_mul (pv 0) pe_int) (pe_op op_mul (pe_op op_add (pv 1) pe_int) pe_int)) pa_nil)) (pv 2))) (pss_one (ps_ret (pe_lst (pa_cons (pe_op op_mod (pe_callTy call_int1 (by rfl) T.z_int (by decide +kernel) (pa_cons (pe_op op_add (pe_op op_add (pe_op op_mulW (pv 3) (pv 3)) (pe_op op_mul pe_int (pv 3))) (pv 1)) pa_nil)) (pv 2)) pa_nil))))) pss_nil) (pss_one (ps_ret (pe_lst (pa_cons (pe_callB call_abs (by rfl) T.z_abs (by decide +kernel) (pa_cons (pv 0) pa_nil)) pa_nil)))))), ?_⟩
    have p0 : (0 : Int) < 618970019642690137449562111 := by decide
    have small : ∀ σ : L2.St, σ[0]? = some (some (V.int c)) → tRet (tLst (tCons (tCB (fun xs H Q => ∃ i, xs = [V.int i] ∧ Q (V.int (if i < 0 then -i else i)) H) (tCons (tVar 0) tNil)) tNil)) { nx := fun _ H' => Q V.non H', rt := Q } σ H := fun σ e => ⟨_, e, _, rfl, by show 1 ≤ sizeLine; decide, fun p hp => q p _ hp⟩
    refine ⟨_, rfl, _, rfl, _, _, rfl, rfl, _, rfl, ite2 (fun c1 => ⟨_, _, rfl, rfl, _, rfl, ite2 (fun c2 => ?_) (fun c2 => small _ rfl)⟩) (fun c1 => ⟨_, rfl, iteF (small _ rfl)⟩)⟩
    refine ⟨_, rfl, _, _, rfl, rfl, .inr ⟨by decide, by decide⟩, _, rfl, _, _, rfl, rfl, _, _, rfl, rfl, .inr ⟨by decide, by decide⟩, _, _, rfl, rfl, .inl ⟨_, rfl, _, rfl, _, _, rfl, rfl, p0, ?_⟩⟩
    have x0 : 0 ≤ (c * 2654435761 + (k + 1) * 6700417) % 618970019642690137449562111 := Int.emod_nonneg _ (by decide)
    have x1 : (c * 2654435761 + (k + 1) * 6700417) % 618970019642690137449562111 < 618970019642690137449562111 := Int.emod_lt_of_pos _ (by decide)
    show gName 3 (V.int ((c * 2654435761 + (k + 1) * 6700417) % 618970019642690137449562111)) _ _ _
    generalize (c * 2654435761 + (k + 1) * 6700417) % 618970019642690137449562111 = mx at x0 x1 ⊢
    have lg := log_ok x0 (show mx < 10 ^ 30 by omega)
    exact ⟨_, rfl, _, rfl, _, _, rfl, rfl, (by show mx.natAbs.log2 + mx.natAbs.log2 < 1000000; omega), _, rfl, _, _, rfl, rfl, .inl ⟨by decide, by decide⟩, _, _, rfl, rfl, _, rfl, _, _, rfl, rfl, .inl ⟨_, rfl, _, rfl, _, _, rfl, rfl, p0, by show 1 ≤ sizeLine; decide, fun p hp => q p _ hp⟩⟩
theorem sc__law_digit : FnScope ["state", "many", "digit"] ["state", "many"] (defScope s__law_digit) := ⟨rfl, rfl, rfl, by decide +kernel, rfl, by decide +kernel, by decide +kernel⟩
theorem ok_dig (T : Txt K w mg C) : Cal P w K mg base 1 "_law_digit" spDig := by
  refine cal_of T.d__law_digit sc__law_digit (fun vs H Q E h => ?_) (fun f cdv A outer s H vs Q E hr h => ?_)
  · obtain ⟨sa, s, m, rfl, _⟩ := h
    rfl
  · obtain ⟨sa, s0, m, rfl, hs, m0, m1, q⟩ := h
    refine ⟨_, (pss_cons (ps_set (i := 2) sc__law_digit.nd rfl (Or.inl rfl) (pe_op op_mod (pe_callTy call_int1 (by rfl) T.z_int (by decide +kernel) (pa_cons (pe_ix ix_list (pv 0) pe_int (fun _ _ => rfl)) pa_nil)) (pv 1))) (pss_cons (ps_asg (pe_op op_fdiv (pe_ix ix_list (pv 0) pe_int (fun _ _ => rfl)) (pv 1)) (pg_sub (pv 0) pe_int set_list)) (pss_one (ps_ret (pv 2))))), ?_⟩
    refine ⟨_, rfl, sa, _, _, _, rfl, rfl, SqL.of hs, rfl, .inl ⟨_, rfl, _, rfl, _, _, rfl, rfl, m0, ?_⟩⟩
    refine ⟨_, rfl, sa, _, _, _, rfl, rfl, SqL.of hs, rfl, _, rfl, _, _, rfl, rfl, ⟨m0, by omega⟩, ?_⟩
    refine ⟨_, rfl, sa, _, _, 0, rfl, rfl, hs, rfl, ?_⟩
    exact ⟨_, rfl, q _ _ (Int.emod_nonneg _ (by omega)) (Int.emod_lt_of_pos _ m0)⟩
theorem sc__law_text : FnScope ["state", "many", "text", "k"] ["state"] (defScope s__law_text) := ⟨rfl, rfl, rfl, by decide +kernel, rfl, by decide +kernel, by decide +kernel⟩
theorem ok_ltext (T : Txt K w mg C) : Cal P w K mg base 2 "_law_text" spText := by
  have G_law_digit := ok_dig (P := P) (base := base) T
  refine cal_of T.d__law_text sc__law_text (fun vs H Q E h => ?_) (fun f cdv A outer s H vs Q E hr h => ?_)
  · obtain ⟨sa, s, G, M, rfl, _⟩ := h
    rfl
  · obtain ⟨sa, s0, G0, M, rfl, S, q⟩ := h
    have big : 100000 < sizeLine := by decide
    refine ⟨_, (pss_cons (ps_set (i := 1) sc__law_text.nd rfl (Or.inl rfl) (pe_ix ix_tup (pe_tup (pa_cons pe_int (pa_cons pe_int (pa_cons pe_int (pa_cons pe_int (pa_cons pe_int (pa_cons pe_int (pa_cons pe_int (pa_cons pe_int pa_nil))))))))) (pe_c G_law_digit hr (by decide) (by rfl) (pa_cons (pv 0) (pa_cons pe_int pa_nil))) (fun _ _ => rfl))) (pss_cons (ps_set (i := 2) sc__law_text.nd rfl (Or.inl rfl) pe_str) (pss_cons (ps_for PassesOwn.never rfl (pi_range1 (by rfl) T.z_range (pa_cons (pv 1) pa_nil)) (pg_name (i := 3) sc__law_text.nd rfl (Or.inl rfl)) (pss_one (ps_set (i := 2) sc__law_text.nd rfl (Or.inl rfl) (pe_op op_add_str (pv 2) (pe_ix ix_str pe_str (pe_c G_law_digit hr (by decide) (by rfl) (pa_cons (pv 0) (pa_cons pe_int pa_nil))) (fun _ _ => rfl)))))) (pss_one (ps_ret (pv 2)))))), ?_⟩
    refine ⟨by show 8 ≤ sizeLine; decide, fun t ht => ?_⟩
    have S1 := S.alloc (o := .tup [V.int 0, .int 1, .int 1, .int 2, .int 3, .int 5, .int 2, .int 1]) ht
    have g1 := S.grow (o := .tup [V.int 0, .int 1, .int 1, .int 2, .int 3, .int 5, .int 2, .int 1]) ht
    refine ⟨_, rfl, sa, s0, 8, rfl, S1.hd, by decide, by decide, fun z s' z0 z1 => ?_⟩
    have S2 := S1.put (u := .lst [.int s'])
    obtain ⟨c, hc, hm⟩ := atI_mem (xs := [V.int 0, .int 1, .int 1, .int 2, .int 3, .int 5, .int 2, .int 1]) z0 z1
    have ht2 := S2.s t _ (upd_same (o := HO.tup [V.int 0, .int 1, .int 1, .int 2, .int 3, .int 5, .int 2, .int 1]))
    obtain ⟨many, rfl, m5⟩ : ∃ m : Nat, c = V.int (m : Int) ∧ m ≤ 5 := by
      simp only [List.mem_cons, List.not_mem_nil, or_false] at hm
      rcases hm with rfl | rfl | rfl | rfl | rfl | rfl | rfl | rfl
      · exact ⟨0, rfl, by decide⟩
      · exact ⟨1, rfl, by decide⟩
      · exact ⟨1, rfl, by decide⟩
      · exact ⟨2, rfl, by decide⟩
      · exact ⟨3, rfl, by decide⟩
      · exact ⟨5, rfl, by decide⟩
      · exact ⟨2, rfl, by decide⟩
      · exact ⟨1, rfl, by decide⟩
    generalize upd G0 t (.tup [V.int 0, .int 1, .int 1, .int 2, .int 3, .int 5, .int 2, .int 1]) = G1 at S2 g1
    refine ⟨t, _, _, _, rfl, rfl, SqT.of ht2, hc, ?_⟩
    refine ⟨_, rfl, _, rfl, by omega, by omega, ?_⟩
    refine for_range (lo := 0) (n := many) (fun i σ H' => ∃ (s' : Int) (l : List Nat) (y3 : Option V), Sb G1 H' ((sa, .lst [.int s']) :: M) ∧ l.length = i ∧ (∀ c ∈ l, c < 128) ∧ σ = [some (.ref sa), some (.int (many : Int)), some (.str (TX l)), y3]) ⟨s', [], none, S2, rfl, (fun c h => nomatch h), rfl⟩ ?_ ?_
    · rintro i σ H3 hi ⟨s3, l, y3, S3, hl, hlc, rfl⟩
      refine ⟨_, rfl, _, rfl, sa, s3, 10, rfl, S3.hd, by decide, by decide, fun z s' z0 z1 => ?_⟩
      have S4 := S3.put (u := .lst [.int s'])
      obtain ⟨c, hc, hm⟩ := atI_mem (xs := ("ab01-9 z,\n" : Str).cps.toList) z0 z1
      have c128 : ∀ c ∈ ("ab01-9 z,\n" : Str).cps.toList, c < 128 := by decide +kernel
      refine ⟨_, z, c, rfl, rfl, by decide, hc, TX l, TX [c], rfl, rfl, ?_, ?_⟩
      · rw [TX_len, TX_len]
        show l.length + 1 ≤ sizeLine
        omega
      · have e := TX_cat l [c]
        rw [e]
        refine ⟨s', l ++ [c], _, S4, by rw [List.length_append, hl]; rfl, fun x hx => ?_, rfl⟩
        rcases List.mem_append.mp hx with hx | hx
        · exact hlc x hx
        · rw [List.mem_singleton.mp hx]
          exact c128 c hm
    · rintro σ H3 ⟨s3, l, y3, S3, hl, hlc, rfl⟩
      exact ⟨_, rfl, q (TX l) s3 G1 H3 S3 g1 (ok_txt (by omega) hlc)⟩
theorem sc__law_number : FnScope ["state", "choice", "great"] ["state"] (defScope s__law_number) := ⟨rfl, rfl, rfl, by decide +kernel, rfl, by decide +kernel, by decide +kernel⟩
theorem ok_lnum (T : Txt K w mg C) : Cal P w K mg base 2 "_law_number" spNumL := by
  have G_law_digit := ok_dig (P := P) (base := base) T
  refine cal_of T.d__law_number sc__law_number (fun vs H Q E h => ?_) (fun f cdv A outer s H vs Q E hr h => ?_)
  · obtain ⟨sa, s, G, M, rfl, _⟩ := h
    rfl
  · obtain ⟨sa, s0, G0, M, rfl, S, q⟩ := h
    refine ⟨_, (pss_cons (ps_set (i := 1) sc__law_number.nd rfl (Or.inl rfl) (pe_c G_law_digit hr (by decide) (by rfl) (pa_cons (pv 0) (pa_cons pe_int pa_nil)))) (pss_cons (ps_if (pt_cmpR op_lt (pv 1) pe_int (nomark _)) (pss_one (ps_ret (pe_op op_sub (pe_c G_law_digit hr (by decide) (by rfl) (pa_cons (pv 0) (pa_cons pe_int pa_nil))) pe_int))) pss_nil) (pss_cons (ps_if (pt_cmpR op_eq (pv 1) pe_int (nomark _)) (pss_one (ps_ret (pe_op op_sub (pe_c G_law_digit hr (by decide) (by rfl) (pa_cons (pv 0) (pa_cons pe_int pa_nil))) pe_int))) pss_nil) (pss_cons (ps_set (i := 2) sc__law_number.nd rfl (Or.inl rfl) (pe_op op_sub (pe_op op_pow pe_int pe_int) (pe_c G_law_digit hr (by decide) (by rfl) (pa_cons (pv 0) (pa_cons pe_int pa_nil))))) (pss_cons (ps_if (pt_cmpR op_eq (pv 1) pe_int (nomark _)) (pss_one (ps_ret (pv 2))) pss_nil) (pss_one (ps_ret (pe_op op_sub pe_int (pv 2))))))))), ?_⟩
    refine ⟨_, rfl, sa, s0, 8, rfl, S.hd, by decide, by decide, fun z s1 z0 z1 => ?_⟩
    have S1 := S.put (u := .lst [.int s1])
    refine ⟨_, rfl, _, _, rfl, rfl, _, rfl, ite2 (fun c => ?_) (fun c => ?_)⟩
    · refine ⟨_, rfl, sa, s1, 9, rfl, S1.hd, by decide, by decide, fun y s2 y0 y1 => ⟨_, _, rfl, rfl, ?_⟩⟩
      exact q _ s2 _ S1.put (ok_num (by omega) (by omega))
    · refine ⟨_, rfl, rfl, _, rfl, ite2 (fun c => ?_) (fun c => ?_)⟩
      · refine ⟨_, rfl, sa, s1, 2000, rfl, S1.hd, by decide, by decide, fun y s2 y0 y1 => ⟨_, _, rfl, rfl, ?_⟩⟩
        exact q _ s2 _ S1.put (ok_num (by omega) (by omega))
      · have e30 : ((10 : Int) ^ (30 : Int).toNat) = 10 ^ 30 := by decide
        refine ⟨_, _, rfl, rfl, ⟨by decide, by decide, by decide⟩, _, rfl, sa, s1, 3, rfl, S1.hd, by decide, by decide, fun y s2 y0 y1 => ⟨_, _, rfl, rfl, ?_⟩⟩
        refine ⟨_, rfl, rfl, _, rfl, ite2 (fun c => ?_) (fun c => ?_)⟩
        · refine ⟨_, rfl, ?_⟩
          rw [e30]
          exact q _ s2 _ S1.put (ok_num (by omega) (by omega))
        · refine ⟨_, rfl, _, _, rfl, rfl, ?_⟩
          rw [e30]
          exact q _ s2 _ S1.put (ok_num (by omega) (by omega))
end
end VL

set_option Elab.async false
set_option linter.all false
set_option pp.maxSteps 500
set_option maxRecDepth 100000
set_option maxHeartbeats 4000000
namespace VL
open PySem PySem.Spec PyProof.Rows L2
structure RcA (G : Hp) (n : Nat) (kvs : List (Key × V)) (ks : List Str) (vs : List Val) : Prop where
  k : kvs.map (·.1) = ks.map Sum.inr
  nd : ks.Nodup
  v : VHs G vs (kvs.map (·.2))
  ok : okVs vs n
  sm : ∀ x ∈ ks, Small 60 0 (.str x) ∧ x.length ≤ 5
theorem RcA.same {G G' : Hp} {n : Nat} {kvs : List (Key × V)} {ks : List Str} {vs : List Val} (h : RcA G n kvs ks vs) (s : Same G G') : RcA G' n kvs ks vs := ⟨h.k, h.nd, h.v.same s, h.ok, h.sm⟩
theorem RcA.len {G : Hp} {n : Nat} {kvs : List (Key × V)} {ks : List Str} {vs : List Val} (h : RcA G n kvs ks vs) : ks.length = vs.length ∧ kvs.length = vs.length := by
  have h1 := congrArg List.length h.k
  have h2 := h.v.len
  simp only [List.length_map] at h1 h2
  omega
theorem rc_put {G : Hp} {n : Nat} {k : Str} {v : V} {d : Val} (hv : VH G d v) (hok : okV d n) (hk : Small 60 0 (.str k) ∧ k.length ≤ 5) : ∀ {kvs : List (Key × V)} {ks : List Str} {vs : List Val}, RcA G n kvs ks vs → ∃ ks' vs', RcA G n (putK kvs (.inr k) v) ks' vs' ∧ vs'.length ≤ vs.length + 1 ∧ ∀ x ∈ ks', x = k ∨ x ∈ ks
  | [], ks, vs, h => by
    have e1 : ks = [] := by have := h.k; cases ks <;> simp at this ⊢
    have e2 : vs = [] := by have := h.len.1; rw [e1] at this; exact List.eq_nil_of_length_eq_zero this.symm
    subst e1 e2
    exact ⟨[k], [d], ⟨rfl, by simp, .cons hv .nil, by simp only [okVs]; exact ⟨hok, trivial⟩, fun x hx => by rw [List.mem_singleton.mp hx]; exact hk⟩, by simp, fun x hx => .inl (List.mem_singleton.mp hx)⟩
  | p :: kvs, ks, vs, h => by
    obtain ⟨h1, h2, h3, h4, h5⟩ := h
    cases ks with
    | nil => simp at h1
    | cons l ks =>
      simp only [List.map_cons, List.cons.injEq] at h1
      cases vs with
      | nil => simp [VHs] at h3
      | cons e vs =>
        simp only [VHs, List.map_cons, List.cons.injEq] at h3
        obtain ⟨y, ys, ⟨rfl, rfl⟩, g1, g2⟩ := h3
        simp only [okVs] at h4
        have nd := List.nodup_cons.mp h2
        by_cases z : l = k
        · subst z
          have tl : kvs.map (fun kv => if kv.1 = Sum.inr l then (kv.1, v) else kv) = kvs := by
            have : kvs.map (fun kv => if kv.1 = Sum.inr l then (kv.1, v) else kv) = kvs.map id := List.map_congr_left fun q hq => by
              have hm : q.1 ∈ kvs.map (·.1) := List.mem_map.mpr ⟨q, hq, rfl⟩
              rw [h1.2] at hm
              obtain ⟨x, hx, ex⟩ := List.mem_map.mp hm
              have ne : ¬ q.1 = Sum.inr l := fun z => nd.1 (by rw [← ex] at z; rw [← Sum.inr.inj z]; exact hx)
              rw [if_neg ne]
              rfl
            rw [this, List.map_id]
          have e : putK (p :: kvs) (.inr l) v = (p.1, v) :: kvs := by simp [putK, h1.1, tl]
          rw [e]
          refine ⟨l :: ks, d :: vs, ⟨?_, h2, ?_, ?_, h5⟩, by simp, fun x hx => .inr hx⟩
          · simp only [List.map_cons, h1.1, h1.2]
          · exact .cons hv g2
          · simp only [okVs]; exact ⟨hok, h4.2⟩
        · have e' : putK (p :: kvs) (.inr k) v = p :: putK kvs (.inr k) v := by
            have : ¬ p.1 = .inr k := by rw [h1.1]; exact fun q => z (Sum.inr.inj q)
            by_cases an : (kvs.any fun kv => decide (kv.1 = Sum.inr k)) = true <;> simp [putK, this, an]
          rw [e']
          obtain ⟨ks1, vs1, r, hl, hm⟩ := rc_put hv hok hk (kvs := kvs) (ks := ks) (vs := vs) ⟨h1.2, nd.2, g2, h4.2, fun x hx => h5 x (List.mem_cons_of_mem _ hx)⟩
          refine ⟨l :: ks1, e :: vs1, ⟨?_, ?_, ?_, ?_, ?_⟩, by simp only [List.length_cons]; omega, ?_⟩
          · simp only [List.map_cons, h1.1, r.k]
          · refine List.nodup_cons.mpr ⟨fun hx => ?_, r.nd⟩
            rcases hm l hx with q | q
            · exact z q
            · exact nd.1 q
          · exact .cons g1 r.v
          · simp only [okVs]; exact ⟨h4.1, r.ok⟩
          · intro x hx
            rcases List.mem_cons.mp hx with rfl | hx
            · exact h5 _ List.mem_cons_self
            · exact r.sm x hx
          · intro x hx
            rcases List.mem_cons.mp hx with rfl | hx
            · exact .inr List.mem_cons_self
            · rcases hm x hx with q | q
              · exact .inl q
              · exact .inr (List.mem_cons_of_mem _ q)
def spVal (n : Nat) : Sp := fun vs H Q _ => ∃ (sa : Addr) (s : Int) (G : Hp) (M : List (Addr × HO)), vs = [.ref sa, .int (n : Int)] ∧ Sb G H ((sa, .lst [.int s]) :: M) ∧ ∀ v d s' G' H', Sb G' H' ((sa, .lst [.int s']) :: M) → Same G G' → VH G' d v → okV d n → Q v H'
theorem wordS : ∀ x ∈ ([ "x", "y", "zz", "" ] : List Str), Small 60 0 (.str x) ∧ x.length ≤ 5 := fun x hx => by
  simp only [List.mem_cons, List.not_mem_nil, or_false] at hx
  rcases hx with rfl | rfl | rfl | rfl <;> exact ⟨⟨rfl, Nat.le_refl _, by decide +kernel⟩, by decide⟩
theorem wordA : ∀ x ∈ ([ "go", "stop2" ] : List Str), Small 60 0 (.str x) ∧ x.length ≤ 5 := fun x hx => by
  simp only [List.mem_cons, List.not_mem_nil, or_false] at hx
  rcases hx with rfl | rfl <;> exact ⟨⟨rfl, Nat.le_refl _, by decide +kernel⟩, by decide⟩
section
variable {P : Program} {w : World} {K : PySem.W.Frag} {mg : Str → Option Value} {base : Heap} {C : Ad}
theorem sc__law_value : FnScope ["state", "levels", "kind", "many", "k", "record", "owner", "name"] ["state", "levels"] (defScope s__law_value) := ⟨rfl, rfl, rfl, by decide +kernel, rfl, by decide +kernel, by decide +kernel⟩
theorem val_S (T : Txt K w mg C) {n k : Nat} {sp : Sp} (hk : 2 ≤ k) (hsp : ∀ m, m + 1 = n → sp = spVal m) (G_law_value : Cal P w K mg base k "_law_value" sp) : Cal P w K mg base (k + 1) "_law_value" (spVal n) := by
  have G_law_digit := ok_dig (P := P) (base := base) T
  have G_law_text := ok_ltext (P := P) (base := base) T
  have G_law_number := ok_lnum (P := P) (base := base) T
  refine cal_of T.d__law_value sc__law_value (fun vs H Q E h => ?_) (fun f cdv A outer s H vs Q E hr h => ?_)
  · obtain ⟨sa, s, G, M, rfl, _⟩ := h
    rfl
  · obtain ⟨sa, s0, G0, M, rfl, S, q⟩ := h
    have hu := hu_of hr
    have big : 100000 < sizeLine := by decide
    refine ⟨_, (pss_cons (ps_set (i := 2) sc__law_value.nd rfl (Or.inl rfl) (pe_c G_law_digit hr (by omega) (by rfl) (pa_cons (pv 0) (pa_cons pe_int pa_nil)))) (pss_cons (ps_if (pt_cmpR op_eq (pv 2) pe_int (nomark _)) (pss_one (ps_ret pe_non)) pss_nil) (pss_cons (ps_if (pt_cmpR op_eq (pv 2) pe_int (nomark _)) (pss_one (ps_ret (pe_cmpR op_eq (pe_c G_law_digit hr (by omega) (by rfl) (pa_cons (pv 0) (pa_cons pe_int pa_nil))) pe_int (nomark _)))) pss_nil) (pss_cons (ps_if (pt_cmpR op_lt (pv 2) pe_int (nomark _)) (pss_one (ps_ret (pe_c G_law_number hr (by omega) (by rfl) (pa_cons (pv 0) pa_nil)))) pss_nil) (pss_cons (ps_if (PW.pt (pw_or (pt_cmpR op_lt (pv 2) pe_int (nomark _)) (pw_or1 (pt_cmpR op_eq (pv 1) pe_int (nomark _))))) (pss_one (ps_ret (pe_c G_law_text hr (by omega) (by rfl) (pa_cons (pv 0) pa_nil)))) pss_nil) (pss_cons (ps_set (i := 3) sc__law_value.nd rfl (Or.inl rfl) (pe_c G_law_digit hr (by omega) (by rfl) (pa_cons (pv 0) (pa_cons pe_int pa_nil)))) (pss_cons (ps_if (pt_cmpR op_lt (pv 2) pe_int (nomark _)) (pss_one (ps_ret (pe_lc (own := [("k", 4)]) (g := gName 4) (tt := tYes) rfl sc__law_value.nd (pi_range1 (by rfl) T.z_range (pa_cons (pv 3) pa_nil)) (blkOk_by (N := ["state", "levels", "kind", "many", "k", "record", "owner", "name"]) (sc := (defScope s__law_value)) (by decide +kernel)) (fun _ _ _ _ _ => pg_name (i := 4) sc__law_value.nd rfl (Or.inl rfl)) (fun _ _ _ _ _ => pts_nil) (fun _ _ _ _ _ => (pe_c G_law_value hr (by omega) (by rfl) (pa_cons (pv 0) (pa_cons (pe_op op_sub (pv 1) pe_int) pa_nil))))))) pss_nil) (pss_cons (ps_if (pt_cmpR op_eq (pv 2) pe_int (nomark _)) (pss_cons (ps_set (i := 5) sc__law_value.nd rfl (Or.inl rfl) pe_dnewK) (pss_cons (ps_for PassesOwn.never rfl (pi_range1 (by rfl) T.z_range (pa_cons (pv 3) pa_nil)) (pg_name (i := 4) sc__law_value.nd rfl (Or.inl rfl)) (pss_one (ps_dput hu (pv 5) (pe_ix ix_tup (pe_tup (pa_cons pe_str (pa_cons pe_str (pa_cons pe_str (pa_cons pe_str pa_nil))))) (pe_c G_law_digit hr (by omega) (by rfl) (pa_cons (pv 0) (pa_cons pe_int pa_nil))) (fun _ _ => rfl)) (pe_c G_law_value hr (by omega) (by rfl) (pa_cons (pv 0) (pa_cons (pe_op op_sub (pv 1) pe_int) pa_nil))) rfl))) (pss_one (ps_ret (pv 5))))) pss_nil) (pss_cons (ps_set (i := 6) sc__law_value.nd rfl (Or.inl rfl) (pe_c G_law_digit hr (by omega) (by rfl) (pa_cons (pv 0) (pa_cons pe_int pa_nil)))) (pss_cons (ps_set (i := 7) sc__law_value.nd rfl (Or.inl rfl) (pe_ix ix_tup (pe_tup (pa_cons pe_str (pa_cons pe_str pa_nil))) (pe_c G_law_digit hr (by omega) (by rfl) (pa_cons (pv 0) (pa_cons pe_int pa_nil))) (fun _ _ => rfl))) (pss_one (ps_ret (pe_tup (pa_cons pe_str (pa_cons (pv 6) (pa_cons (pv 7) (pa_cons (pe_lc (own := [("k", 4)]) (g := gName 4) (tt := tYes) rfl sc__law_value.nd (pi_range1 (by rfl) T.z_range (pa_cons (pv 3) pa_nil)) (blkOk_by (N := ["state", "levels", "kind", "many", "k", "record", "owner", "name"]) (sc := (defScope s__law_value)) (by decide +kernel)) (fun _ _ _ _ _ => pg_name (i := 4) sc__law_value.nd rfl (Or.inl rfl)) (fun _ _ _ _ _ => pts_nil) (fun _ _ _ _ _ => (pe_c G_law_value hr (by omega) (by rfl) (pa_cons (pv 0) (pa_cons (pe_op op_sub (pv 1) pe_int) pa_nil))))) pa_nil))))))))))))))))), ?_⟩
    refine ⟨_, rfl, sa, s0, 10, rfl, S.hd, by decide, by decide, fun kd s1 k0 k1 => ?_⟩
    have S1 := S.put (u := .lst [.int s1])
    refine ⟨_, rfl, rfl, _, rfl, ite2 (fun c => ?_) (fun c0 => ?_)⟩
    · exact q .non .nul s1 G0 _ S1 (Same.refl _) (by simp only [VH]) (by simp only [okV])
    refine ⟨_, rfl, rfl, _, rfl, ite2 (fun c => ?_) (fun c1 => ?_)⟩
    · refine ⟨_, rfl, sa, s1, 2, rfl, S1.hd, by decide, by decide, fun y s2 y0 y1 => ⟨rfl, ?_⟩⟩
      exact q _ (.bl (decide (V.int y = V.int 1))) s2 G0 _ S1.put (Same.refl _) (by simp only [VH]) (by simp only [okV])
    refine ⟨_, rfl, _, _, rfl, rfl, _, rfl, ite2 (fun c => ?_) (fun c2 => ?_)⟩
    · exact ⟨_, rfl, sa, s1, G0, M, rfl, S1, fun i s2 H2 S2 hi => q _ (.num i) s2 G0 _ S2 (Same.refl _) (by simp only [VH]) (okV_mono _ (Nat.zero_le _) hi)⟩
    have txt : tRet (tCall spText [] E0 (tCons (tVar 0) tNil)) { nx := fun x H' => Q V.non H', rt := Q } [some (.ref sa), some (.int (n : Int)), some (.int kd), none, none, none, none, none] (upd H sa (.lst [.int s1])) := ⟨_, rfl, sa, s1, G0, M, rfl, S1, fun x s2 G2 H2 S2 g2 hi => q _ (.txt x) s2 G2 _ S2 g2 (by simp only [VH]) (okV_mono _ (Nat.zero_le _) hi)⟩
    refine ⟨_, rfl, _, _, rfl, rfl, _, rfl, ite2 (fun c => ?_) (fun c3 => ?_)⟩
    · exact txt
    refine ⟨_, rfl, rfl, _, rfl, ite2 (fun c => ?_) (fun c4 => ?_)⟩
    · exact txt
    obtain ⟨m, rfl⟩ : ∃ m, n = m + 1 := by
      refine ⟨n - 1, ?_⟩
      have : ¬ (n : Int) = 0 := fun z => c4 (by simp [z])
      omega
    have e := hsp m rfl
    subst e
    have em : ((m + 1 : Nat) : Int) - 1 = (m : Int) := by omega
    refine ⟨_, rfl, sa, s1, 4, rfl, S1.hd, by decide, by decide, fun my s2 m0 m1 => ?_⟩
    have S2 := S1.put (u := .lst [.int s2])
    obtain ⟨many, rfl⟩ := Int.eq_ofNat_of_zero_le m0
    generalize upd (upd H sa (.lst [.int s1])) sa (.lst [.int s2]) = H2 at S2 ⊢
    refine ⟨_, rfl, _, _, rfl, rfl, _, rfl, ite2 (fun c => ?_) (fun c5 => ?_)⟩
    · refine ⟨_, rfl, _, rfl, by omega, by omega, fun D hD => ?_⟩
      have S3 := S2.add (o := .lst []) hD
      refine lc_it (walk_range (lo := 0) (n := many)) (fun i H' => ∃ (s' : Int) (ys : List V) (vs : List Val) (G : Hp), Sb G H' ((D, .lst ys) :: (sa, .lst [.int s']) :: M) ∧ Same G0 G ∧ VHs G vs ys ∧ okVs vs m ∧ vs.length = i) ⟨s2, [], [], G0, S3, Same.refl _, .nil, by simp only [okVs], rfl⟩ (fun _ _ _ _ => trivial) ?_ ?_
      · rintro i x H3 H4 hi ⟨s', ys, vs, G, S4, g, hv, hok, hl⟩ ⟨rfl, rfl⟩
        have yl := hv.len
        refine ⟨rfl, _, rfl, _, rfl, _, _, rfl, rfl, sa, s', G, (D, .lst ys) :: M, by show [V.ref sa, V.int (((m + 1 : Nat) : Int) - 1)] = _; rw [em], S4.swap, fun v d s2 G5 H5 S5 g5 hvd hd => ?_⟩
        exact ⟨ys, S5.hd2, by omega, s2, ys ++ [v], vs ++ [d], G5, S5.put2.swap, Same.trans g g5, (hv.same g5).snoc hvd, okVs_app.mpr ⟨hok, by simp only [okVs]; exact ⟨hd, trivial⟩⟩, by rw [List.length_append, hl]; rfl⟩
      · rintro H3 ⟨s', ys, vs, G, S4, g, hv, hok, hl⟩
        obtain ⟨S5, g5⟩ := S4.drop
        refine q (.ref D) (.lst vs) s' _ H3 S5 (Same.trans g g5) ?_ ?_
        · simp only [VH]
          exact ⟨D, ys, rfl, upd_same, hv.same g5⟩
        · simp only [okV]
          exact ⟨m, rfl, by omega, hok⟩
    refine ⟨_, rfl, rfl, _, rfl, ite2 (fun c => ?_) (fun c6 => ?_)⟩
    · refine fun D hD => ?_
      have S3 := S2.add (o := .dK []) hD
      refine ⟨_, rfl, _, rfl, by omega, by omega, ?_⟩
      refine for_range (lo := 0) (n := many) (fun i σ H' => ∃ (s' : Int) (kvs : List (Key × V)) (ks : List Str) (vs : List Val) (G : Hp) (y4 : Option V), Sb G H' ((D, .dK kvs) :: (sa, .lst [.int s']) :: M) ∧ Same G0 G ∧ RcA G m kvs ks vs ∧ vs.length ≤ i ∧ σ = [some (.ref sa), some (.int ((m + 1 : Nat) : Int)), some (.int kd), some (.int (many : Int)), y4, some (.ref D), none, none]) ⟨s2, [], [], [], G0, none, S3, Same.refl _, ⟨rfl, List.nodup_nil, .nil, by simp only [okVs], fun x h => nomatch h⟩, Nat.le_refl _, rfl⟩ ?_ ?_
      · rintro i σ H3 hi ⟨s', kvs, ks, vs, G, y4, S4, g, hR, hl, rfl⟩
        have vl := hR.len
        refine ⟨_, rfl, _, rfl, _, _, rfl, rfl, sa, s', G, (D, .dK kvs) :: M, by show [V.ref sa, V.int (((m + 1 : Nat) : Int) - 1)] = _; rw [em], S4.swap, fun v d s5 G5 H5 S5 g5 hvd hd => ?_⟩
        refine ⟨_, rfl, ?_⟩
        refine ⟨by show 4 ≤ sizeLine; decide, fun t ht => ?_⟩
        have S6 := S5.alloc (o := .tup [V.str "x", .str "y", .str "zz", .str ""]) ht
        have g6 := S5.grow (o := .tup [V.str "x", .str "y", .str "zz", .str ""]) ht
        refine ⟨_, rfl, sa, s5, 4, rfl, S6.hd, by decide, by decide, fun z s6 z0 z1 => ?_⟩
        have S7 := S6.put (u := .lst [.int s6])
        obtain ⟨c, hc, hm⟩ := atI_mem (xs := [V.str "x", .str "y", .str "zz", .str ""]) z0 z1
        have ht2 := S7.s t _ (upd_same (o := HO.tup [V.str "x", .str "y", .str "zz", .str ""]))
        obtain ⟨x, rfl, hx⟩ : ∃ x, c = V.str x ∧ x ∈ (["x", "y", "zz", ""] : List Str) := by
          simp only [List.mem_cons, List.not_mem_nil, or_false] at hm
          rcases hm with rfl | rfl | rfl | rfl <;> exact ⟨_, rfl, by decide⟩
        obtain ⟨ks', vs', hR', hl', _⟩ := rc_put (hvd.same g6) hd (wordS x hx) (hR.same (Same.trans g5 g6))
        refine ⟨t, _, _, _, rfl, rfl, SqT.of ht2, hc, ?_⟩
        refine ⟨D, _, rfl, DPut.k (k := .inr x) S7.hd2 (by omega), s6, _, ks', vs', _, _, S7.put2.swap, Same.trans g (Same.trans g5 g6), hR', by omega, rfl⟩
      · rintro σ H3 ⟨s', kvs, ks, vs, G, y4, S4, g, hR, hl, rfl⟩
        obtain ⟨S5, g5⟩ := S4.drop
        have hR5 := hR.same g5
        refine ⟨_, rfl, q (.ref D) (.rc ks vs) s' _ H3 S5 (Same.trans g g5) ?_ ?_⟩
        · simp only [VH]
          exact ⟨D, kvs, rfl, upd_same, hR5.k, hR5.nd, hR5.v⟩
        · simp only [okV]
          exact ⟨m, rfl, by omega, hR.len.1, hR.nd, hR.sm, hR.ok⟩
    refine ⟨_, rfl, sa, s2, 3, rfl, S2.hd, by decide, by decide, fun ow s3 o0 o1 => ?_⟩
    have S3 := S2.put (u := .lst [.int s3])
    refine ⟨by show 2 ≤ sizeLine; decide, fun t ht => ?_⟩
    have S4 := S3.alloc (o := .tup [V.str "go", .str "stop2"]) ht
    have g4 := S3.grow (o := .tup [V.str "go", .str "stop2"]) ht
    refine ⟨_, rfl, sa, s3, 2, rfl, S4.hd, by decide, by decide, fun z s4 z0 z1 => ?_⟩
    have S5 := S4.put (u := .lst [.int s4])
    obtain ⟨c, hc, hm⟩ := atI_mem (xs := [V.str "go", .str "stop2"]) z0 z1
    have ht2 := S5.s t _ (upd_same (o := HO.tup [V.str "go", .str "stop2"]))
    obtain ⟨x, rfl, hx⟩ : ∃ x, c = V.str x ∧ x ∈ (["go", "stop2"] : List Str) := by
      simp only [List.mem_cons, List.not_mem_nil, or_false] at hm
      rcases hm with rfl | rfl <;> exact ⟨_, rfl, by decide⟩
    generalize upd G0 t (.tup [V.str "go", .str "stop2"]) = G1 at S5 g4
    refine ⟨t, _, _, _, rfl, rfl, SqT.of ht2, hc, ?_⟩
    generalize upd (upd (upd H2 sa (.lst [.int s3])) t (.tup [V.str "go", .str "stop2"])) sa (.lst [.int s4]) = H5 at S5 ⊢
    refine ⟨_, rfl, _, rfl, ?_⟩
    refine ⟨_, rfl, _, rfl, by omega, by omega, fun D hD => ?_⟩
    have S3 := S5.add (o := .lst []) hD
    refine lc_it (walk_range (lo := 0) (n := many)) (fun i H' => ∃ (s' : Int) (ys : List V) (vs : List Val) (G : Hp), Sb G H' ((D, .lst ys) :: (sa, .lst [.int s']) :: M) ∧ Same G1 G ∧ VHs G vs ys ∧ okVs vs m ∧ vs.length = i) ⟨s4, [], [], G1, S3, Same.refl _, .nil, by simp only [okVs], rfl⟩ (fun _ _ _ _ => trivial) ?_ ?_
    · rintro i x H3 H4 hi ⟨s', ys, vs, G, S4, g, hv, hok, hl⟩ ⟨rfl, rfl⟩
      have yl := hv.len
      refine ⟨rfl, _, rfl, _, rfl, _, _, rfl, rfl, sa, s', G, (D, .lst ys) :: M, by show [V.ref sa, V.int (((m + 1 : Nat) : Int) - 1)] = _; rw [em], S4.swap, fun v d s2 G5 H5 S5 g5 hvd hd => ?_⟩
      exact ⟨ys, S5.hd2, by omega, s2, ys ++ [v], vs ++ [d], G5, S5.put2.swap, Same.trans g g5, (hv.same g5).snoc hvd, okVs_app.mpr ⟨hok, by simp only [okVs]; exact ⟨hd, trivial⟩⟩, by rw [List.length_append, hl]; rfl⟩
    · rintro H3 ⟨s', ys, vs, G, S4, g, hv, hok, hl⟩
      obtain ⟨S5, g5⟩ := S4.drop
      refine ⟨by show 4 ≤ sizeLine; decide, fun p hp => ?_⟩
      have S6 := S5.alloc (o := .tup [.str "act", .int ow, .str x, .ref D]) hp
      have g6 := S5.grow (o := .tup [.str "act", .int ow, .str x, .ref D]) hp
      refine q (.ref p) (.act ow x vs) s' _ _ S6 (Same.trans g4 (Same.trans g (Same.trans g5 g6))) ?_ ?_
      · simp only [VH]
        exact ⟨p, D, ys, rfl, upd_same, g6 _ _ upd_same, hv.same (Same.trans g5 g6)⟩
      · simp only [okV]
        exact ⟨m, rfl, small_int (by omega) (by omega), wordA x hx, by omega, hok⟩
theorem val_0 (T : Txt K w mg C) {k : Nat} : Cal P w K mg base (k + 1) "_law_value" spFalse := cal_of T.d__law_value sc__law_value (fun vs H Q E h => h.elim) (fun f cdv A outer s H vs Q E hr h => h.elim)
theorem val_N (T : Txt K w mg C) : ∀ n : Nat, Cal P w K mg base (n + 3) "_law_value" (spVal n)
  | 0 => val_S T (sp := spFalse) (by decide) (fun m h => by omega) (val_0 T)
  | n + 1 => val_S T (sp := spVal n) (by omega) (fun j h => by rw [show j = n by omega]) (val_N T n)
end
end VL

set_option Elab.async false
set_option linter.all false
set_option pp.maxSteps 500
set_option maxRecDepth 100000
set_option maxHeartbeats 4000000
namespace VL
open PySem PySem.Spec PyProof.Rows L2
theorem eqv_strs : ∀ a b : List Str, PyData.eqv (.list (a.map PyData.str)) (.list (b.map PyData.str)) = decide (a = b) := by
  have h : ∀ a b : List Str, PyData.eqvAll (a.map PyData.str) (b.map PyData.str) = decide (a = b) := by
    intro a
    induction a with
    | nil =>
      intro b
      cases b with
      | nil => rfl
      | cons y b => show false = decide (([] : List Str) = y :: b); simp
    | cons x a ih =>
      intro b
      cases b with
      | nil => show false = decide (x :: a = ([] : List Str)); simp
      | cons y b =>
        show ((x == y) && PyData.eqvAll (a.map PyData.str) (b.map PyData.str)) = decide (x :: a = y :: b)
        rw [ih b]
        by_cases e : x = y
        · subst e
          by_cases e2 : a = b <;> simp [e2]
        · have : (x == y) = false := by simpa using e
          rw [this]
          simp [e]
  exact fun a b => h a b
theorem ltCps_iff : ∀ a b : List Nat, ltCps a b = true ↔ a < b
  | [], [] => by simp [ltCps]
  | [], y :: b => by simp [ltCps]
  | x :: a, [] => by simp [ltCps]
  | x :: a, y :: b => by
    have ih := ltCps_iff a b
    rw [List.cons_lt_cons_iff]
    simp only [ltCps, Bool.or_eq_true, Bool.and_eq_true, decide_eq_true_eq, beq_iff_eq, ih]
def leS (x y : Str) : Prop := x.cps.toList ≤ y.cps.toList
theorem leS_trans {x y z : Str} (h : leS x y) (g : leS y z) : leS x z := List.le_trans h g
theorem leS_anti {x y : Str} (h : leS x y) (g : leS y x) : x = y := by
  have e : x.cps.toList = y.cps.toList := List.le_antisymm h g
  obtain ⟨⟨a⟩⟩ := x
  obtain ⟨⟨b⟩⟩ := y
  have e : a = b := e
  rw [e]
theorem rising_pw : ∀ (x : Str) (r : List Str), risingS x r = true → (x :: r).Pairwise leS
  | x, [], h => List.pairwise_singleton _ _
  | x, y :: r, h => by
    have h' : (!ltCps y.cps.toList x.cps.toList && risingS y r) = true := h
    simp only [Bool.and_eq_true, Bool.not_eq_true'] at h'
    have ih := rising_pw y r h'.2
    have le : leS x y := by
      refine List.not_lt.mp fun z => ?_
      rw [(ltCps_iff _ _).mpr z] at h'
      exact nomatch h'.1
    refine List.pairwise_cons.mpr ⟨fun z hz => ?_, ih⟩
    rcases List.mem_cons.mp hz with rfl | hz
    · exact le
    · exact leS_trans le ((List.pairwise_cons.mp ih).1 z hz)
theorem sorted_pw {l : List Str} (h : sortedS l = true) : l.Pairwise leS := by
  cases l with
  | nil => exact List.Pairwise.nil
  | cons x r => exact rising_pw x r h
theorem sorted_one : ∀ {l m : List Str}, l.Pairwise leS → m.Pairwise leS → l.Perm m → l = m
  | [], m, _, _, h => h.nil_eq
  | x :: l, [], _, _, h => absurd h.length_eq (by simp)
  | x :: l, y :: m, hl, hm, h => by
    have hl' := List.pairwise_cons.mp hl
    have hm' := List.pairwise_cons.mp hm
    have e : x = y := by
      rcases List.mem_cons.mp (h.mem_iff.mp (List.mem_cons_self (a := x) (l := l))) with e | hx
      · exact e
      · rcases List.mem_cons.mp (h.mem_iff.mpr (List.mem_cons_self (a := y) (l := m))) with e | hy
        · exact e.symm
        · exact leS_anti (hl'.1 _ hy) (hm'.1 _ hx)
    subst e
    rw [sorted_one hl'.2 hm'.2 h.cons_inv]
def kindN : Val → Str
  | .nul => "null"
  | .bl _ => "boolean"
  | .num _ => "number"
  | .txt _ => "text"
  | .lst _ => "list"
  | .rc _ _ => "record"
  | .act _ _ _ => "act"
def spKind : Sp := fun vs H Q _ => ∃ (v : V) (d : Val), vs = [v] ∧ VR H d v ∧ Q (.str (kindN d)) H
def MemX (G : Hp) (d : Val) (v : V) (xs : List V) : Prop := match d with
  | .lst _ => ∃ a, v = .ref a ∧ G a = some (.lst xs)
  | .rc _ _ => ∃ a kvs, v = .ref a ∧ G a = some (.dK kvs) ∧ xs = kvs.map (·.2)
  | .act _ _ _ => ∃ a l x y z, v = .ref a ∧ G a = some (.tup [x, y, z, .ref l]) ∧ G l = some (.lst xs)
  | _ => xs = []
def RowR (G : Hp) (d : Val) (v : V) (r : Addr) : Prop := match d with
  | .lst _ => v = .ref r
  | .act _ _ _ => ∃ a x y z, v = .ref a ∧ G a = some (.tup [x, y, z, .ref r])
  | _ => G r = none
def PzOk (d : Val) : Prop := match d with
  | .rc ks vs => ks.length = vs.length ∧ vs.length ≤ 100
  | _ => True
theorem pz_ok {d : Val} {n : Nat} (h : okV d n) : PzOk d := by
  cases d with
  | rc ks vs =>
    simp only [okV] at h
    obtain ⟨m, _, h1, h2, _⟩ := h
    exact ⟨h2, by omega⟩
  | _ => trivial
def spParts : Sp := fun vs H Q _ => ∃ (v : V) (d : Val) (G : Hp) (M : List (Addr × HO)), vs = [v] ∧ Sb G H M ∧ VH G d v ∧ PzOk d ∧ ∀ r xs G' H', Sb G' H' M → Same G G' → G' r = some (.lst xs) → MemX G d v xs → RowR G d v r → VHs G' (partsV d) xs → Q (.ref r) H'
section
variable {P : Program} {w : World} {K : PySem.W.Frag} {mg : Str → Option Value} {base : Heap} {C : Ad}
theorem sc__law_kind : FnScope ["value"] ["value"] (defScope s__law_kind) := ⟨rfl, rfl, rfl, by decide +kernel, rfl, by decide +kernel, by decide +kernel⟩
theorem ok_kind (T : Txt K w mg C) : Cal P w K mg base 1 "_law_kind" spKind := by
  refine cal_of T.d__law_kind sc__law_kind (fun vs H Q E h => ?_) (fun f cdv A outer s H vs Q E hr h => ?_)
  · obtain ⟨v, d, rfl, _⟩ := h
    rfl
  · obtain ⟨v, d, rfl, hv, q⟩ := h
    have ty := ty_R (K := K) hv
    have nn := is_nonR hv
    refine ⟨_, (pss_cons (ps_if (pt_cmp (pc_isN (pv 0))) (pss_one (ps_ret pe_str)) pss_nil) (pss_cons (ps_if (pt_val (pe_callB call_isi (by rfl) T.z_isinstance (by decide +kernel) (pa_cons (pv 0) (pa_cons (pe_bltn (v := .ty "bool") (by rfl) T.z_bool (by decide +kernel) rfl) pa_nil)))) (pss_one (ps_ret pe_str)) pss_nil) (pss_cons (ps_if (pt_val (pe_callB call_isi (by rfl) T.z_isinstance (by decide +kernel) (pa_cons (pv 0) (pa_cons (pe_bltn (v := .ty "int") (by rfl) T.z_int (by decide +kernel) rfl) pa_nil)))) (pss_one (ps_ret pe_str)) pss_nil) (pss_cons (ps_if (pt_val (pe_callB call_isi (by rfl) T.z_isinstance (by decide +kernel) (pa_cons (pv 0) (pa_cons (pe_bltn (v := .ty "str") (by rfl) T.z_str (by decide +kernel) rfl) pa_nil)))) (pss_one (ps_ret pe_str)) pss_nil) (pss_cons (ps_if (pt_val (pe_callB call_isi (by rfl) T.z_isinstance (by decide +kernel) (pa_cons (pv 0) (pa_cons (pe_bltn (v := .ty "list") (by rfl) T.z_list (by decide +kernel) rfl) pa_nil)))) (pss_one (ps_ret pe_str)) pss_nil) (pss_cons (ps_if (pt_val (pe_callB call_isi (by rfl) T.z_isinstance (by decide +kernel) (pa_cons (pv 0) (pa_cons (pe_bltn (v := .ty "dict") (by rfl) T.z_dict (by decide +kernel) rfl) pa_nil)))) (pss_one (ps_ret pe_str)) pss_nil) (pss_cons (ps_if (PW.pt (pw_and (pt_val (pe_callB call_isi (by rfl) T.z_isinstance (by decide +kernel) (pa_cons (pv 0) (pa_cons (pe_bltn (v := .ty "tuple") (by rfl) T.z_tuple (by decide +kernel) rfl) pa_nil)))) (pw_and (pt_cmpR op_eq (pe_callB call_len_seq (by rfl) T.z_len PySem.boot_len (pa_cons (pv 0) pa_nil)) pe_int (nomark _)) (pw_and1 (pt_cmpR op_eq (pe_ix ix_tup (pv 0) pe_int (fun _ _ => rfl)) pe_str (nomark _)))))) (pss_one (ps_ret pe_str)) pss_nil) (pss_one (ps_ret pe_str))))))))), ?_⟩
    refine ⟨_, rfl, isN d, by rw [nn], ?_⟩
    cases d with
    | nul => exact iteT' rfl q
    | bl b => exact iteF' rfl ⟨_, rfl, v, .ty "bool", _, _, _, rfl, .ty _, ty, kit_ty (kB _), _, rfl, iteT' rfl q⟩
    | num i => exact iteF' rfl ⟨_, rfl, v, .ty "bool", _, _, _, rfl, .ty _, ty, kit_ty (kB _), _, rfl, iteF' rfl ⟨_, rfl, v, .ty "int", _, _, _, rfl, .ty _, ty, kit_ty (kI _), _, rfl, iteT' rfl q⟩⟩
    | txt x => exact iteF' rfl ⟨_, rfl, v, .ty "bool", _, _, _, rfl, .ty _, ty, kit_ty (kB _), _, rfl, iteF' rfl ⟨_, rfl, v, .ty "int", _, _, _, rfl, .ty _, ty, kit_ty (kI _), _, rfl, iteF' rfl ⟨_, rfl, v, .ty "str", _, _, _, rfl, .ty _, ty, kit_ty (kS _), _, rfl, iteT' rfl q⟩⟩⟩
    | lst vs => exact iteF' rfl ⟨_, rfl, v, .ty "bool", _, _, _, rfl, .ty _, ty, kit_ty (kB _), _, rfl, iteF' rfl ⟨_, rfl, v, .ty "int", _, _, _, rfl, .ty _, ty, kit_ty (kI _), _, rfl, iteF' rfl ⟨_, rfl, v, .ty "str", _, _, _, rfl, .ty _, ty, kit_ty (kS _), _, rfl, iteF' rfl ⟨_, rfl, v, .ty "list", _, _, _, rfl, .ty _, ty, kit_ty (kL _), _, rfl, iteT' rfl q⟩⟩⟩⟩
    | rc ks vs => exact iteF' rfl ⟨_, rfl, v, .ty "bool", _, _, _, rfl, .ty _, ty, kit_ty (kB _), _, rfl, iteF' rfl ⟨_, rfl, v, .ty "int", _, _, _, rfl, .ty _, ty, kit_ty (kI _), _, rfl, iteF' rfl ⟨_, rfl, v, .ty "str", _, _, _, rfl, .ty _, ty, kit_ty (kS _), _, rfl, iteF' rfl ⟨_, rfl, v, .ty "list", _, _, _, rfl, .ty _, ty, kit_ty (kL _), _, rfl, iteF' rfl ⟨_, rfl, v, .ty "dict", _, _, _, rfl, .ty _, ty, kit_ty (kD _), _, rfl, iteT' rfl q⟩⟩⟩⟩⟩
    | act o n vs =>
      refine iteF' rfl ⟨_, rfl, v, .ty "bool", _, _, _, rfl, .ty _, ty, kit_ty (kB _), _, rfl, iteF' rfl ⟨_, rfl, v, .ty "int", _, _, _, rfl, .ty _, ty, kit_ty (kI _), _, rfl, iteF' rfl ⟨_, rfl, v, .ty "str", _, _, _, rfl, .ty _, ty, kit_ty (kS _), _, rfl, iteF' rfl ⟨_, rfl, v, .ty "list", _, _, _, rfl, .ty _, ty, kit_ty (kL _), _, rfl, iteF' rfl ⟨_, rfl, v, .ty "dict", _, _, _, rfl, .ty _, ty, kit_ty (kD _), _, rfl, iteF' rfl ⟨_, rfl, v, .ty "tuple", _, _, _, rfl, .ty _, ty, kit_ty (kA _), _, rfl, iteT' rfl ?_⟩⟩⟩⟩⟩⟩
      simp only [VR] at hv
      obtain ⟨a, l, xs, rfl, h1, h2, h3⟩ := hv
      have tp := SqT.of (K := K) h1
      refine ⟨_, rfl, a, _, rfl, .inr tp, rfl, _, rfl, iteT' rfl ⟨_, rfl, a, _, _, _, rfl, rfl, tp, at_0, rfl, _, rfl, iteT' rfl q⟩⟩
theorem sc__law_parts : FnScope ["value", "kind", "name"] ["value"] (defScope s__law_parts) := ⟨rfl, rfl, rfl, by decide +kernel, rfl, by decide +kernel, by decide +kernel⟩
theorem ok_parts (T : Txt K w mg C) : Cal P w K mg base 2 "_law_parts" spParts := by
  have G_law_kind := ok_kind (P := P) (base := base) T
  refine cal_of T.d__law_parts sc__law_parts (fun vs H Q E h => ?_) (fun f cdv A outer s H vs Q E hr h => ?_)
  · obtain ⟨v, d, G, M, rfl, _⟩ := h
    rfl
  · obtain ⟨v, d, G, M, rfl, S, hv, hok, q⟩ := h
    have hu := hu_of hr
    refine ⟨_, (pss_cons (ps_set (i := 1) sc__law_parts.nd rfl (Or.inl rfl) (pe_c G_law_kind hr (by decide) (by rfl) (pa_cons (pv 0) pa_nil))) (pss_cons (ps_if (pt_cmpR op_eq (pv 1) pe_str (nomark _)) (pss_one (ps_ret (pv 0))) pss_nil) (pss_cons (ps_if (pt_cmpR op_eq (pv 1) pe_str (nomark _)) (pss_one (ps_ret (pe_lock (pe_lc (own := [("name", 2)]) (g := gName 2) (tt := tYes) rfl sc__law_parts.nd (pi_keys (pv 0)) (blkOk_by (N := ["value", "kind", "name"]) (sc := (defScope s__law_parts)) (by decide +kernel)) (fun _ _ _ _ _ => pg_name (i := 2) sc__law_parts.nd rfl (Or.inl rfl)) (fun _ _ _ _ _ => pts_nil) (fun _ _ _ _ _ => (pe_dget hu (pv 0) (pv 2) (fun _ _ => rfl))))))) pss_nil) (pss_cons (ps_if (pt_cmpR op_eq (pv 1) pe_str (nomark _)) (pss_one (ps_ret (pe_ix ix_tup (pv 0) pe_int (fun _ _ => rfl)))) pss_nil) (pss_one (ps_ret (pe_lst pa_nil))))))), ?_⟩
    refine ⟨_, rfl, v, d, rfl, (hv.same S.s).vr, ?_⟩
    have new : ∀ (H' : Hp), H' = H → wholeV d = false → partsV d = [] → ∀ l, H' l = none → Q (.ref l) (upd H' l (.lst [])) := by
      rintro H' rfl hw hp l hl
      have gn := S.gnone hl
      refine q l [] _ _ (S.alloc hl) (S.grow hl) upd_same ?_ ?_ (by rw [hp]; exact .nil)
      · cases d <;> first | exact rfl | exact nomatch hw
      · cases d <;> first | exact gn | exact nomatch hw
    cases d with
    | lst vs =>
      simp only [VH] at hv
      obtain ⟨a, xs, rfl, h1, h2⟩ := hv
      refine ⟨_, rfl, rfl, _, rfl, iteT' rfl ?_⟩
      exact ⟨_, rfl, q a xs G H S (Same.refl _) h1 ⟨a, rfl, h1⟩ rfl h2⟩
    | rc ks vs =>
      refine ⟨_, rfl, rfl, _, rfl, iteF' rfl ⟨_, rfl, rfl, _, rfl, iteT' rfl ?_⟩⟩
      simp only [VH] at hv
      obtain ⟨a, kvs, rfl, ha, hks, knd, hxs⟩ := hv
      have kl : kvs.length = ks.length := by have := congrArg List.length hks; simpa using this
      have nd0 : (kvs.map (·.1)).Nodup := by
        rw [hks]
        exact List.Pairwise.map _ (fun a b z q => z (Sum.inr.inj q)) knd
      obtain ⟨kl2, vl⟩ := hok
      have big : 100000 < sizeLine := by decide
      refine ⟨a, _, S.s _ _ ha, trivial, fun od => ?_⟩
      have hlk : upd H a (.frz od (.dK kvs)) a = some (.frz od (.dK kvs)) := upd_same
      refine ⟨_, rfl, a, od, rfl, .inl ⟨_, hlk, fun D hD => ?_⟩⟩
      have hDa : D ≠ a := fun z => by rw [z, upd_same] at hD; cases hD
      refine lc_it (walk_keys (d := a) (o := od) (kvs := kvs)) (fun i H' => Same (upd H a (.frz od (.dK kvs))) H' ∧ H' D = some (.lst ((kvs.take i).map (·.2)))) ⟨Sm.new hD, upd_same⟩ (fun i H' _ z => z.1 _ _ hlk) ?_ ?_
      · rintro i x H1 H2 hi ⟨s1, h1⟩ ⟨rfl, k, v, hkv, rfl⟩
        obtain ⟨kx, rfl, hkx⟩ := walk_kn hks hkv
        have gv : valV kvs (.inr kx) = some v := valV_nd nd0 hkv
        have tk2 : kvs.take (i + 1) = kvs.take i ++ [(.inr kx, v)] := by rw [List.take_add_one, hkv]; rfl
        refine ⟨rfl, _, rfl, _, rfl, a, v, rfl, .inl ⟨kvs, .inr kx, .inr ⟨od, s1 _ _ hlk⟩, rfl, gv.symm⟩, _, h1, by rw [List.length_map, List.length_take]; omega, ?_, by rw [upd_same, tk2, List.map_append]; rfl⟩
        intro b o eb
        have : b ≠ D := fun z => by rw [z] at eb; rw [hD] at eb; cases eb
        rw [upd_ne this]
        exact s1 _ _ eb
      · rintro H1 ⟨s1, h1⟩
        rw [List.take_length] at h1
        refine ⟨s1 _ _ hlk, ?_⟩
        have s2 := unlock (S.s _ _ ha) s1
        have hHD : H D = none := by rw [upd_ne hDa] at hD; exact hD
        have gD := joinH_r S.s (H' := upd H1 a (.dK kvs)) _ _ (newer_mk hHD (by rw [upd_ne hDa]; exact h1))
        exact q D _ _ _ (S.call s2) joinH_l gD ⟨a, kvs, rfl, ha, rfl⟩ (S.gnone hHD) (hxs.same joinH_l)
    | act o n vs =>
      refine ⟨_, rfl, rfl, _, rfl, iteF' rfl ⟨_, rfl, rfl, _, rfl, iteF' rfl ⟨_, rfl, rfl, _, rfl, iteT' rfl ?_⟩⟩⟩
      simp only [VH] at hv
      obtain ⟨a, l, xs, rfl, h1, h2, h3⟩ := hv
      exact ⟨_, rfl, a, _, _, _, rfl, rfl, SqT.of (S.s _ _ h1), at_3, q l xs G H S (Same.refl _) h2 ⟨a, l, _, _, _, rfl, h1, h2⟩ ⟨a, _, _, _, rfl, h1⟩ h3⟩
    | _ => exact ⟨_, rfl, rfl, _, rfl, iteF' rfl ⟨_, rfl, rfl, _, rfl, iteF' rfl ⟨_, rfl, rfl, _, rfl, iteF' rfl ⟨by show 0 ≤ sizeLine; decide, new H rfl rfl rfl⟩⟩⟩⟩
end
end VL

set_option Elab.async false
set_option linter.all false
set_option pp.maxSteps 500
set_option maxRecDepth 100000
set_option maxHeartbeats 4000000
namespace VL
open PySem PySem.Spec PyProof.Rows L2
def spLD (n : Nat) : Sp := fun vs H Q _ => ∃ (v : V) (d : Val) (G : Hp) (M : List (Addr × HO)), vs = [v] ∧ Sb G H M ∧ VH G d v ∧ okV d n ∧ n ≤ 5 ∧ ∀ G' H', Sb G' H' M → Same G G' → Q (.int (depthV d : Int)) H'
def spLZ (n : Nat) : Sp := fun vs H Q _ => ∃ (v : V) (d : Val) (G : Hp) (M : List (Addr × HO)), vs = [v] ∧ Sb G H M ∧ VH G d v ∧ okV d n ∧ n ≤ 5 ∧ ∀ G' H', Sb G' H' M → Same G G' → Q (.int (sizeV d : Int)) H'
section
variable {P : Program} {w : World} {K : PySem.W.Frag} {mg : Str → Option Value} {base : Heap} {C : Ad}
theorem sc__law_depth : FnScope ["value", "part"] ["value"] (defScope s__law_depth) := ⟨rfl, rfl, rfl, by decide +kernel, rfl, by decide +kernel, by decide +kernel⟩
theorem ld_S (T : Txt K w mg C) {n k : Nat} {sp : Sp} (hk : 2 ≤ k) (hsp : ∀ m, m + 1 = n → sp = spLD m) (G_law_depth : Cal P w K mg base k "_law_depth" sp) : Cal P w K mg base (k + 1) "_law_depth" (spLD n) := by
  have G_law_kind := ok_kind (P := P) (base := base) T
  have G_law_parts := ok_parts (P := P) (base := base) T
  refine cal_of T.d__law_depth sc__law_depth (fun vs H Q E h => ?_) (fun f cdv A outer s H vs Q E hr h => ?_)
  · obtain ⟨v, d, G, M, rfl, _⟩ := h
    rfl
  · obtain ⟨v, d, G0, M, rfl, S, hv, hok, hn, q⟩ := h
    have big : 100000 < sizeLine := by decide
    refine ⟨_, (pss_cons (ps_if (pt_cmpR op_notIn_seq (pe_c G_law_kind hr (by omega) (by rfl) (pa_cons (pv 0) pa_nil)) (pe_tup (pa_cons pe_str (pa_cons pe_str (pa_cons pe_str pa_nil)))) rfl) (pss_one (ps_ret pe_int)) pss_nil) (pss_one (ps_ret (pe_op op_add pe_int (pe_callB (cr_max rfl) (by rfl) T.z_max (by decide +kernel) (pa_cons (pe_op op_cat (pe_lst (pa_cons pe_int pa_nil)) (pe_lc (own := [("part", 1)]) (g := gName 1) (tt := tYes) rfl sc__law_depth.nd (pi_list (pe_c G_law_parts hr (by omega) (by rfl) (pa_cons (pv 0) pa_nil))) (blkOk_by (N := ["value", "part"]) (sc := (defScope s__law_depth)) (by decide +kernel)) (fun _ _ _ _ _ => pg_name (i := 1) sc__law_depth.nd rfl (Or.inl rfl)) (fun _ _ _ _ _ => pts_nil) (fun _ _ _ _ _ => (pe_c G_law_depth hr (by omega) (by rfl) (pa_cons (pv 1) pa_nil))))) pa_nil)))))), ?_⟩
    refine ⟨_, rfl, v, d, rfl, (hv.same S.s).vr, ?_⟩
    refine ⟨by show 3 ≤ sizeLine; decide, fun t ht => ?_⟩
    have S1 := S.alloc (o := .tup [V.str "list", .str "record", .str "act"]) ht
    have g1 := S.grow (o := .tup [V.str "list", .str "record", .str "act"]) ht
    have ht2 := S1.s t _ (upd_same (o := HO.tup [V.str "list", .str "record", .str "act"]))
    refine ⟨t, _, rfl, .inr (SqT.of ht2), rfl, rfl, _, rfl, ?_⟩
    cases hw : wholeV d with
    | false =>
      refine iteT' (by cases d <;> first | rfl | exact nomatch hw) ?_
      have : depthV d = 1 := by cases d <;> first | rfl | exact nomatch hw
      have z := q _ _ S1 g1
      rw [this] at z
      exact z
    | true =>
      refine iteF' (by cases d <;> first | rfl | exact nomatch hw) ?_
      obtain ⟨m, rfl⟩ : ∃ m, n = m + 1 := by
        cases n with
        | zero => rw [okV_parts0 hok] at hw; exact nomatch hw
        | succ m => exact ⟨m, rfl⟩
      have e := hsp m rfl
      subst e
      obtain ⟨pk, pl⟩ := okV_parts hok
      refine ⟨by show 1 ≤ sizeLine; decide, fun z0 hz0 => ?_⟩
      have S2 := S1.alloc (o := .lst [.int 0]) hz0
      have g2 := S1.grow (o := .lst [.int 0]) hz0
      refine ⟨_, rfl, v, d, _, M, rfl, S2, hv.same (Same.trans g1 g2), pz_ok hok, fun r xs G3 H3 S3 g3 hr _ _ hxs => ?_⟩
      refine ⟨r, rfl, ⟨_, SqL.of (S3.s _ _ hr)⟩, fun D hD => ?_⟩
      have S4 := S3.add (o := .lst []) hD
      have xl := hxs.len
      refine lc_it (walk_list (K := K) (a := r) (xs := xs)) (fun i H' => ∃ (ns : List Int) (G : Hp), Sb G H' ((D, .lst (ns.map V.int)) :: M) ∧ Same G3 G ∧ ns = ((partsV d).take i).map fun e => (depthV e : Int)) ⟨[], G3, S4, Same.refl _, rfl⟩ (fun i H' _ z => by obtain ⟨ns, G, S', g, _⟩ := z; exact SqL.of (S'.s _ _ (g _ _ hr))) ?_ ?_
      · rintro i x H5 H6 hi ⟨ns, G, S5, g, hns⟩ ⟨rfl, hx⟩
        obtain ⟨e, he, hve⟩ := hxs.get hx
        have tk : (partsV d).take (i + 1) = (partsV d).take i ++ [e] := by rw [List.take_add_one, he]; rfl
        have nl := congrArg List.length hns
        rw [List.length_map, List.length_take] at nl
        refine ⟨rfl, _, rfl, x, e, G, _, rfl, S5, hve.same g, okVs_get pk he, by omega, fun G7 H7 S7 g7 => ?_⟩
        exact ⟨_, S7.hd, by rw [List.length_map]; omega, ns ++ [(depthV e : Int)], G7, by rw [List.map_append]; exact S7.put, Same.trans g g7, by rw [hns, tk, List.map_append]; rfl⟩
      · rintro H5 ⟨ns, G, S5, g, hns⟩
        rw [xl, List.take_length] at hns
        have nl := congrArg List.length hns
        rw [List.length_map] at nl
        have hz0' := S5.s _ _ (g _ _ (g3 _ _ (upd_same (H := upd G0 t (.tup [V.str "list", .str "record", .str "act"])) (a := z0) (o := HO.lst [V.int 0]))))
        refine ⟨z0, D, [.int 0], ns.map V.int, rfl, rfl, hz0', S5.hd, by rw [List.length_map]; simp; omega, fun c hc => ?_⟩
        obtain ⟨S6, g6⟩ := S5.drop
        have S7 := S6.alloc (o := .lst ([.int 0] ++ ns.map V.int)) hc
        have g7 := S6.grow (o := .lst ([.int 0] ++ ns.map V.int)) hc
        refine ⟨c, 0 :: ns, rfl, SqL.of upd_same, by simp, fun mx hm hle => ⟨_, _, rfl, rfl, ?_⟩⟩
        have em : mx = (depthL (partsV d) : Int) := by
          refine Int.le_antisymm ?_ ?_
          · rcases List.mem_cons.mp hm with rfl | hm
            · omega
            · rw [hns] at hm
              obtain ⟨e, he, rfl⟩ := List.mem_map.mp hm
              have := depthL_mem he
              omega
          · have all : ∀ ds : List Val, (∀ e ∈ ds, (depthV e : Int) ≤ mx) → 0 ≤ mx → (depthL ds : Int) ≤ mx := by
              intro ds
              induction ds with
              | nil => intro _ h0; simpa [depthL] using h0
              | cons e ds ih =>
                intro h1 h0
                have a := h1 e List.mem_cons_self
                have b := ih (fun x hx => h1 x (List.mem_cons_of_mem _ hx)) h0
                simp only [depthL]
                omega
            refine all _ (fun e he => hle _ (List.mem_cons_of_mem _ ?_)) (hle 0 List.mem_cons_self)
            rw [hns]
            exact List.mem_map.mpr ⟨e, he, rfl⟩
        have z := q _ _ S7 (Same.trans g1 (Same.trans g2 (Same.trans g3 (Same.trans g (Same.trans g6 g7)))))
        rw [depthV_eq] at z
        rw [em]
        exact z
end
end VL

set_option Elab.async false
set_option linter.all false
set_option pp.maxSteps 500
set_option maxRecDepth 100000
set_option maxHeartbeats 4000000
namespace VL
open PySem PySem.Spec PyProof.Rows L2
theorem join_len0 (ys : List Str) : (Txt.join (TX []) ys).length = (ys.map (·.length)).sum := by
  have e : ys = (ys.map fun y => y.cps.toList).map TX := by
    rw [List.map_map]
    conv => lhs; rw [← List.map_id ys]
    exact List.map_congr_left fun y _ => by
      obtain ⟨⟨a⟩⟩ := y
      rfl
  have h : (Txt.join (TX []) ys) = TX (ys.map fun y => y.cps.toList).flatten := by
    conv => lhs; rw [e]
    exact join_TX _
  rw [h, TX_len, List.length_flatten, List.map_map]
  rfl
theorem sumI (l : List Nat) : (l.map Int.ofNat).sum = ((l.sum : Nat) : Int) := by
  induction l with
  | nil => rfl
  | cons a l ih =>
    rw [List.map_cons, List.sum_cons, List.sum_cons, ih]
    rfl
theorem sizeL_sum (ds : List Val) : sizeL ds = (ds.map sizeV).sum := by
  induction ds with
  | nil => simp [sizeL]
  | cons d ds ih => simp [sizeL, ih]
theorem sum_le5 {ks : List Str} (h : ∀ k ∈ ks, k.length ≤ 5) : (ks.map (·.length)).sum ≤ 5 * ks.length := by
  induction ks with
  | nil => simp
  | cons k ks ih =>
    have := h k List.mem_cons_self
    have := ih fun x hx => h x (List.mem_cons_of_mem _ hx)
    simp only [List.map_cons, List.sum_cons, List.length_cons]
    omega
def o1 : Val → Nat
  | .txt x => x.length + 1
  | _ => 1
def o2 : Val → Nat
  | .txt x => x.length + 1
  | .rc ks _ => (ks.map (·.length)).sum + 1
  | _ => 1
section
variable {P : Program} {w : World} {K : PySem.W.Frag} {mg : Str → Option Value} {base : Heap} {C : Ad}
theorem sc__law_size : FnScope ["value", "kind", "own", "part", "name"] ["value"] (defScope s__law_size) := ⟨rfl, rfl, rfl, by decide +kernel, rfl, by decide +kernel, by decide +kernel⟩
theorem lz_S (T : Txt K w mg C) {n k : Nat} {sp : Sp} (hk : 2 ≤ k) (hsp : ∀ m, m + 1 = n → sp = spLZ m) (G_law_size : Cal P w K mg base k "_law_size" sp) : Cal P w K mg base (k + 1) "_law_size" (spLZ n) := by
  have G_law_kind := ok_kind (P := P) (base := base) T
  have G_law_parts := ok_parts (P := P) (base := base) T
  refine cal_of T.d__law_size sc__law_size (fun vs H Q E h => ?_) (fun f cdv A outer s H vs Q E hr h => ?_)
  · obtain ⟨v, d, G, M, rfl, _⟩ := h
    rfl
  · obtain ⟨v, d, G0, M, rfl, S, hv, hok, hn, q⟩ := h
    have big : 100000 < sizeLine := by decide
    refine ⟨_, (pss_cons (ps_set (i := 1) sc__law_size.nd rfl (Or.inl rfl) (pe_c G_law_kind hr (by omega) (by rfl) (pa_cons (pv 0) pa_nil))) (pss_cons (ps_set (i := 2) sc__law_size.nd rfl (Or.inl rfl) pe_int) (C8.pss_cut (ps_if (pt_cmpR op_eq (pv 1) pe_str (nomark _)) (pss_one (ps_set (i := 2) sc__law_size.nd rfl (Or.inl rfl) (pe_op op_add pe_int (pe_callB call_len_str (by rfl) T.z_len PySem.boot_len (pa_cons (pv 0) pa_nil))))) pss_nil) (C8.pss_cut (ps_if (pt_cmpR op_eq (pv 1) pe_str (nomark _)) (pss_one (ps_set (i := 2) sc__law_size.nd rfl (Or.inl rfl) (pe_op op_add pe_int (pe_callB call_len_str (by rfl) T.z_len PySem.boot_len (pa_cons (pe_join pe_str (pe_lock (pe_lc (own := [("name", 4)]) (g := gName 4) (tt := tYes) rfl sc__law_size.nd (pi_keys (pv 0)) (blkOk_by (N := ["value", "kind", "own", "part", "name"]) (sc := (defScope s__law_size)) (by decide +kernel)) (fun _ _ _ _ _ => pg_name (i := 4) sc__law_size.nd rfl (Or.inl rfl)) (fun _ _ _ _ _ => pts_nil) (fun _ _ _ _ _ => (pv 4))))) pa_nil))))) pss_nil) (C8.pss_cut (ps_if (pt_cmpR op_eq (pv 1) pe_str (nomark _)) (pss_one (ps_set (i := 2) sc__law_size.nd rfl (Or.inl rfl) (pe_op op_add pe_int (pe_callB call_len_str (by rfl) T.z_len PySem.boot_len (pa_cons (pe_ix ix_tup (pv 0) pe_int (fun _ _ => rfl)) pa_nil))))) pss_nil) (pss_one (ps_ret (pe_op op_add (pv 2) (pe_callB (cr_sum rfl) (by rfl) T.z_sum (by decide +kernel) (pa_cons (pe_lc (own := [("part", 3)]) (g := gName 3) (tt := tYes) rfl sc__law_size.nd (pi_list (pe_c G_law_parts hr (by omega) (by rfl) (pa_cons (pv 0) pa_nil))) (blkOk_by (N := ["value", "kind", "own", "part", "name"]) (sc := (defScope s__law_size)) (by decide +kernel)) (fun _ _ _ _ _ => pg_name (i := 3) sc__law_size.nd rfl (Or.inl rfl)) (fun _ _ _ _ _ => pts_nil) (fun _ _ _ _ _ => (pe_c G_law_size hr (by omega) (by rfl) (pa_cons (pv 3) pa_nil)))) pa_nil)))))))))), ?_⟩
    refine ⟨_, rfl, v, d, rfl, (hv.same S.s).vr, ?_⟩
    refine ⟨fun σ' H' => ∃ (G' : Hp) (y4 : Option V), Sb G' H' M ∧ Same G0 G' ∧ σ' = [some v, some (.str (kindN d)), some (.int (o1 d : Int)), none, y4], ?_, ?_⟩
    · cases d with
      | txt x =>
        simp only [VH] at hv
        subst hv
        simp only [okV] at hok
        refine ⟨_, rfl, rfl, _, rfl, iteT' rfl ⟨_, rfl, x, rfl, Nat.le_trans hok.2 (by decide), _, _, rfl, rfl, G0, none, S, Same.refl _, ?_⟩⟩
        have : (1 : Int) + (x.length : Int) = ((x.length + 1 : Nat) : Int) := by omega
        show [some (V.str x), some (V.str "text"), some (V.int ((1 : Int) + (x.length : Int))), none, none] = _
        rw [this]
        rfl
      | _ => exact ⟨_, rfl, rfl, _, rfl, iteF' rfl ⟨G0, _, S, Same.refl _, rfl⟩⟩
    rintro σ' H1 ⟨G1, y4, S1, g1, rfl⟩
    refine ⟨fun σ' H' => ∃ (G' : Hp) (y4 : Option V), Sb G' H' M ∧ Same G0 G' ∧ σ' = [some v, some (.str (kindN d)), some (.int (o2 d : Int)), none, y4], ?_, ?_⟩
    · cases d with
      | rc ks vs =>
        simp only [VH] at hv
        obtain ⟨a, kvs, rfl, ha, hks, knd, hxs⟩ := hv
        have ha1 := S1.s _ _ (g1 _ _ ha)
        have kl : kvs.length = ks.length := by have := congrArg List.length hks; simpa using this
        simp only [okV] at hok
        obtain ⟨m, _, vl, kl2, _, hk5, _⟩ := hok
        refine ⟨_, rfl, rfl, _, rfl, iteT' rfl ⟨⟨_, rfl⟩, a, _, ha1, trivial, fun od => ?_⟩⟩
        have hlk : upd H1 a (.frz od (.dK kvs)) a = some (.frz od (.dK kvs)) := upd_same
        refine ⟨_, rfl, a, od, rfl, .inl ⟨_, hlk, fun D hD => ?_⟩⟩
        have hDa : D ≠ a := fun z => by rw [z, upd_same] at hD; cases hD
        refine lc_it (walk_keys (d := a) (o := od) (kvs := kvs)) (fun i H' => Same (upd H1 a (.frz od (.dK kvs))) H' ∧ H' D = some (.lst ((ks.take i).map V.str))) ⟨Sm.new hD, upd_same⟩ (fun i H' _ z => z.1 _ _ hlk) ?_ ?_
        · rintro i x H2 H3 hi ⟨s1, h1⟩ ⟨rfl, k, v, hkv, rfl⟩
          obtain ⟨kx, rfl, hkx⟩ := walk_kn hks hkv
          have tk2 : ks.take (i + 1) = ks.take i ++ [kx] := by rw [List.take_add_one, hkx]; rfl
          refine ⟨rfl, _, rfl, _, h1, by rw [List.length_map, List.length_take]; omega, ?_, by rw [upd_same, tk2, List.map_append]; rfl⟩
          intro b o eb
          have : b ≠ D := fun z => by rw [z] at eb; rw [hD] at eb; cases eb
          rw [upd_ne this]
          exact s1 _ _ eb
        · rintro H2 ⟨s1, h1⟩
          rw [kl, List.take_length] at h1
          have s2 := unlock ha1 s1
          obtain ⟨G', S', g'⟩ := S1.more s2
          have bnd := sum_le5 fun k hk => (hk5 k hk).2
          refine ⟨s1 _ _ hlk, "", D, ks, rfl, rfl, .inl (SqL.of (by rw [upd_ne hDa]; exact h1)), ?_, ?_⟩
          · show _ + ks.length * 0 ≤ 16777216
            omega
          · have jl := join_len0 ks
            refine ⟨_, rfl, ?_, _, _, rfl, rfl, G', y4, S', Same.trans g1 g', ?_⟩
            · show (Txt.join (TX []) ks).length ≤ sizeLine
              omega
            · have : (1 : Int) + ((Txt.join (TX []) ks).length : Int) = (((ks.map (·.length)).sum + 1 : Nat) : Int) := by rw [jl]; omega
              show [some (V.ref a), some (V.str "record"), some (V.int ((1 : Int) + ((Txt.join (TX []) ks).length : Int))), none, y4] = _
              rw [this]
              rfl
      | _ => exact ⟨_, rfl, rfl, _, rfl, iteF' rfl ⟨G1, _, S1, g1, rfl⟩⟩
    clear S1 g1
    rintro σ' H1 ⟨G1, y4, S1, g1, rfl⟩
    refine ⟨fun σ' H' => ∃ (G' : Hp) (y4 : Option V), Sb G' H' M ∧ Same G0 G' ∧ σ' = [some v, some (.str (kindN d)), some (.int (ownS d : Int)), none, y4], ?_, ?_⟩
    · cases d with
      | act o x vs =>
        simp only [VH] at hv
        obtain ⟨a, l, xs, rfl, h1, h2, h3⟩ := hv
        simp only [okV] at hok
        obtain ⟨m, _, _, hx, _⟩ := hok
        refine ⟨_, rfl, rfl, _, rfl, iteT' rfl ⟨_, rfl, a, _, _, _, rfl, rfl, SqT.of (S1.s _ _ (g1 _ _ h1)), at_2, x, rfl, Nat.le_trans hx.2 (by decide), _, _, rfl, rfl, G1, y4, S1, g1, ?_⟩⟩
        have : (1 : Int) + (x.length : Int) = ((x.length + 1 : Nat) : Int) := by omega
        show [some (V.ref a), some (V.str "act"), some (V.int ((1 : Int) + (x.length : Int))), none, y4] = _
        rw [this]
        rfl
      | _ => exact ⟨_, rfl, rfl, _, rfl, iteF' rfl ⟨G1, _, S1, g1, rfl⟩⟩
    clear S1 g1
    rintro σ' H1 ⟨G1, y4, S1, g1, rfl⟩
    obtain ⟨pk, pl⟩ := okV_partsM hok
    refine ⟨_, rfl, _, rfl, v, d, G1, M, rfl, S1, hv.same g1, pz_ok hok, fun r xs G3 H3 S3 g3 hr _ _ hxs => ?_⟩
    refine ⟨r, rfl, ⟨_, SqL.of (S3.s _ _ hr)⟩, fun D hD => ?_⟩
    have S4 := S3.add (o := .lst []) hD
    have xl := hxs.len
    refine lc_it (walk_list (K := K) (a := r) (xs := xs)) (fun i H' => ∃ (ns : List Nat) (G : Hp), Sb G H' ((D, .lst ((ns.map Int.ofNat).map V.int)) :: M) ∧ Same G3 G ∧ ns = ((partsV d).take i).map sizeV) ⟨[], G3, S4, Same.refl _, rfl⟩ (fun i H' _ z => by obtain ⟨ns, G, S', g, _⟩ := z; exact SqL.of (S'.s _ _ (g _ _ hr))) ?_ ?_
    · rintro i x H5 H6 hi ⟨ns, G, S5, g, hns⟩ ⟨rfl, hx⟩
      obtain ⟨e, he, hve⟩ := hxs.get hx
      have tk : (partsV d).take (i + 1) = (partsV d).take i ++ [e] := by rw [List.take_add_one, he]; rfl
      have nl := congrArg List.length hns
      rw [List.length_map, List.length_take] at nl
      obtain ⟨m, rfl⟩ : ∃ m, n = m + 1 := by
        cases n with
        | zero =>
          have hw := okV_parts0 hok
          have : partsV d = [] := by cases d <;> first | rfl | exact nomatch hw
          rw [this] at he
          simp at he
        | succ m => exact ⟨m, rfl⟩
      have e' := hsp m rfl
      subst e'
      refine ⟨rfl, _, rfl, x, e, G, _, rfl, S5, hve.same g, okVs_get pk he, by omega, fun G7 H7 S7 g7 => ?_⟩
      exact ⟨_, S7.hd, by rw [List.length_map, List.length_map]; omega, ns ++ [sizeV e], G7, by rw [List.map_append, List.map_append]; exact S7.put, Same.trans g g7, by rw [hns, tk, List.map_append]; rfl⟩
    · rintro H5 ⟨ns, G, S5, g, hns⟩
      rw [xl, List.take_length] at hns
      refine ⟨D, _, rfl, SqL.of S5.hd, _, _, rfl, rfl, ?_⟩
      obtain ⟨S6, g6⟩ := S5.drop
      have z := q _ _ S6 (Same.trans g1 (Same.trans g3 (Same.trans g g6)))
      rw [sizeV_eq, sizeL_sum, ← hns] at z
      show Q (.int ((ownS d : Int) + (ns.map Int.ofNat).sum)) H5
      rw [sumI]
      exact z
theorem lz_0 (T : Txt K w mg C) {k : Nat} : Cal P w K mg base (k + 1) "_law_size" spFalse := cal_of T.d__law_size sc__law_size (fun vs H Q E h => h.elim) (fun f cdv A outer s H vs Q E hr h => h.elim)
theorem lz_N (T : Txt K w mg C) : ∀ n : Nat, Cal P w K mg base (n + 3) "_law_size" (spLZ n)
  | 0 => lz_S T (sp := spFalse) (by decide) (fun m h => by omega) (lz_0 T)
  | n + 1 => lz_S T (sp := spLZ n) (by omega) (fun j h => by rw [show j = n by omega]) (lz_N T n)
theorem ld_0 (T : Txt K w mg C) {k : Nat} : Cal P w K mg base (k + 1) "_law_depth" spFalse := cal_of T.d__law_depth sc__law_depth (fun vs H Q E h => h.elim) (fun f cdv A outer s H vs Q E hr h => h.elim)
theorem ld_N (T : Txt K w mg C) : ∀ n : Nat, Cal P w K mg base (n + 3) "_law_depth" (spLD n)
  | 0 => ld_S T (sp := spFalse) (by decide) (fun m h => by omega) (ld_0 T)
  | n + 1 => ld_S T (sp := spLD n) (by omega) (fun j h => by rw [show j = n by omega]) (ld_N T n)
end
end VL

set_option Elab.async false
set_option linter.all false
set_option pp.maxSteps 500
set_option maxRecDepth 100000
set_option maxHeartbeats 4000000
namespace VL
open PySem PySem.Spec PyProof.Rows L2
theorem dig_at {c : Nat} (h : c < 10) : atI (("0123456789" : Str).cps.toList) (c : Int) = some (48 + c) := by
  have all : ∀ k : Fin 10, atI (("0123456789" : Str).cps.toList) ((k.val : Nat) : Int) = some (48 + k.val) := by decide +kernel
  exact all ⟨c, h⟩
def spLT : Sp := fun vs H Q _ => ∃ (v : V) (d : Val), vs = [v] ∧ VH H d v ∧ okV d 5 ∧ ∀ H', Same H H' → Q (textV d) H'
def tagN : Val → Nat
  | .nul => 0
  | .bl _ => 1
  | .num _ => 2
  | .txt _ => 3
  | .lst _ => 4
  | .rc _ _ => 5
  | .act _ _ _ => 6
theorem kind_tag {d e : Val} (h : kindN d = kindN e) : tagN d = tagN e := by
  cases d <;> cases e <;> first | rfl | (exfalso; revert h; simp only [kindN]; decide)
theorem tag_same {d e : Val} (h : tagN d ≠ tagN e) : sameV d e = false := by
  cases d <;> cases e <;> first | rfl | exact absurd rfl h
theorem kind_some (d : Val) : ¬ kindN d = "none" := by
  cases d <;> (simp only [kindN]; decide)
theorem dqAll_strs {H : Hp} : ∀ ns : List Str, DqAll H (ns.map V.str) (ns.map PyData.str)
  | [] => .nil
  | a :: ns => .cons (.str a) (dqAll_strs ns)
theorem same_perm {ks ls : List Str} {vs ws : List Val} {n m : Nat} (oa : okV (.rc ks vs) n) (ob : okV (.rc ls ws) m) (h : sameV (.rc ks vs) (.rc ls ws) = true) : ks.Perm ls := by
  simp only [okV] at oa ob
  obtain ⟨_, _, _, kl, knd, _⟩ := oa
  obtain ⟨_, _, _, ll, lnd, _⟩ := ob
  simp only [sameV, Bool.and_eq_true, decide_eq_true_eq] at h
  have hq := (sameR_iff kl).mp h.2
  have sub : ∀ x ∈ ks, x ∈ ls := fun x hx => by
    obtain ⟨i, hi⟩ := List.getElem?_of_mem hx
    have hi' := (List.getElem?_eq_some_iff.mp hi).1
    obtain ⟨w, e1, _⟩ := hq i x _ hi (List.getElem?_eq_getElem (by omega : i < vs.length))
    obtain ⟨j, e2, _⟩ := lookV_some e1
    exact List.mem_of_getElem? e2
  have back := all_back knd h.1 sub
  exact (List.perm_ext_iff_of_nodup knd lnd).mpr fun x => ⟨sub x, back x⟩
def okW (d : Val) : Prop := okV d 5 ∨ ∃ x, d = .txt x
theorem okW.mem {d : Val} (h : okW d) : okVs (partsV d) 5 := by
  rcases h with h | ⟨x, rfl⟩
  · exact okV_mem5 h
  · simp [partsV, okVs]
theorem okW.get {d : Val} (h : okW d) (n : ∀ x, d ≠ .txt x) : okV d 5 := h.resolve_right fun ⟨x, e⟩ => n x e
def spLS (m : Nat) : Sp := fun vs H Q _ => ∃ (a b : V) (d e : Val), vs = [a, b] ∧ VH H d a ∧ VR H e b ∧ okW d ∧ okW e ∧ cst d ≤ m ∧ ∀ H', Same H H' → Q (.bl (sameV d e)) H'
section
variable {P : Program} {w : World} {K : PySem.W.Frag} {mg : Str → Option Value} {base : Heap} {C : Ad}
theorem sc__law_text_of : FnScope ["value", "kind", "digits", "left", "k"] ["value"] (defScope s__law_text_of) := ⟨rfl, rfl, rfl, by decide +kernel, rfl, by decide +kernel, by decide +kernel⟩
theorem ok_ltx (T : Txt K w mg C) : Cal P w K mg base 2 "_law_text_of" spLT := by
  have G_law_kind := ok_kind (P := P) (base := base) T
  refine cal_of T.d__law_text_of sc__law_text_of (fun vs H Q E h => ?_) (fun f cdv A outer s H vs Q E hr h => ?_)
  · obtain ⟨v, d, rfl, _⟩ := h
    rfl
  · obtain ⟨v, d, rfl, hv, hok, q⟩ := h
    have q0 := q H (Same.refl _)
    refine ⟨_, (pss_cons (ps_set (i := 1) sc__law_text_of.nd rfl (Or.inl rfl) (pe_c G_law_kind hr (by decide) (by rfl) (pa_cons (pv 0) pa_nil))) (pss_cons (ps_if (pt_cmpR op_eq (pv 1) pe_str (nomark _)) (pss_one (ps_ret pe_str)) pss_nil) (pss_cons (ps_if (pt_cmpR op_eq (pv 1) pe_str (nomark _)) (pss_one (ps_ret (pe_ix ix_list (pe_lst (pa_cons pe_str (pa_cons pe_str pa_nil))) (pe_callTy call_int1 (by rfl) T.z_int (by decide +kernel) (pa_cons (pv 0) pa_nil)) (fun _ _ => rfl)))) pss_nil) (pss_cons (ps_if (pt_cmpR op_eq (pv 1) pe_str (nomark _)) (pss_cons (ps_set (i := 2) sc__law_text_of.nd rfl (Or.inl rfl) pe_str) (pss_cons (ps_set (i := 3) sc__law_text_of.nd rfl (Or.inl rfl) (pe_callB call_abs (by rfl) T.z_abs (by decide +kernel) (pa_cons (pv 0) pa_nil))) (pss_cons (ps_for PassesOwn.never rfl (pi_range1 (by rfl) T.z_range (pa_cons pe_int pa_nil)) (pg_name (i := 4) sc__law_text_of.nd rfl (Or.inl rfl)) (pss_cons (ps_set (i := 2) sc__law_text_of.nd rfl (Or.inl rfl) (pe_op op_add_str (pe_ix ix_str pe_str (pe_op op_mod (pe_callTy call_int1 (by rfl) T.z_int (by decide +kernel) (pa_cons (pv 3) pa_nil)) pe_int) (fun _ _ => rfl)) (pv 2))) (pss_cons (ps_set (i := 3) sc__law_text_of.nd rfl (Or.inl rfl) (pe_op op_fdiv (pv 3) pe_int)) (pss_one (ps_if (pt_cmpR op_eq (pv 3) pe_int (nomark _)) (pss_one ps_break) pss_nil))))) (pss_cons (ps_if (pt_cmpR op_lt (pv 0) pe_int (nomark _)) (pss_one (ps_ret (pe_op op_add_str pe_str (pv 2)))) pss_nil) (pss_one (ps_ret (pv 2))))))) pss_nil) (pss_cons (ps_if (pt_cmpR op_eq (pv 1) pe_str (nomark _)) (pss_one (ps_ret (pv 0))) pss_nil) (pss_one (ps_ret pe_non))))))), ?_⟩
    refine ⟨_, rfl, v, d, rfl, hv.vr, ?_⟩
    cases d with
    | nul => exact ⟨_, rfl, rfl, _, rfl, iteT' rfl q0⟩
    | bl b =>
      simp only [VH] at hv
      subst hv
      refine ⟨_, rfl, rfl, _, rfl, iteF' rfl ⟨_, rfl, rfl, _, rfl, iteT' rfl ⟨by show 2 ≤ sizeLine; decide, fun l hl => ?_⟩⟩⟩
      have z := q _ (Sm.new (o := .lst [V.str "false", .str "true"]) hl)
      cases b with
      | true => exact ⟨_, rfl, .inr ⟨true, rfl, l, _, _, _, rfl, rfl, SqL.of upd_same, at_1, z⟩⟩
      | false => exact ⟨_, rfl, .inr ⟨false, rfl, l, _, _, _, rfl, rfl, SqL.of upd_same, at_0, z⟩⟩
    | num i =>
      simp only [VH] at hv
      subst hv
      simp only [okV] at hok
      refine ⟨_, rfl, rfl, _, rfl, iteF' rfl ⟨_, rfl, rfl, _, rfl, iteF' rfl ⟨_, rfl, rfl, _, rfl, iteT' rfl ?_⟩⟩⟩
      refine ⟨_, rfl, i, rfl, ?_⟩
      have ea : (if i < 0 then -i else i) = (i.natAbs : Int) := by split <;> omega
      rw [ea]
      have hN : i.natAbs < 10 ^ 31 := by omega
      generalize hNN : i.natAbs = N at hN
      refine ⟨_, rfl, by decide, by decide, ?_⟩
      refine for_range (lo := 0) (n := 40) (fun k σ H' => H' = H ∧ ∃ (m : Nat) (l : List Nat) (y4 : Option V), m = N / 10 ^ k ∧ (0 < m ∨ k = 0) ∧ TL.numL N = TL.numL m ++ l ∧ l.length = k ∧ σ = [some (.int i), some (.str "number"), some (.str (TX l)), some (.int (m : Int)), y4]) ⟨rfl, N, [], none, by simp, .inr rfl, by simp, rfl, rfl⟩ ?_ ?_
      · rintro k σ H1 hk ⟨rfl, m, l, y4, hm, h0, hn, hl, rfl⟩
        have hat := dig_at (c := m % 10) (Nat.mod_lt _ (by decide))
        have em : ((m % 10 : Nat) : Int) = (m : Int) % 10 := by omega
        rw [em] at hat
        refine ⟨_, rfl, .inl ⟨_, rfl, _, _, rfl, rfl, by show (0 : Int) < 10; decide, _, _, _, rfl, rfl, by decide, hat, _, rfl, TX [48 + m % 10], TX l, rfl, rfl, ?_, ?_⟩⟩
        · rw [TX_len, TX_len]
          have big : 100000 < sizeLine := by decide
          show 1 + l.length ≤ sizeLine
          omega
        · rw [TX_cat]
          refine ⟨_, rfl, _, _, rfl, rfl, ⟨by decide, by decide⟩, ?_⟩
          have ed : (m : Int) / 10 = ((m / 10 : Nat) : Int) := by omega
          show gName 3 (V.int ((m : Int) / 10)) _ _ _
          rw [ed]
          refine ⟨_, rfl, rfl, _, rfl, ?_⟩
          by_cases z : m / 10 = 0
          · refine iteT' (decide_eq_true (by rw [z]; rfl)) ?_
            have m9 : m < 10 := by omega
            have e1 : TL.numL N = [48 + m % 10] ++ l := by
              rw [hn, TL.numL_lt m9, Nat.mod_eq_of_lt m9]
            rw [← e1]
            have l31 := numL_31 hN
            have q1 : Q (.str (Str.ofString (toString i))) H1 := q0
            rw [nuT_TX] at q1
            refine ⟨_, rfl, _, _, rfl, rfl, _, rfl, ite2 (fun c => ?_) (fun c => ?_)⟩
            · have c' := of_decide_eq_true c
              have en : nuT i = 45 :: TL.numL N := by
                cases i with
                | ofNat n => exact absurd c' (by have : Int.ofNat n = (n : Int) := rfl; omega)
                | negSucc n =>
                  have : N = n + 1 := by rw [← hNN]; rfl
                  rw [this]
                  rfl
              rw [en] at q1
              refine ⟨_, rfl, TX [45], _, rfl, rfl, ?_, ?_⟩
              · rw [TX_len, TX_len]
                have big : 100000 < sizeLine := by decide
                show 1 + (TL.numL N).length ≤ sizeLine
                omega
              · rw [TX_cat]
                exact q1
            · have c' : ¬ i < 0 := fun z => c (decide_eq_true z)
              have en : nuT i = TL.numL N := by
                cases i with
                | ofNat n =>
                  have : N = n := by rw [← hNN]; rfl
                  rw [this]
                  rfl
                | negSucc n => exact absurd (Int.negSucc_lt_zero n) c'
              rw [en] at q1
              exact ⟨_, rfl, q1⟩
          · refine iteF' (decide_eq_false (fun q => z (by have := V.int.inj q; omega))) ⟨rfl, m / 10, [48 + m % 10] ++ l, _, ?_, .inl (by omega), ?_, by simp; omega, rfl⟩
            · rw [hm, Nat.div_div_eq_div_mul, Nat.pow_succ]
            · rw [hn, TL.numL_step (by omega : 10 ≤ m), List.append_assoc]
      · rintro σ H1 ⟨rfl, m, l, y4, hm, h0, _⟩
        have : N / 10 ^ 40 = 0 := Nat.div_eq_of_lt (Nat.lt_trans hN (by decide))
        rw [this] at hm
        omega
    | txt x =>
      simp only [VH] at hv
      subst hv
      exact ⟨_, rfl, rfl, _, rfl, iteF' rfl ⟨_, rfl, rfl, _, rfl, iteF' rfl ⟨_, rfl, rfl, _, rfl, iteF' rfl ⟨_, rfl, rfl, _, rfl, iteT' rfl ⟨_, rfl, q0⟩⟩⟩⟩⟩
    | _ => exact ⟨_, rfl, rfl, _, rfl, iteF' rfl ⟨_, rfl, rfl, _, rfl, iteF' rfl ⟨_, rfl, rfl, _, rfl, iteF' rfl ⟨_, rfl, rfl, _, rfl, iteF' rfl q0⟩⟩⟩⟩
theorem sc__law_same : FnScope ["first", "second", "kind", "k", "name"] ["first", "second"] (defScope s__law_same) := ⟨rfl, rfl, rfl, by decide +kernel, rfl, by decide +kernel, by decide +kernel⟩
theorem ls_S (T : Txt K w mg C) {m k : Nat} {sp : Sp} (hk : 2 ≤ k) (hsp : ∀ j, j + 1 = m → sp = spLS j) (G_law_same : Cal P w K mg base k "_law_same" sp) : Cal P w K mg base (k + 1) "_law_same" (spLS m) := by
  have G_law_kind := ok_kind (P := P) (base := base) T
  refine cal_of T.d__law_same sc__law_same (fun vs H Q E h => ?_) (fun f cdv A outer s H vs Q E hr h => ?_)
  · obtain ⟨a, b, d, e, rfl, _⟩ := h
    rfl
  · obtain ⟨a, b, d, e, rfl, ha, hb, oa, ob, hc, q⟩ := h
    have hu := hu_of hr
    have q0 := q H (Same.refl _)
    refine ⟨_, (pss_cons (ps_set (i := 2) sc__law_same.nd rfl (Or.inl rfl) (pe_c G_law_kind hr (by omega) (by rfl) (pa_cons (pv 0) pa_nil))) (pss_cons (ps_if (PW.pt (pw_or (pt_cmpR op_ne (pv 2) (pe_c G_law_kind hr (by omega) (by rfl) (pa_cons (pv 1) pa_nil)) (nomark _)) (pw_or1 (pt_cmpR op_eq (pv 2) pe_str (nomark _))))) (pss_one (ps_ret pe_bl)) pss_nil) (pss_cons (ps_if (pt_cmpR op_eq (pv 2) pe_str (nomark _)) (pss_cons (ps_if (pt_cmpR op_ne (pe_callB call_len_seq (by rfl) T.z_len PySem.boot_len (pa_cons (pv 0) pa_nil)) (pe_callB call_len_seq (by rfl) T.z_len PySem.boot_len (pa_cons (pv 1) pa_nil)) (nomark _)) (pss_one (ps_ret pe_bl)) pss_nil) (pss_cons (ps_for PassesOwn.never rfl (pi_range1 (by rfl) T.z_range (pa_cons (pe_callB call_len_seq (by rfl) T.z_len PySem.boot_len (pa_cons (pv 0) pa_nil)) pa_nil)) (pg_name (i := 3) sc__law_same.nd rfl (Or.inl rfl)) (pss_one (ps_if (pt_not (pt_val (pe_c G_law_same hr (by omega) (by rfl) (pa_cons (pe_ix ix_list (pv 0) (pv 3) (fun _ _ => rfl)) (pa_cons (pe_ix ix_list (pv 1) (pv 3) (fun _ _ => rfl)) pa_nil))))) (pss_one (ps_ret pe_bl)) pss_nil))) (pss_one (ps_ret pe_bl)))) pss_nil) (pss_cons (ps_if (pt_cmpR op_eq (pv 2) pe_str (nomark _)) (pss_cons (ps_if (pt_cmpR (op_neP hr.units) (pe_callB (call_sortedD rfl) (by rfl) T.z_sorted (by decide +kernel) (pa_cons (pv 0) pa_nil)) (pe_callB (call_sortedD rfl) (by rfl) T.z_sorted (by decide +kernel) (pa_cons (pv 1) pa_nil)) (nomark _)) (pss_one (ps_ret pe_bl)) pss_nil) (pss_cons (ps_lock (ps_for PassesOwn.never rfl (pi_keys (pv 0)) (pg_name (i := 4) sc__law_same.nd rfl (Or.inl rfl)) (pss_one (ps_if (pt_not (pt_val (pe_c G_law_same hr (by omega) (by rfl) (pa_cons (pe_dget hu (pv 0) (pv 4) (fun _ _ => rfl)) (pa_cons (pe_dget hu (pv 1) (pv 4) (fun _ _ => rfl)) pa_nil))))) (pss_one (ps_ret pe_bl)) pss_nil)))) (pss_one (ps_ret pe_bl)))) pss_nil) (pss_cons (ps_if (pt_cmpR op_eq (pv 2) pe_str (nomark _)) (pss_cons (ps_if (PW.pt (pw_or (pt_cmpR op_ne (pe_c G_law_kind hr (by omega) (by rfl) (pa_cons (pe_ix ix_tup (pv 0) pe_int (fun _ _ => rfl)) pa_nil)) pe_str (nomark _)) (pw_or (pt_cmpR op_ne (pe_ix ix_tup (pv 0) pe_int (fun _ _ => rfl)) (pe_ix ix_tup (pv 1) pe_int (fun _ _ => rfl)) (nomark _)) (pw_or1 (pt_cmpR op_ne (pe_ix ix_tup (pv 0) pe_int (fun _ _ => rfl)) (pe_ix ix_tup (pv 1) pe_int (fun _ _ => rfl)) (nomark _)))))) (pss_one (ps_ret pe_bl)) pss_nil) (pss_one (ps_ret (pe_c G_law_same hr (by omega) (by rfl) (pa_cons (pe_ix ix_tup (pv 0) pe_int (fun _ _ => rfl)) (pa_cons (pe_ix ix_tup (pv 1) pe_int (fun _ _ => rfl)) pa_nil)))))) pss_nil) (pss_one (ps_ret (pe_cmpR op_eq (pv 0) (pv 1) (nomark _))))))))), ?_⟩
    refine ⟨_, rfl, a, d, rfl, ha.vr, ?_⟩
    refine ⟨_, rfl, _, rfl, b, e, rfl, hb, rfl, _, rfl, ?_⟩
    by_cases hk' : kindN d = kindN e
    case neg =>
      refine iteT' (by simpa using fun z => hk' (V.str.inj z)) (iteT' rfl ?_)
      rw [tag_same fun z => hk' (by cases d <;> cases e <;> first | rfl | exact nomatch z)] at q0
      exact q0
    have tg := kind_tag hk'
    refine iteF' (by rw [hk']; simp) ⟨_, rfl, rfl, _, rfl, iteF' (decide_eq_false fun z => kind_some d (V.str.inj z)) ?_⟩
    have o5 := oa.mem
    have p5 := ob.mem
    cases d with
    | lst vs =>
      obtain ⟨ws, rfl⟩ : ∃ ws, e = .lst ws := by cases e <;> first | exact ⟨_, rfl⟩ | exact nomatch tg
      replace oa := oa.get (by intro x z; cases z)
      replace ob := ob.get (by intro x z; cases z)
      obtain ⟨j, rfl⟩ : ∃ j, m = j + 1 := by simp only [cst] at hc; exact ⟨m - 1, by omega⟩
      have e' := hsp j rfl
      subst e'
      simp only [VH] at ha
      simp only [VR] at hb
      obtain ⟨a, xs, rfl, h1, h2⟩ := ha
      obtain ⟨b, ys, rfl, g1, g2⟩ := hb
      have xl := h2.len
      have yl := g2.len
      have vl : vs.length ≤ 4 := (okV_partsM oa).2
      refine ⟨_, rfl, rfl, _, rfl, iteT' rfl ?_⟩
      refine ⟨_, rfl, a, _, rfl, .inl (SqL.of h1), _, rfl, b, _, rfl, .inl (SqL.of g1), rfl, _, rfl, ?_⟩
      by_cases hl : vs.length = ws.length
      · refine iteF' (by rw [xl, yl, hl]; simp) ?_
        refine ⟨_, rfl, a, _, rfl, .inl (SqL.of h1), _, rfl, by omega, by omega, ?_⟩
        refine for_range (lo := 0) (n := xs.length) (fun i σ H' => Same H H' ∧ (∃ y3 : Option V, σ = [some (.ref a), some (.ref b), some (.str "list"), y3, none]) ∧ ∀ (j : Nat) (d e : Val), j < i → vs[j]? = some d → ws[j]? = some e → sameV d e = true) ⟨Same.refl _, ⟨_, rfl⟩, fun j d e hj => absurd hj (Nat.not_lt_zero _)⟩ ?_ ?_
        · rintro i σ H1 hi ⟨s1, ⟨y3, rfl⟩, inv⟩
          have hx : xs[i]? = some xs[i] := List.getElem?_eq_getElem hi
          have hi2 : i < ys.length := by omega
          have hy : ys[i]? = some ys[i] := List.getElem?_eq_getElem hi2
          obtain ⟨d, hd, vx⟩ := h2.get hx
          obtain ⟨e, he, vy⟩ := g2.get hy
          have ax : atI xs (0 + (i : Int)) = some xs[i] := by
            rw [Int.zero_add]
            unfold atI ixN
            rw [if_pos (by omega), if_pos (by omega)]
            exact hx
          have ay : atI ys (0 + (i : Int)) = some ys[i] := by
            rw [Int.zero_add]
            unfold atI ixN
            rw [if_pos (by omega), if_pos (by omega)]
            exact hy
          refine ⟨_, rfl, _, rfl, a, _, _, _, rfl, rfl, SqL.of (s1 _ _ h1), ax, _, rfl, _, rfl, b, _, _, _, rfl, rfl, SqL.of (s1 _ _ g1), ay, _, _, d, e, rfl, vx.same s1, vy.same s1, .inl (okVs_get o5 hd), .inl (okVs_get p5 he), ?_, fun H' s' => ⟨_, rfl, ?_⟩⟩
          · have := cstL_mem (List.mem_of_getElem? hd)
            simp only [cst] at hc
            omega
          · cases eq : sameV d e with
            | true =>
              refine iteF' rfl ⟨Same.trans s1 s', ⟨_, rfl⟩, fun j d' e' hj h1 h2 => ?_⟩
              by_cases ej : j = i
              · subst ej
                rw [hd] at h1
                rw [he] at h2
                cases h1
                cases h2
                exact eq
              · exact inv j d' e' (by omega) h1 h2
            | false =>
              refine iteT' rfl ?_
              have : sameL vs ws = false := by
                cases e2 : sameL vs ws with
                | false => rfl
                | true => rw [(sameL_iff hl).mp e2 i d e hd he] at eq; exact nomatch eq
              have z := q H' (Same.trans s1 s')
              simp only [sameV, this] at z
              exact z
        · rintro σ H1 ⟨s1, ⟨y3, rfl⟩, inv⟩
          have : sameL vs ws = true := (sameL_iff hl).mpr fun j d e h1 h2 => inv j d e (by have := (List.getElem?_eq_some_iff.mp h1).1; omega) h1 h2
          have z := q H1 s1
          simp only [sameV, this] at z
          exact z
      · refine iteT' (by rw [xl, yl]; simpa using fun z => hl (by omega)) ?_
        have : sameL vs ws = false := by
          cases e : sameL vs ws with
          | false => rfl
          | true => exact absurd (sameL_len e) hl
        simp only [sameV, this] at q0
        exact q0
    | rc ks vs =>
      obtain ⟨ls, ws, rfl⟩ : ∃ ls ws, e = .rc ls ws := by cases e <;> first | exact ⟨_, _, rfl⟩ | exact nomatch tg
      replace oa := oa.get (by intro x z; cases z)
      replace ob := ob.get (by intro x z; cases z)
      obtain ⟨j0, rfl⟩ : ∃ j, m = j + 1 := by simp only [cst] at hc; exact ⟨m - 1, by omega⟩
      have e' := hsp j0 rfl
      subst e'
      have ha0 := ha
      simp only [VH] at ha
      simp only [VR] at hb
      obtain ⟨a, kvs, rfl, ha1, ha2, ha3, ha4⟩ := ha
      obtain ⟨b, kws, rfl, hb1, hb2, hb3, hb4⟩ := hb
      have oa0 := oa
      have ob0 := ob
      simp only [okV] at oa ob
      obtain ⟨_, _, va4, kl, knd, _, _⟩ := oa
      obtain ⟨_, _, wa4, ll, lnd, _, _⟩ := ob
      refine ⟨_, rfl, rfl, _, rfl, iteF' rfl ⟨_, rfl, rfl, _, rfl, iteT' rfl ?_⟩⟩
      refine ⟨_, rfl, a, kvs, ks, rfl, .inl ha1, ha2, by omega, fun ys p py sy hp => ?_⟩
      have s1 := Sm.new (o := .lst (ys.map V.str)) hp
      have hb1' := (Lk.of s1).2.2 _ _ hb1
      refine ⟨_, rfl, b, kws, ls, rfl, hb1', hb2, by omega, fun zs p2 pz sz hp2 => ?_⟩
      have s2 := Sm.new (o := .lst (zs.map V.str)) hp2
      have s12 := Same.trans s1 s2
      refine ⟨.list (ys.map .str), .list (zs.map .str), (Dq.lst (s2 _ _ upd_same) (dqAll_strs ys)).dp (plain_strs ys), (Dq.lst upd_same (dqAll_strs zs)).dp (plain_strs zs), plain_strs ys, plain_strs zs, by rw [depth_strs]; decide, ?_⟩
      rw [eqv_strs]
      have q2 : ∀ H', Same (upd (upd H p (.lst (ys.map V.str))) p2 (.lst (zs.map V.str))) H' → Q (.bl (sameV (.rc ks vs) (.rc ls ws))) H' := fun H' s' => q H' (Same.trans s12 s')
      have ha0' := ha0.same s12
      have ha1' := s12 _ _ ha1
      have ha4' := ha4.same s12
      have hb1s := (Lk.of s12).2.2 _ _ hb1
      have hb4' := hb4.lk (.of s12)
      generalize upd (upd H p (.lst (ys.map V.str))) p2 (.lst (zs.map V.str)) = HS at q2 ha0' ha1' ha4' hb1s hb4' ⊢
      by_cases hp' : ks.Perm ls
      · have yz : ys = zs := sorted_one (sorted_pw sy) (sorted_pw sz) (py.trans (hp'.trans pz.symm))
        refine ⟨_, rfl, iteF' (by simp [yz]) ?_⟩
        have hl := hp'.length_eq
        refine ⟨a, _, ha1', trivial, fun od => ?_⟩
        have hlk : upd HS a (.frz od (.dK kvs)) a = some (.frz od (.dK kvs)) := upd_same
        have lk : Lk HS (upd HS a (.frz od (.dK kvs))) := Lk.lock ha1'
        refine ⟨_, rfl, a, od, rfl, .inl ⟨_, hlk, ?_⟩⟩
        have va := VHs_upd (o := .frz od (.dK kvs)) ha1' ha0' vs _ ha4' (by simp only [depthV]; omega)
        have nd : (kvs.map (·.1)).Nodup := by
          rw [ha2]
          exact List.Pairwise.map _ (fun a b z q => z (Sum.inr.inj q)) knd
        refine for_it (walk_keys (d := a) (o := od) (kvs := kvs)) (fun i σ H' => Same (upd HS a (.frz od (.dK kvs))) H' ∧ (∃ y4 : Option V, σ = [some (.ref a), some (.ref b), some (.str "record"), none, y4]) ∧ ∀ (j : Nat) (k : Str) (d : Val), j < i → ks[j]? = some k → vs[j]? = some d → ∃ w, lookV ls ws k = some w ∧ sameV d w = true) ⟨Same.refl _, ⟨_, rfl⟩, fun j k d hj => absurd hj (Nat.not_lt_zero _)⟩ (fun i σ H' _ z => z.1 _ _ hlk) ?_ ?_
        · rintro i x σ H1 H2 hi ⟨s1, ⟨y4, rfl⟩, inv⟩ ⟨rfl, k, v, hkv, rfl⟩
          obtain ⟨kx, rfl, hkx⟩ := walk_kn ha2 hkv
          have lk2 := lk.trans (.of s1)
          have rb := lk2.2.2 _ _ hb1s
          have ra := s1 _ _ hlk
          have hv : (kvs.map (·.2))[i]? = some v := by rw [List.getElem?_map, hkv]; rfl
          obtain ⟨d, hd, vd⟩ := va.get hv
          rcases val_look (x := kx) hb2 (hb4'.lk lk2) with ⟨l1, l2⟩ | ⟨w, v', l1, l2, l3⟩
          · exact absurd (hp'.mem_iff.mp (List.mem_of_getElem? hkx)) ((lookV_none ll lnd).mp l1)
          · have gv : valV kvs (.inr kx) = some v := valV_nd nd hkv
            obtain ⟨jw, lj1, lj2⟩ := lookV_some l1
            refine ⟨_, rfl, _, rfl, a, v, rfl, .inl ⟨kvs, .inr kx, .inr ⟨od, ra⟩, rfl, gv.symm⟩, _, rfl, _, rfl, b, v', rfl, .inl ⟨kws, .inr kx, rb, rfl, l2.symm⟩, v, v', d, w, rfl, vd.same s1, l3, .inl (okVs_get o5 hd), .inl (okVs_get p5 lj2), ?_, fun H' s' => ⟨_, rfl, ?_⟩⟩
            · have := cstL_mem (List.mem_of_getElem? hd)
              simp only [cst] at hc
              omega
            · cases eq : sameV d w with
              | true =>
                refine iteF' rfl ⟨Same.trans s1 s', ⟨_, rfl⟩, fun j k' d' hj h1 h2 => ?_⟩
                by_cases ej : j = i
                · subst ej
                  rw [hkx] at h1
                  rw [hd] at h2
                  cases h1
                  cases h2
                  exact ⟨w, l1, eq⟩
                · exact inv j k' d' (by omega) h1 h2
              | false =>
                refine iteT' rfl ⟨s' _ _ ra, ?_⟩
                have : sameR vs ks ls ws = false := by
                  cases e : sameR vs ks ls ws with
                  | false => rfl
                  | true =>
                    obtain ⟨w', e1, e2⟩ := (sameR_iff kl).mp e i kx d hkx hd
                    rw [l1] at e1
                    cases e1
                    rw [eq] at e2
                    exact nomatch e2
                have z := q2 _ (unlock ha1' (Same.trans s1 s'))
                simp only [sameV, this, Bool.and_false] at z
                exact z
        · rintro σ H1 ⟨s1, ⟨y4, rfl⟩, inv⟩
          refine ⟨s1 _ _ hlk, ?_⟩
          have kvl : kvs.length = ks.length := by have := congrArg List.length ha2; simpa using this
          have : sameR vs ks ls ws = true := (sameR_iff kl).mpr fun j k d h1 h2 => inv j k d (by have := (List.getElem?_eq_some_iff.mp h1).1; omega) h1 h2
          have z := q2 _ (unlock ha1' s1)
          simp only [sameV, hl, this, decide_true, Bool.and_true] at z
          exact z
      · have yz : ys ≠ zs := fun z => hp' (by rw [z] at py; exact py.symm.trans pz)
        refine ⟨_, rfl, iteT' (by simp [yz]) ?_⟩
        have z := q2 HS (Same.refl _)
        have f : sameV (.rc ks vs) (.rc ls ws) = false := by
          cases e : sameV (.rc ks vs) (.rc ls ws) with
          | false => rfl
          | true => exact absurd (same_perm oa0 ob0 e) hp'
        rw [f] at z
        exact z
    | act o x vs =>
      obtain ⟨o', x', ws, rfl⟩ : ∃ o' x' ws, e = .act o' x' ws := by cases e <;> first | exact ⟨_, _, _, rfl⟩ | exact nomatch tg
      replace oa := oa.get (by intro x z; cases z)
      replace ob := ob.get (by intro x z; cases z)
      obtain ⟨j0, rfl⟩ : ∃ j, m = j + 1 := by simp only [cst] at hc; exact ⟨m - 1, by omega⟩
      have e' := hsp j0 rfl
      subst e'
      simp only [VH] at ha
      simp only [VR] at hb
      obtain ⟨a, l, xs, rfl, h1, h2, h3⟩ := ha
      obtain ⟨b, l', ys, rfl, g1, g2, g3⟩ := hb
      have ta := SqT.of (K := K) h1
      have tb := SqT.of (K := K) g1
      refine ⟨_, rfl, rfl, _, rfl, iteF' rfl ⟨_, rfl, rfl, _, rfl, iteF' rfl ⟨_, rfl, rfl, _, rfl, iteT' rfl ?_⟩⟩⟩
      refine ⟨_, rfl, a, _, _, _, rfl, rfl, ta, at_1, .int o, .num o, rfl, by simp only [VR], rfl, _, rfl, iteF' rfl ?_⟩
      refine ⟨_, rfl, a, _, _, _, rfl, rfl, ta, at_1, _, rfl, b, _, _, _, rfl, rfl, tb, at_1, rfl, _, rfl, ?_⟩
      by_cases e1 : o = o'
      · refine iteF' (by rw [e1]; simp) ⟨_, rfl, a, _, _, _, rfl, rfl, ta, at_2, _, rfl, b, _, _, _, rfl, rfl, tb, at_2, rfl, _, rfl, ?_⟩
        by_cases e2 : x = x'
        · refine iteF' (by rw [e2]; simp) ?_
          refine ⟨_, rfl, a, _, _, _, rfl, rfl, ta, at_3, _, rfl, b, _, _, _, rfl, rfl, tb, at_3, .ref l, .ref l', .lst vs, .lst ws, rfl, by simp only [VH]; exact ⟨l, xs, rfl, h2, h3⟩, by simp only [VR]; exact ⟨l', ys, rfl, g2, g3⟩, ?_, ?_, ?_, fun H' s' => ?_⟩
          · refine .inl ?_
            simp only [okV] at oa ⊢
            obtain ⟨k', e, _, _, p1, p2⟩ := oa
            exact ⟨k', e, p1, p2⟩
          · refine .inl ?_
            simp only [okV] at ob ⊢
            obtain ⟨k', e, _, _, p1, p2⟩ := ob
            exact ⟨k', e, p1, p2⟩
          · simp only [cst] at hc ⊢
            omega
          · have z := q H' s'
            simp only [sameV, e1, e2, decide_true, Bool.true_and] at z ⊢
            exact z
        · refine iteT' (by simpa using e2) ?_
          simp only [sameV, e2, decide_false, Bool.false_and, Bool.and_false] at q0
          exact q0
      · refine iteT' (by simpa using e1) ?_
        simp only [sameV, e1, decide_false, Bool.false_and] at q0
        exact q0
    | nul =>
      obtain rfl : e = .nul := by cases e <;> first | rfl | exact nomatch tg
      simp only [VH] at ha
      simp only [VR] at hb
      subst ha hb
      exact ⟨_, rfl, rfl, _, rfl, iteF' rfl ⟨_, rfl, rfl, _, rfl, iteF' rfl ⟨_, rfl, rfl, _, rfl, iteF' rfl ⟨_, rfl, _, rfl, rfl, q0⟩⟩⟩⟩
    | bl x =>
      obtain ⟨y, rfl⟩ : ∃ y, e = .bl y := by cases e <;> first | exact ⟨_, rfl⟩ | exact nomatch tg
      simp only [VH] at ha
      simp only [VR] at hb
      subst ha hb
      have : sameV (.bl x) (.bl y) = decide (V.bl x = V.bl y) := by simp [sameV]
      rw [this] at q0
      exact ⟨_, rfl, rfl, _, rfl, iteF' rfl ⟨_, rfl, rfl, _, rfl, iteF' rfl ⟨_, rfl, rfl, _, rfl, iteF' rfl ⟨_, rfl, _, rfl, rfl, q0⟩⟩⟩⟩
    | num x =>
      obtain ⟨y, rfl⟩ : ∃ y, e = .num y := by cases e <;> first | exact ⟨_, rfl⟩ | exact nomatch tg
      simp only [VH] at ha
      simp only [VR] at hb
      subst ha hb
      have : sameV (.num x) (.num y) = decide (V.int x = V.int y) := by simp [sameV]
      rw [this] at q0
      exact ⟨_, rfl, rfl, _, rfl, iteF' rfl ⟨_, rfl, rfl, _, rfl, iteF' rfl ⟨_, rfl, rfl, _, rfl, iteF' rfl ⟨_, rfl, _, rfl, rfl, q0⟩⟩⟩⟩
    | txt x =>
      obtain ⟨y, rfl⟩ : ∃ y, e = .txt y := by cases e <;> first | exact ⟨_, rfl⟩ | exact nomatch tg
      simp only [VH] at ha
      simp only [VR] at hb
      subst ha hb
      have : sameV (.txt x) (.txt y) = decide (V.str x = V.str y) := by simp [sameV]
      rw [this] at q0
      exact ⟨_, rfl, rfl, _, rfl, iteF' rfl ⟨_, rfl, rfl, _, rfl, iteF' rfl ⟨_, rfl, rfl, _, rfl, iteF' rfl ⟨_, rfl, _, rfl, rfl, q0⟩⟩⟩⟩
theorem ls_0 (T : Txt K w mg C) {k : Nat} : Cal P w K mg base (k + 1) "_law_same" spFalse := cal_of T.d__law_same sc__law_same (fun vs H Q E h => h.elim) (fun f cdv A outer s H vs Q E hr h => h.elim)
theorem ls_N (T : Txt K w mg C) : ∀ m : Nat, Cal P w K mg base (m + 3) "_law_same" (spLS m)
  | 0 => ls_S T (sp := spFalse) (by decide) (fun j h => by omega) (ls_0 T)
  | m + 1 => ls_S T (sp := spLS m) (by omega) (fun j h => by rw [show j = m by omega]) (ls_N T m)
end
end VL

set_option Elab.async false
set_option linter.all false
set_option pp.maxSteps 500
set_option maxRecDepth 100000
set_option maxHeartbeats 4000000
namespace VL
open PySem PySem.Spec PyProof.Rows L2
/-! ### a copy's own objects are changed -/
def Kb (C : List Addr) (H H' : Hp) : Prop := ∀ b o, b ∉ C → H b = some o → H' b = some o
mutual
theorem VT_own {H : Hp} : ∀ (d : Val) (v : V) (A : List Addr), VT H d v A → ∀ a ∈ A, ∀ xs, H a ≠ some (.tup xs)
  | .nul, v, A, h, a, ha, xs => by simp only [VT] at h; rw [h.2] at ha; exact nomatch ha
  | .bl b, v, A, h, a, ha, xs => by simp only [VT] at h; rw [h.2] at ha; exact nomatch ha
  | .num i, v, A, h, a, ha, xs => by simp only [VT] at h; rw [h.2] at ha; exact nomatch ha
  | .txt x, v, A, h, a, ha, xs => by simp only [VT] at h; rw [h.2] at ha; exact nomatch ha
  | .lst vs, v, A, h, a, ha, xs => by
    simp only [VT] at h
    obtain ⟨b, ys, B, e, h1, h2, h3⟩ := h
    rw [h3] at ha
    rcases List.mem_cons.mp ha with e | ha
    · rw [e, h1]
      exact fun z => nomatch z
    · exact VTs_own vs ys B h2 a ha xs
  | .rc ks vs, v, A, h, a, ha, xs => by
    simp only [VT] at h
    obtain ⟨b, ys, B, e, h1, _, _, h2, h3⟩ := h
    rw [h3] at ha
    rcases List.mem_cons.mp ha with e | ha
    · rw [e, h1]
      exact fun z => nomatch z
    · exact VTs_own vs _ B h2 a ha xs
  | .act o n vs, v, A, h, a, ha, xs => by
    simp only [VT] at h
    obtain ⟨b, l, ys, B, e, h0, h1, h2, h3⟩ := h
    rw [h3] at ha
    rcases List.mem_cons.mp ha with e | ha
    · rw [e, h1]
      exact fun z => nomatch z
    · exact VTs_own vs ys B h2 a ha xs
theorem VTs_own {H : Hp} : ∀ (ds : List Val) (xs : List V) (A : List Addr), VTs H ds xs A → ∀ a ∈ A, ∀ ys, H a ≠ some (.tup ys)
  | [], xs, A, h, a, ha, ys => by simp only [VTs] at h; rw [h.2] at ha; exact nomatch ha
  | d :: ds, xs, A, h, a, ha, ys => by
    simp only [VTs] at h
    obtain ⟨x, zs, B, D, e, h1, h2, h3⟩ := h
    rw [h3] at ha
    rcases List.mem_append.mp ha with ha | ha
    · exact VT_own d x B h1 a ha ys
    · exact VTs_own ds zs D h2 a ha ys
end
section
variable {H H' : Hp} {C : List Addr}
mutual
theorem VT_keep (k : Kb C H H') (t : ∀ c ∈ C, ∀ xs, H c ≠ some (.tup xs)) : ∀ (d : Val) (v : V) (A : List Addr), VT H d v A → (∀ c ∈ C, c ∉ A) → VT H' d v A
  | .nul, v, A, h, o => by simpa only [VT] using h
  | .bl b, v, A, h, o => by simpa only [VT] using h
  | .num i, v, A, h, o => by simpa only [VT] using h
  | .txt x, v, A, h, o => by simpa only [VT] using h
  | .lst vs, v, A, h, o => by
    simp only [VT] at h ⊢
    obtain ⟨a, xs, B, e, h1, h2, h3⟩ := h
    rw [h3] at o
    exact ⟨a, xs, B, e, k a _ (fun z => o a z List.mem_cons_self) h1, VTs_keep k t vs xs B h2 (fun c hc z => o c hc (List.mem_cons_of_mem _ z)), h3⟩
  | .rc ks vs, v, A, h, o => by
    simp only [VT] at h ⊢
    obtain ⟨a, kvs, B, e, h1, h2, h3, h4, h5⟩ := h
    rw [h5] at o
    exact ⟨a, kvs, B, e, k a _ (fun z => o a z List.mem_cons_self) h1, h2, h3, VTs_keep k t vs _ B h4 (fun c hc z => o c hc (List.mem_cons_of_mem _ z)), h5⟩
  | .act p n vs, v, A, h, o => by
    simp only [VT] at h ⊢
    obtain ⟨a, l, xs, B, e, h1, h2, h3, h4⟩ := h
    rw [h4] at o
    exact ⟨a, l, xs, B, e, k a _ (fun z => t a z _ h1) h1, k l _ (fun z => o l z List.mem_cons_self) h2, VTs_keep k t vs xs B h3 (fun c hc z => o c hc (List.mem_cons_of_mem _ z)), h4⟩
theorem VTs_keep (k : Kb C H H') (t : ∀ c ∈ C, ∀ xs, H c ≠ some (.tup xs)) : ∀ (ds : List Val) (xs : List V) (A : List Addr), VTs H ds xs A → (∀ c ∈ C, c ∉ A) → VTs H' ds xs A
  | [], xs, A, h, o => by simpa only [VTs] using h
  | d :: ds, xs, A, h, o => by
    simp only [VTs] at h ⊢
    obtain ⟨x, ys, B, D, e, h1, h2, h3⟩ := h
    rw [h3] at o
    exact ⟨x, ys, B, D, e, VT_keep k t d x B h1 (fun c hc z => o c hc (List.mem_append_left _ z)), VTs_keep k t ds ys D h2 (fun c hc z => o c hc (List.mem_append_right _ z)), h3⟩
end
end
theorem vt_mem {H : Hp} {d : Val} {v : V} {A : List Addr} {xs : List V} (h : VT H d v A) (m : MemX H d v xs) : ∃ B, VTs H (partsV d) xs B ∧ (∀ b ∈ B, b ∈ A) ∧ (A.Nodup → B.Nodup ∧ ∀ r, RowR H d v r → r ∉ B) := by
  cases d with
  | lst vs =>
    simp only [VT] at h
    obtain ⟨a, ys, B, rfl, h1, h2, rfl⟩ := h
    obtain ⟨a', e, m1⟩ := m
    cases e
    rw [h1] at m1
    cases m1
    refine ⟨B, h2, fun b hb => List.mem_cons_of_mem _ hb, fun nd => ⟨(List.nodup_cons.mp nd).2, fun r hr => ?_⟩⟩
    cases (show V.ref a = V.ref r from hr)
    exact (List.nodup_cons.mp nd).1
  | rc ks vs =>
    simp only [VT] at h
    obtain ⟨a, kvs, B, rfl, h1, _, _, h2, rfl⟩ := h
    obtain ⟨a', kvs', e, m1, rfl⟩ := m
    cases e
    rw [h1] at m1
    cases m1
    refine ⟨B, h2, fun b hb => List.mem_cons_of_mem _ hb, fun nd => ⟨(List.nodup_cons.mp nd).2, fun r hr hb => ?_⟩⟩
    have := (VTs_vh _ _ _ h2).2 r hb
    rw [show H r = none from hr] at this
    exact nomatch this
  | act o n vs =>
    simp only [VT] at h
    obtain ⟨a, l, ys, B, rfl, h1, h2, h3, rfl⟩ := h
    obtain ⟨a', l', x, y, z, e, m1, m2⟩ := m
    cases e
    rw [h1] at m1
    cases m1
    rw [h2] at m2
    cases m2
    refine ⟨B, h3, fun b hb => List.mem_cons_of_mem _ hb, fun nd => ⟨(List.nodup_cons.mp nd).2, fun r hr => ?_⟩⟩
    obtain ⟨a', x', y', z', e, m1⟩ := hr
    cases e
    rw [h1] at m1
    cases m1
    exact (List.nodup_cons.mp nd).1
  | _ => exact ⟨[], by rw [show xs = [] from m]; exact .nil, fun b hb => (nomatch hb), fun _ => ⟨List.nodup_nil, fun r _ hb => nomatch hb⟩⟩
theorem vt_put {H : Hp} {n : Nat} {k : Str} {v : V} {d : Val} (hv : VT H d v []) (hok : okV d n) : ∀ {kvs : List (Key × V)} {ks : List Str} {vs : List Val} {A : List Addr}, kvs.map (·.1) = ks.map Sum.inr → ks.Nodup → VTs H vs (kvs.map (·.2)) A → okVs vs n →
    ∃ (ks' : List Str) (vs' : List Val) (A' : List Addr), (putK kvs (.inr k) v).map (·.1) = ks'.map Sum.inr ∧ ks'.Nodup ∧ VTs H vs' ((putK kvs (.inr k) v).map (·.2)) A' ∧ okVs vs' n ∧ A'.Sublist A ∧ vs'.length ≤ vs.length + 1 ∧ ∀ x ∈ ks', x = k ∨ x ∈ ks
  | [], ks, vs, A, h1, h2, h3, h4 => by
    have e1 : ks = [] := by cases ks <;> simp at h1 ⊢
    subst e1
    cases vs with
    | cons e vs => simp [VTs] at h3
    | nil =>
      refine ⟨[k], [d], [], rfl, by simp, ?_, by simp only [okVs]; exact ⟨hok, trivial⟩, List.nil_sublist _, by simp, fun x hx => .inl (List.mem_singleton.mp hx)⟩
      have e : (putK ([] : List (Key × V)) (.inr k) v).map (·.2) = [] ++ [v] := rfl
      rw [e]
      exact (VTs.nil (H := H)).snoc hv
  | p :: kvs, ks, vs, A, h1, h2, h3, h4 => by
    cases ks with
    | nil => simp at h1
    | cons l ks =>
      simp only [List.map_cons, List.cons.injEq] at h1
      cases vs with
      | nil => simp [VTs] at h3
      | cons e vs =>
        simp only [VTs, List.map_cons, List.cons.injEq] at h3
        obtain ⟨y, ys, B, D, ⟨rfl, rfl⟩, g1, g2, rfl⟩ := h3
        simp only [okVs] at h4
        have nd := List.nodup_cons.mp h2
        by_cases z : l = k
        · subst z
          have tl : kvs.map (fun kv => if kv.1 = Sum.inr l then (kv.1, v) else kv) = kvs := by
            have : kvs.map (fun kv => if kv.1 = Sum.inr l then (kv.1, v) else kv) = kvs.map id := List.map_congr_left fun q hq => by
              have hm : q.1 ∈ kvs.map (·.1) := List.mem_map.mpr ⟨q, hq, rfl⟩
              rw [h1.2] at hm
              obtain ⟨x, hx, ex⟩ := List.mem_map.mp hm
              have ne : ¬ q.1 = Sum.inr l := fun z => nd.1 (by rw [← ex] at z; rw [← Sum.inr.inj z]; exact hx)
              rw [if_neg ne]
              rfl
            rw [this, List.map_id]
          have e : putK (p :: kvs) (.inr l) v = (p.1, v) :: kvs := by simp [putK, h1.1, tl]
          rw [e]
          refine ⟨l :: ks, d :: vs, D, by simp only [List.map_cons, h1.1, h1.2], h2, ?_, by simp only [okVs]; exact ⟨hok, h4.2⟩, List.sublist_append_right _ _, by simp, fun x hx => .inr hx⟩
          simp only [VTs, List.map_cons]
          exact ⟨v, _, [], D, rfl, hv, g2, rfl⟩
        · have e' : putK (p :: kvs) (.inr k) v = p :: putK kvs (.inr k) v := by
            have : ¬ p.1 = .inr k := by rw [h1.1]; exact fun q => z (Sum.inr.inj q)
            by_cases an : (kvs.any fun kv => decide (kv.1 = Sum.inr k)) = true <;> simp [putK, this, an]
          rw [e']
          obtain ⟨ks1, vs1, A1, r1, r2, r3, r4, r5, r6, hm⟩ := vt_put (k := k) hv hok (kvs := kvs) (ks := ks) (vs := vs) (A := D) h1.2 nd.2 g2 h4.2
          refine ⟨l :: ks1, e :: vs1, B ++ A1, ?_, ?_, ?_, ?_, (List.append_sublist_append_left B).mpr r5, by simp only [List.length_cons]; omega, ?_⟩
          · simp only [List.map_cons, h1.1, r1]
          · refine List.nodup_cons.mpr ⟨fun hx => ?_, r2⟩
            rcases hm l hx with q | q
            · exact z q
            · exact nd.1 q
          · simp only [VTs, List.map_cons]
            exact ⟨p.2, _, B, A1, rfl, g1, r3, rfl⟩
          · simp only [okVs]; exact ⟨h4.1, r4⟩
          · intro x hx
            rcases List.mem_cons.mp hx with rfl | hx
            · exact .inr List.mem_cons_self
            · rcases hm x hx with q | q
              · exact .inl q
              · exact .inr (List.mem_cons_of_mem _ q)
def spAp (n : Nat) : Sp := fun vs H Q _ => ∃ (v : V) (d : Val) (A : List Addr), vs = [v] ∧ VT H d v A ∧ A.Nodup ∧ okV d n ∧ ∀ H', Kb A H H' → Q .non H'
section
variable {P : Program} {w : World} {K : PySem.W.Frag} {mg : Str → Option Value} {base : Heap} {C : Ad}
theorem sc__law_apart : FnScope ["value", "part"] ["value"] (defScope s__law_apart) := ⟨rfl, rfl, rfl, by decide +kernel, rfl, by decide +kernel, by decide +kernel⟩
theorem ap_S (T : Txt K w mg C) {n k : Nat} {sp : Sp} (hk : 2 ≤ k) (hsp : ∀ m, m + 1 = n → sp = spAp m) (G_law_apart : Cal P w K mg base k "_law_apart" sp) : Cal P w K mg base (k + 1) "_law_apart" (spAp n) := by
  have G_law_kind := ok_kind (P := P) (base := base) T
  have G_law_parts := ok_parts (P := P) (base := base) T
  refine cal_of T.d__law_apart sc__law_apart (fun vs H Q E h => ?_) (fun f cdv A0 outer s H vs Q E hr h => ?_)
  · obtain ⟨v, d, A, rfl, _⟩ := h
    rfl
  · obtain ⟨v, d, A, rfl, hv, nd, hok, q⟩ := h
    have hu := hu_of hr
    have big : 100000 < sizeLine := by decide
    have vh := (VT_vh d v A hv).1
    obtain ⟨pk, pl⟩ := okV_partsM hok
    have n0 : n = 0 → partsV d = [] := fun z => by
      subst z
      have hw := okV_parts0 hok
      cases d <;> first | rfl | exact nomatch hw
    refine ⟨_, (C8.pss_cut (ps_if (pt_cmpR op_eq (pe_c G_law_kind hr (by omega) (by rfl) (pa_cons (pv 0) pa_nil)) pe_str (nomark _)) (pss_one (ps_expr (pe_bm PySem.F.plainAttrs_list PySem.F.slot_list_append PySem.F.type_list_append mt_append (pv 0) (pa_cons pe_int pa_nil)))) pss_nil) (C8.pss_cut (ps_if (pt_cmpR op_eq (pe_c G_law_kind hr (by omega) (by rfl) (pa_cons (pv 0) pa_nil)) pe_str (nomark _)) (pss_one (ps_dput hu (pv 0) pe_str pe_int rfl)) pss_nil) (pss_one (ps_for PassesOwn.never rfl (pi_list (pe_c G_law_parts hr (by omega) (by rfl) (pa_cons (pv 0) pa_nil))) (pg_name (i := 1) sc__law_apart.nd rfl (Or.inl rfl)) (pss_one (ps_expr (pe_c G_law_apart hr (by omega) (by rfl) (pa_cons (pv 1) pa_nil)))))))), ?_⟩
    refine ⟨fun σ' H' => σ' = [some v, none] ∧ ((isD d = true ∧ H' = H) ∨ ∃ d1, isD d1 = false ∧ VT H' d1 v A ∧ Kb A H H' ∧ okVs (partsV d1) (n - 1) ∧ (n = 0 → partsV d1 = [])), ?_, ?_⟩
    · refine ⟨_, rfl, v, d, rfl, vh.vr, rfl, _, rfl, ?_⟩
      cases d with
      | lst vs =>
        simp only [VT] at hv
        obtain ⟨a, xs, B, rfl, h1, h2, rfl⟩ := hv
        have xl := (VTs_vh _ _ _ h2).1.len
        have vl : vs.length ≤ 4 := pl
        have kb : Kb [a] H (upd H a (.lst (xs ++ [.int 5]))) := fun b o hb e => by rw [upd_ne (fun z => hb (by rw [z]; exact List.mem_singleton.mpr rfl))]; exact e
        have nB := (List.nodup_cons.mp nd).1
        refine iteT' rfl ⟨_, rfl, .inl ⟨rfl, _, SqL.of h1⟩, a, xs, .int 5, rfl, rfl, h1, by omega, rfl, .inr ⟨.lst (vs ++ [.num 5]), rfl, ?_, fun b o hb e => kb b o (fun z => hb (by rw [List.mem_singleton.mp z]; exact List.mem_cons_self)) e, ?_, fun z => ?_⟩⟩
        · simp only [VT]
          refine ⟨a, xs ++ [.int 5], B, rfl, upd_same, ?_, rfl⟩
          have h3 := VTs_keep kb (fun c hc ys => by rw [List.mem_singleton.mp hc, h1]; exact fun z => nomatch z) vs xs B h2 (fun c hc => by rw [List.mem_singleton.mp hc]; exact nB)
          have := h3.snoc (d := .num 5) (v := .int 5) (B := []) (by simp [VT])
          rwa [List.append_nil] at this
        · refine okVs_app.mpr ⟨pk, ?_⟩
          simp only [okVs]
          exact ⟨ok_num (by decide) (by decide), trivial⟩
        · subst z
          exact nomatch okV_parts0 hok
      | rc ks vs => exact iteF' rfl ⟨rfl, .inl ⟨rfl, rfl⟩⟩
      | _ => exact iteF' rfl ⟨rfl, .inr ⟨_, rfl, hv, fun b o _ e => e, pk, n0⟩⟩
    rintro σ' H1 ⟨rfl, hcase⟩
    refine ⟨fun σ' H' => σ' = [some v, none] ∧ ∃ (d2 : Val) (A2 : List Addr), VT H' d2 v A2 ∧ A2.Nodup ∧ (∀ b ∈ A2, b ∈ A) ∧ Kb A H H' ∧ okVs (partsV d2) (n - 1) ∧ (n = 0 → partsV d2 = []) ∧ PzOk d2, ?_, ?_⟩
    · rcases hcase with ⟨hd, rfl⟩ | ⟨d1, i1, v1, k1, p1, z1⟩
      · cases d with
        | rc ks vs =>
          simp only [VT] at hv
          obtain ⟨a, kvs, B, rfl, h1, h2, h3, h4, rfl⟩ := hv
          have vl : vs.length ≤ 4 := pl
          have xl := (VTs_vh _ _ _ h4).1.len
          rw [List.length_map] at xl
          have nB := (List.nodup_cons.mp nd).1
          obtain ⟨ks', vs', A', r1, r2, r3, r4, r5, r6, _⟩ := vt_put (H := H1) (k := "new") (v := .int 1) (d := .num 1) (by simp [VT]) (ok_num (by decide) (by decide)) h2 h3 h4 pk
          have kb : Kb [a] H1 (upd H1 a (.dK (putK kvs (.inr "new") (.int 1)))) := fun b o hb e => by rw [upd_ne (fun z => hb (by rw [z]; exact List.mem_singleton.mpr rfl))]; exact e
          have nA' : a ∉ A' := fun z => nB (r5.subset z)
          refine ⟨_, rfl, _, _, rfl, vh.vr, rfl, _, rfl, iteT' rfl ⟨_, rfl, a, _, rfl, DPut.k (k := .inr "new") h1 (by omega), rfl, .rc ks' vs', a :: A', ?_, ?_, ?_, fun b o hb e => kb b o (fun z => hb (by rw [List.mem_singleton.mp z]; exact List.mem_cons_self)) e, r4, fun z => ?_, ?_⟩⟩
          · simp only [VT]
            exact ⟨a, _, A', rfl, upd_same, r1, r2, VTs_keep kb (fun c hc ys => by rw [List.mem_singleton.mp hc, h1]; exact fun z => nomatch z) _ _ _ r3 (fun c hc => by rw [List.mem_singleton.mp hc]; exact nA'), rfl⟩
          · exact List.nodup_cons.mpr ⟨nA', (List.nodup_cons.mp nd).2.sublist r5⟩
          · intro b hb
            rcases List.mem_cons.mp hb with rfl | hb
            · exact List.mem_cons_self
            · exact List.mem_cons_of_mem _ (r5.subset hb)
          · subst z
            exact nomatch okV_parts0 hok
          · have e1 := congrArg List.length r1
            have e2 := (VTs_vh _ _ _ r3).1.len
            simp only [List.length_map] at e1 e2
            exact ⟨by omega, by omega⟩
        | _ => exact nomatch hd
      · have vh1 := (VT_vh d1 v A v1).1
        refine ⟨_, rfl, v, d1, rfl, vh1.vr, rfl, _, rfl, iteF' ?_ ⟨rfl, d1, A, v1, nd, fun b hb => hb, k1, p1, z1, ?_⟩⟩
        · refine decide_eq_false fun z => ?_
          have z' := V.str.inj z
          revert z'
          cases d1 <;> first | (simp only [kindN]; decide) | exact nomatch i1
        · cases d1 <;> first | trivial | exact nomatch i1
    · rintro σ' H2 ⟨rfl, d2, A2, v2, nd2, sub, kb, p2, z2, pz⟩
      have vh2 := (VT_vh d2 v A2 v2).1
      refine ⟨_, rfl, v, d2, H2, [], rfl, Sb.nil, vh2, pz, fun r xs G' H' S' g' hr mem row _ => ?_⟩
      obtain ⟨B, vB, subB, out⟩ := vt_mem v2 mem
      obtain ⟨ndB, rB⟩ := out nd2
      have rnb := rB r row
      have s2 : Same H2 H' := Same.trans g' S'.s
      have vB' := vB.same s2
      have hr' := S'.s _ _ hr
      have own := VTs_own _ _ _ vB'
      refine ⟨r, rfl, ⟨_, SqL.of hr'⟩, ?_⟩
      refine for_it (walk_list (K := K) (a := r) (xs := xs)) (fun i σ H'' => (∃ y1 : Option V, σ = [some v, y1]) ∧ ∃ C R : List Addr, B = C ++ R ∧ VTs H' ((partsV d2).drop i) (xs.drop i) R ∧ Kb C H' H'') ⟨⟨_, rfl⟩, [], B, rfl, vB', fun b o _ e => e⟩ (fun i σ H'' _ z => ?_) ?_ ?_
      · obtain ⟨_, C, R, hB, _, kC⟩ := z
        exact SqL.of (kC r _ (fun z => rnb (by rw [hB]; exact List.mem_append_left _ z)) hr')
      · rintro i x σ H3 H4 hi ⟨⟨y1, rfl⟩, C, R, hB, vR, kC⟩ ⟨rfl, hx⟩
        have dx : xs.drop i = x :: xs.drop (i + 1) := by
          rw [List.drop_eq_getElem_cons hi]
          rw [List.getElem?_eq_getElem hi] at hx
          rw [Option.some.inj hx]
        rw [dx] at vR
        cases hd : (partsV d2).drop i with
        | nil => rw [hd] at vR; simp [VTs] at vR
        | cons e ds =>
          have hds : ds = (partsV d2).drop (i + 1) := by rw [← List.tail_drop, hd]; rfl
          rw [hd] at vR
          simp only [VTs] at vR
          obtain ⟨x', ys, B1, D, ex, ve, vD, rfl⟩ := vR
          cases ex
          have em : e ∈ partsV d2 := List.mem_of_mem_drop (by rw [hd]; exact List.mem_cons_self)
          obtain ⟨m, rfl⟩ : ∃ m, n = m + 1 := by
            cases n with
            | zero => rw [z2 rfl] at em; exact nomatch em
            | succ m => exact ⟨m, rfl⟩
          have e' := hsp m rfl
          subst e'
          rw [hB] at ndB
          obtain ⟨nC, nR, dis⟩ := List.nodup_append.mp ndB
          obtain ⟨nB1, nD, _⟩ := List.nodup_append.mp nR
          have ve3 := VT_keep kC (fun c hc ys => own c (by rw [hB]; exact List.mem_append_left _ hc) ys) e x B1 ve (fun c hc z => dis c hc c (List.mem_append_left _ z) rfl)
          refine ⟨_, rfl, x, e, B1, rfl, ve3, nB1, okVs_mem p2 em, fun H5 k5 => ⟨⟨_, rfl⟩, C ++ B1, D, by rw [hB, List.append_assoc], by rw [← hds]; exact vD, fun b o hb e => k5 b o (fun z => hb (List.mem_append_right _ z)) (kC b o (fun z => hb (List.mem_append_left _ z)) e)⟩⟩
      · rintro σ H3 ⟨⟨y1, rfl⟩, C, R, hB, vR, kC⟩
        exact q H3 fun b o hb e => kC b _ (fun z => hb (sub b (subB b (by rw [hB]; exact List.mem_append_left _ z)))) (s2 _ _ (kb b o hb e))
theorem ap_0 (T : Txt K w mg C) {k : Nat} : Cal P w K mg base (k + 1) "_law_apart" spFalse := cal_of T.d__law_apart sc__law_apart (fun vs H Q E h => h.elim) (fun f cdv A outer s H vs Q E hr h => h.elim)
theorem ap_N (T : Txt K w mg C) : ∀ n : Nat, Cal P w K mg base (n + 3) "_law_apart" (spAp n)
  | 0 => ap_S T (sp := spFalse) (by decide) (fun j h => by omega) (ap_0 T)
  | n + 1 => ap_S T (sp := spAp n) (by omega) (fun j h => by rw [show j = n by omega]) (ap_N T n)
end
end VL

set_option Elab.async false
set_option linter.all false
set_option pp.maxSteps 500
set_option maxRecDepth 100000
set_option maxHeartbeats 4000000
namespace VL
open PySem PySem.Spec PyProof.Rows L2
def tvV : Val → Val
  | .nul => .txt ""
  | .bl b => .txt (if b then "true" else "false")
  | .num i => .txt (Str.ofString (toString i))
  | .txt x => .txt x
  | _ => .nul
theorem tv_vh {H : Hp} (d : Val) : VH H (tvV d) (textV d) := by cases d <;> simp [tvV, textV, VH]
theorem tv_ok (d : Val) : okW (tvV d) := by
  cases d <;> first | exact .inr ⟨_, rfl⟩ | exact .inl (by simp [tvV, okV])
theorem tv_same (d : Val) : sameV (tvV d) (tvV d) = true := by cases d <;> simp [tvV, sameV]
theorem tv_cst (d : Val) : cst (tvV d) ≤ 10 := by cases d <;> simp [tvV, cst]
def spRight : Sp := fun vs H Q _ => ∃ (v : V) (d : Val), vs = [v] ∧ VH H d v ∧ okV d 5 ∧ ∀ H', Same H H' → Q (.bl true) H'
def spOther (n : Nat) : Sp := fun vs H Q _ => ∃ (sa : Addr) (s : Int) (v : V) (d : Val) (G : Hp) (M : List (Addr × HO)), vs = [v, .ref sa] ∧ Sb G H ((sa, .lst [.int s]) :: M) ∧ VH G d v ∧ okV d n ∧ n ≤ 3 ∧ ∀ v' d' s' G' H', Sb G' H' ((sa, .lst [.int s']) :: M) → Same G G' → VH G' d' v' → okV d' (n + 2) → Q v' H'
section
variable {P : Program} {w : World} {K : PySem.W.Frag} {mg : Str → Option Value} {base : Heap} {C : Ad}
theorem sc__law_told_right : FnScope ["value", "told", "due"] ["value"] (defScope s__law_told_right) := ⟨rfl, rfl, rfl, by decide +kernel, rfl, by decide +kernel, by decide +kernel⟩
theorem ok_right (T : Txt K w mg C) : Cal P w K mg base 20 "_law_told_right" spRight := by
  have G_law_kind := ok_kind (P := P) (base := base) T
  have Gdepth := ok_depth (P := P) (base := base) T
  have Gsize := ok_size (P := P) (base := base) T
  have Gtext_of := ok_textOf (P := P) (base := base) T
  have G_law_depth := ld_N (P := P) (base := base) T 5
  have G_law_size := lz_N (P := P) (base := base) T 5
  have G_law_text_of := ok_ltx (P := P) (base := base) T
  have G_law_same := ls_N (P := P) (base := base) T 10
  refine cal_of T.d__law_told_right sc__law_told_right (fun vs H Q E h => ?_) (fun f cdv A outer s H vs Q E hr h => ?_)
  · obtain ⟨v, d, rfl, _⟩ := h
    rfl
  · obtain ⟨v, d, rfl, hv, hok, q⟩ := h
    refine ⟨_, (pss_cons (ps_for PassesOwn.never rfl (pi_list (pe_lst (pa_cons (pe_tup (pa_cons (pe_c Gdepth hr (by decide) (by rfl) (pa_cons (pv 0) pa_nil)) (pa_cons (pe_c G_law_depth hr (by decide) (by rfl) (pa_cons (pv 0) pa_nil)) pa_nil))) (pa_cons (pe_tup (pa_cons (pe_c Gsize hr (by decide) (by rfl) (pa_cons (pv 0) pa_nil)) (pa_cons (pe_c G_law_size hr (by decide) (by rfl) (pa_cons (pv 0) pa_nil)) pa_nil))) pa_nil)))) (pg_tup rfl (pgs_cons (pg_name (i := 1) sc__law_told_right.nd rfl (Or.inl rfl)) (pgs_cons (pg_name (i := 2) sc__law_told_right.nd rfl (Or.inl rfl)) pgs_nil))) (pss_one (ps_if (PW.pt (pw_or (pt_cmpR op_ne (pe_c G_law_kind hr (by decide) (by rfl) (pa_cons (pv 1) pa_nil)) pe_str (nomark _)) (pw_or1 (pt_cmpR op_ne (pv 1) (pv 2) (nomark _))))) (pss_one (ps_ret pe_bl)) pss_nil))) (pss_one (ps_ret (pe_c G_law_same hr (by decide) (by rfl) (pa_cons (pe_c Gtext_of hr (by decide) (by rfl) (pa_cons (pv 0) pa_nil)) (pa_cons (pe_c G_law_text_of hr (by decide) (by rfl) (pa_cons (pv 0) pa_nil)) pa_nil)))))), ?_⟩
    refine ⟨_, rfl, v, d, H, [], rfl, Sb.nil, hv, hok, fun G1 H1 S1 g1 => ?_⟩
    have s1 := Same.trans g1 S1.s
    refine ⟨_, rfl, v, d, H1, [], rfl, Sb.nil, hv.same s1, hok, Nat.le_refl _, fun G2 H2 S2 g2 => ⟨by show 2 ≤ sizeLine; decide, fun t1 ht1 => ?_⟩⟩
    have s2 := Same.trans s1 (Same.trans g2 S2.s)
    have s3 := Same.trans s2 (Sm.new (o := .tup [.int (depthV d : Int), .int (depthV d : Int)]) ht1)
    have h1 : upd H2 t1 (.tup [.int (depthV d : Int), .int (depthV d : Int)]) t1 = some (.tup [.int (depthV d : Int), .int (depthV d : Int)]) := upd_same
    generalize upd H2 t1 (.tup [.int (depthV d : Int), .int (depthV d : Int)]) = H3 at s3 h1 ⊢
    refine ⟨_, rfl, v, d, H3, [], rfl, Sb.nil, hv.same s3, hok, fun G4 H4 S4 g4 => ?_⟩
    have s4 := Same.trans g4 S4.s
    refine ⟨_, rfl, v, d, H4, [], rfl, Sb.nil, hv.same (Same.trans s3 s4), hok, Nat.le_refl _, fun G5 H5 S5 g5 => ⟨by show 2 ≤ sizeLine; decide, fun t2 ht2 => ?_⟩⟩
    have s5 := Same.trans s4 (Same.trans g5 S5.s)
    have s6 := Same.trans s5 (Sm.new (o := .tup [.int (sizeV d : Int), .int (sizeV d : Int)]) ht2)
    have h2 : upd H5 t2 (.tup [.int (sizeV d : Int), .int (sizeV d : Int)]) t2 = some (.tup [.int (sizeV d : Int), .int (sizeV d : Int)]) := upd_same
    have h1' := s6 _ _ h1
    have s36 := Same.trans s3 s6
    generalize upd H5 t2 (.tup [.int (sizeV d : Int), .int (sizeV d : Int)]) = H6 at h2 h1' s36 ⊢
    refine ⟨by show 2 ≤ sizeLine; decide, fun l hl => ?_⟩
    have s7 := Sm.new (o := .lst [.ref t1, .ref t2]) hl
    have hl7 : upd H6 l (.lst [.ref t1, .ref t2]) l = some (.lst [.ref t1, .ref t2]) := upd_same
    have h1s := s7 _ _ h1'
    have h2s := s7 _ _ h2
    have s37 := Same.trans s36 s7
    generalize upd H6 l (.lst [.ref t1, .ref t2]) = H7 at hl7 h1s h2s s37 ⊢
    refine ⟨l, rfl, ⟨_, SqL.of hl7⟩, ?_⟩
    refine for_it (walk_list (K := K) (a := l) (xs := [V.ref t1, .ref t2])) (fun i σ H' => Same H7 H' ∧ ∃ y1 y2 : Option V, σ = [some v, y1, y2]) ⟨Same.refl _, _, _, rfl⟩ (fun i σ H' _ z => SqL.of (z.1 _ _ hl7)) ?_ ?_
    · rintro i x σ H8 H9 hi ⟨s8, y1, y2, rfl⟩ ⟨rfl, hx⟩
      obtain ⟨t, k, rfl, ht⟩ : ∃ t, ∃ k : Nat, x = .ref t ∧ H7 t = some (.tup [.int (k : Int), .int (k : Int)]) := by
        have hm := List.mem_of_getElem? hx
        simp only [List.mem_cons, List.not_mem_nil, or_false] at hm
        rcases hm with rfl | rfl
        · exact ⟨t1, _, rfl, h1s⟩
        · exact ⟨t2, _, rfl, h2s⟩
      refine ⟨_, _, rfl, SqT.of (s8 _ _ ht), rfl, _, _, rfl, _, _, rfl, rfl, ?_⟩
      refine ⟨_, rfl, .int (k : Int), .num (k : Int), rfl, by simp only [VR], rfl, _, rfl, iteF' rfl ⟨_, rfl, _, rfl, rfl, _, rfl, iteF' (by simp) ⟨s8, _, _, rfl⟩⟩⟩
    · rintro σ H8 ⟨s8, y1, y2, rfl⟩
      have s38 := Same.trans s37 s8
      refine ⟨_, rfl, v, d, rfl, hv.same s38, hok, _, rfl, v, d, rfl, hv.same s38, hok, fun H9 s9 => ?_⟩
      refine ⟨textV d, textV d, tvV d, tvV d, rfl, tv_vh d, (tv_vh d).vr, tv_ok d, tv_ok d, tv_cst d, fun H10 s10 => ?_⟩
      rw [tv_same]
      exact q H10 (Same.trans s38 (Same.trans s9 s10))
end
end VL

set_option Elab.async false
set_option linter.all false
set_option pp.maxSteps 500
set_option maxRecDepth 100000
set_option maxHeartbeats 4000000
namespace VL
open PySem PySem.Spec PyProof.Rows L2
theorem bool_num {b : Bool} {n : Nat} : okV (.num (if b then 1 else 0)) n := by
  cases b <;> exact ok_num (by decide) (by decide)
section
variable {P : Program} {w : World} {K : PySem.W.Frag} {mg : Str → Option Value} {base : Heap} {C : Ad}
theorem sc__law_other : FnScope ["value", "state", "kind", "choice", "other", "name", "part"] ["value", "state"] (defScope s__law_other) := ⟨rfl, rfl, rfl, by decide +kernel, rfl, by decide +kernel, by decide +kernel⟩
theorem oth_S (T : Txt K w mg C) {n k : Nat} {sp : Sp} (hk : 5 ≤ k) (hsp : ∀ m, m + 1 = n → sp = spOther m) (G_law_other : Cal P w K mg base k "_law_other" sp) : Cal P w K mg base (k + 1) "_law_other" (spOther n) := by
  have G_law_kind := ok_kind (P := P) (base := base) T
  have G_law_digit := ok_dig (P := P) (base := base) T
  have G_law_value := val_N (P := P) (base := base) T 2
  refine cal_of T.d__law_other sc__law_other (fun vs H Q E h => ?_) (fun f cdv A outer s H vs Q E hr h => ?_)
  · obtain ⟨sa, s, v, d, G, M, rfl, _⟩ := h
    rfl
  · obtain ⟨sa, s0, v, d, G0, M, rfl, S0, hv, hok, hn, q⟩ := h
    have hu := hu_of hr
    have big : 100000 < sizeLine := by decide
    have pl := (okV_partsM hok).2
    have pk := (okV_partsM hok).1
    refine ⟨_, (pss_cons (ps_set (i := 2) sc__law_other.nd rfl (Or.inl rfl) (pe_c G_law_kind hr (by omega) (by rfl) (pa_cons (pv 0) pa_nil))) (pss_cons (ps_set (i := 3) sc__law_other.nd rfl (Or.inl rfl) (pe_c G_law_digit hr (by omega) (by rfl) (pa_cons (pv 1) (pa_cons pe_int pa_nil)))) (C8.pss_cut (ps_if (PW.pt (pw_and (pt_cmpR op_eq (pv 2) pe_str (nomark _)) (pw_and1 (pt_cmpR op_lt (pv 3) pe_int (nomark _))))) (pss_one (ps_ret (pe_callTy call_int1 (by rfl) T.z_int (by decide +kernel) (pa_cons (pv 0) pa_nil)))) pss_nil) (C8.pss_cut (ps_if (PW.pt (pw_and (pt_cmpR op_eq (pv 2) pe_str (nomark _)) (pw_and (pt_cmpR op_lt (pv 3) pe_int (nomark _)) (pw_and1 (pt_cmpR op_in_seq (pv 0) (pe_tup (pa_cons pe_int (pa_cons pe_int pa_nil))) rfl))))) (pss_one (ps_ret (pe_cmpR op_eq (pv 0) pe_int (nomark _)))) pss_nil) (C8.pss_cut (ps_if (PW.pt (pw_and (pt_cmpR op_eq (pv 2) pe_str (nomark _)) (pw_and1 (pt_cmpR op_lt (pv 3) pe_int (nomark _))))) (pss_one (ps_ret (pe_lc (own := [("part", 6)]) (g := gName 6) (tt := tYes) rfl sc__law_other.nd (pi_list (pv 0)) (blkOk_by (N := ["value", "state", "kind", "choice", "other", "name", "part"]) (sc := (defScope s__law_other)) (by decide +kernel)) (fun _ _ _ _ _ => pg_name (i := 6) sc__law_other.nd rfl (Or.inl rfl)) (fun _ _ _ _ _ => pts_nil) (fun _ _ _ _ _ => (pe_c G_law_other hr (by omega) (by rfl) (pa_cons (pv 6) (pa_cons (pv 1) pa_nil))))))) pss_nil) (C8.pss_cut (ps_if (PW.pt (pw_and (pt_cmpR op_eq (pv 2) pe_str (nomark _)) (pw_and1 (pt_cmpR op_lt (pv 3) pe_int (nomark _))))) (pss_cons (ps_set (i := 4) sc__law_other.nd rfl (Or.inl rfl) pe_dnewK) (pss_cons (ps_for PassesOwn.never rfl (pi_list (pe_callB (call_sortedD rfl) (by rfl) T.z_sorted (by decide +kernel) (pa_cons (pv 0) pa_nil))) (pg_name (i := 5) sc__law_other.nd rfl (Or.inl rfl)) (pss_one (ps_dput hu (pv 4) (pv 5) (pe_dget hu (pv 0) (pv 5) (fun _ _ => rfl)) rfl))) (pss_one (ps_ret (pv 4))))) pss_nil) (C8.pss_cut (ps_if (PW.pt (pw_and (pt_cmpR op_eq (pv 2) pe_str (nomark _)) (pw_and1 (pt_cmpR op_lt (pv 3) pe_int (nomark _))))) (pss_one (ps_ret (pe_tup (pa_cons pe_str (pa_cons (pe_ix ix_tup (pv 0) pe_int (fun _ _ => rfl)) (pa_cons (pe_ix ix_tup (pv 0) pe_int (fun _ _ => rfl)) (pa_cons (pe_lc (own := [("part", 6)]) (g := gName 6) (tt := tYes) rfl sc__law_other.nd (pi_list (pe_ix ix_tup (pv 0) pe_int (fun _ _ => rfl))) (blkOk_by (N := ["value", "state", "kind", "choice", "other", "name", "part"]) (sc := (defScope s__law_other)) (by decide +kernel)) (fun _ _ _ _ _ => pg_name (i := 6) sc__law_other.nd rfl (Or.inl rfl)) (fun _ _ _ _ _ => pts_nil) (fun _ _ _ _ _ => (pe_c G_law_other hr (by omega) (by rfl) (pa_cons (pv 6) (pa_cons (pv 1) pa_nil))))) pa_nil))))))) pss_nil) (pss_cons (ps_if (pt_cmpR op_eq (pv 3) pe_int (nomark _)) (pss_one (ps_ret (pv 0))) pss_nil) (pss_one (ps_ret (pe_c G_law_value hr (by omega) (by rfl) (pa_cons (pv 1) (pa_cons pe_int pa_nil))))))))))))), ?_⟩
    refine ⟨_, rfl, v, d, rfl, (hv.same S0.s).vr, ?_⟩
    refine ⟨_, rfl, sa, s0, 5, rfl, S0.hd, by decide, by decide, fun ch s1 c0 c1 => ?_⟩
    have S := S0.put (u := .lst [.int s1])
    have vr := (hv.same S.s).vr
    generalize upd H sa (.lst [.int s1]) = H1 at S vr ⊢
    -- a truth value
    refine ⟨fun σ' H' => H' = H1 ∧ σ' = [some v, some (.ref sa), some (.str (kindN d)), some (.int ch), none, none, none], ?_, ?_⟩
    · cases d with
      | bl b =>
        refine ⟨_, rfl, rfl, _, rfl, iteT' rfl ⟨_, rfl, _, _, rfl, rfl, _, rfl, ite2 (fun c => ?_) (fun c => ?_)⟩⟩
        · simp only [VH] at hv
          subst hv
          exact ⟨_, rfl, .inr ⟨b, rfl, q _ (.num (if b then 1 else 0)) s1 G0 H1 S (Same.refl _) (by simp only [VH]) bool_num⟩⟩
        · exact ⟨rfl, rfl⟩
      | _ => exact ⟨_, rfl, rfl, _, rfl, iteF' rfl (iteF' rfl ⟨rfl, rfl⟩)⟩
    rintro σ' H' ⟨rfl, rfl⟩
    -- a number
    refine ⟨fun σ' H'' => Same H' H'' ∧ σ' = [some v, some (.ref sa), some (.str (kindN d)), some (.int ch), none, none, none], ?_, ?_⟩
    · cases d with
      | num i =>
        refine ⟨_, rfl, rfl, _, rfl, iteT' rfl ⟨_, rfl, _, _, rfl, rfl, _, rfl, ite2 (fun c => ?_) (fun c => ?_)⟩⟩
        · simp only [VH] at hv
          subst hv
          refine ⟨_, rfl, by show 2 ≤ sizeLine; decide, fun t ht => ?_⟩
          have st := Sm.new (o := .tup [.int 0, .int 1]) ht
          refine ⟨t, _, rfl, .inr (SqT.of upd_same), rfl, rfl, _, rfl, ite2 (fun c => ?_) (fun c => ⟨st, rfl⟩)⟩
          exact ⟨_, rfl, rfl, q _ (.bl (decide (V.int i = V.int 1))) s1 _ _ (S.alloc ht) (S.grow ht) (by simp only [VH]) (by simp only [okV])⟩
        · exact ⟨Same.refl _, rfl⟩
      | _ => exact ⟨_, rfl, rfl, _, rfl, iteF' rfl (iteF' rfl ⟨Same.refl _, rfl⟩)⟩
    rintro σ' H2 ⟨s2, rfl⟩
    obtain ⟨G2, S2, g2⟩ := S.more s2
    have hv2 := hv.same g2
    -- a list
    refine ⟨fun σ' H'' => H'' = H2 ∧ σ' = [some v, some (.ref sa), some (.str (kindN d)), some (.int ch), none, none, none], ?_, ?_⟩
    · cases d with
      | lst vs =>
        obtain ⟨m, rfl⟩ : ∃ m, n = m + 1 := by
          cases n with
          | zero => exact nomatch okV_parts0 hok
          | succ m => exact ⟨m, rfl⟩
        have e := hsp m rfl
        subst e
        refine ⟨_, rfl, rfl, _, rfl, iteT' rfl ⟨_, rfl, _, _, rfl, rfl, _, rfl, ite2 (fun c => ?_) (fun c => ⟨rfl, rfl⟩)⟩⟩
        simp only [VH] at hv2
        obtain ⟨r0, xs, rfl, h1, hxs⟩ := hv2
        have xl := hxs.len
        have vl : vs.length ≤ 4 := pl
        refine ⟨_, rfl, r0, rfl, ⟨_, SqL.of (S2.s _ _ h1)⟩, fun D hD => ?_⟩
        have S3 := S2.add (o := .lst []) hD
        refine lc_it (walk_list (K := K) (a := r0) (xs := xs)) (fun i H' => ∃ (s' : Int) (ys : List V) (es : List Val) (G : Hp), Sb G H' ((D, .lst ys) :: (sa, .lst [.int s']) :: M) ∧ Same G2 G ∧ VHs G es ys ∧ okVs es (m + 2) ∧ es.length = i) ⟨s1, [], [], G2, S3, Same.refl _, .nil, by simp only [okVs], rfl⟩ (fun i H' _ z => by obtain ⟨s', ys, es, G, S', g, _⟩ := z; exact SqL.of (S'.s _ _ (g _ _ h1))) ?_ ?_
        · rintro i x H3 H4 hi ⟨s', ys, es, G, S4, g, hvs, hoks, hl⟩ ⟨rfl, hx⟩
          obtain ⟨e, he, hve⟩ := hxs.get hx
          have yl := hvs.len
          refine ⟨rfl, _, rfl, _, rfl, sa, s', x, e, G, (D, .lst ys) :: M, rfl, S4.swap, hve.same g, okVs_get pk he, by omega, fun v' d' s5 G5 H5 S5 g5 hvd hd => ?_⟩
          exact ⟨ys, S5.hd2, by omega, s5, ys ++ [v'], es ++ [d'], G5, S5.put2.swap, Same.trans g g5, (hvs.same g5).snoc hvd, okVs_app.mpr ⟨hoks, by simp only [okVs]; exact ⟨hd, trivial⟩⟩, by rw [List.length_append, hl]; rfl⟩
        · rintro H3 ⟨s', ys, es, G, S4, g, hvs, hoks, hl⟩
          obtain ⟨S5, g5⟩ := S4.drop
          have xe : es.length ≤ 4 := by omega
          refine q (.ref D) (.lst es) s' _ H3 S5 (Same.trans g2 (Same.trans g g5)) ?_ ?_
          · simp only [VH]
            exact ⟨D, ys, rfl, upd_same, hvs.same g5⟩
          · simp only [okV]
            exact ⟨m + 2, by omega, xe, hoks⟩
      | _ => exact ⟨_, rfl, rfl, _, rfl, iteF' rfl (iteF' rfl ⟨rfl, rfl⟩)⟩
    rintro σ' H' ⟨rfl, rfl⟩
    -- a record
    refine ⟨fun σ' H'' => H'' = H' ∧ σ' = [some v, some (.ref sa), some (.str (kindN d)), some (.int ch), none, none, none], ?_, ?_⟩
    · cases d with
      | rc ks vs =>
        refine ⟨_, rfl, rfl, _, rfl, iteT' rfl ⟨_, rfl, _, _, rfl, rfl, _, rfl, ite2 (fun c => ?_) (fun c => ⟨rfl, rfl⟩)⟩⟩
        have hv3 := hv2
        simp only [VH] at hv3
        obtain ⟨a, kvs, rfl, ha, hks, knd, hxs⟩ := hv3
        simp only [okV] at hok
        obtain ⟨m, rfl, vl, kl, _, hk5, hoks⟩ := hok
        have nd0 : (kvs.map (·.1)).Nodup := by
          rw [hks]
          exact List.Pairwise.map _ (fun a b z q => z (Sum.inr.inj q)) knd
        refine fun D hD => ?_
        have S3 := S2.add (o := .dK []) hD
        refine ⟨_, rfl, a, kvs, ks, rfl, .inl (S3.s _ _ ha), hks, by omega, fun ys p py sy hp => ?_⟩
        have S4 := S3.alloc (o := .lst (ys.map V.str)) hp
        have g4 := S3.grow (o := .lst (ys.map V.str)) hp
        have hpG : upd G2 p (.lst (ys.map V.str)) p = some (.lst (ys.map V.str)) := upd_same
        generalize upd G2 p (.lst (ys.map V.str)) = G4 at S4 g4 hpG
        have ynd : ys.Nodup := py.nodup_iff.mpr knd
        have yl := py.length_eq
        refine ⟨p, rfl, ⟨_, SqL.of (S4.s _ _ hpG)⟩, ?_⟩
        refine for_it (walk_list (K := K) (a := p) (xs := ys.map V.str)) (fun i σ H'' => ∃ (kvs' : List (Key × V)) (es : List Val) (y5 : Option V), Sb G4 H'' ((D, .dK kvs') :: (sa, .lst [.int s1]) :: M) ∧ RcA G4 (m + 2) kvs' (ys.take i) es ∧ σ = [some (.ref a), some (.ref sa), some (.str "record"), some (.int ch), some (.ref D), y5, none]) ⟨[], [], none, S4, ⟨rfl, List.nodup_nil, .nil, by simp only [okVs], fun x h => nomatch h⟩, rfl⟩ (fun i σ H'' _ z => by obtain ⟨_, _, _, S', _⟩ := z; exact SqL.of (S'.s _ _ hpG)) ?_ ?_
        · rintro i x σ H5 H6 hi ⟨kvs', es, y5, S5, hR, rfl⟩ ⟨rfl, hx⟩
          rw [List.getElem?_map] at hx
          obtain ⟨nm, hnm, rfl⟩ := Option.map_eq_some_iff.mp hx
          have tk : ys.take (i + 1) = ys.take i ++ [nm] := by rw [List.take_add_one, hnm]; rfl
          have mk : nm ∈ ks := py.mem_iff.mp (List.mem_of_getElem? hnm)
          obtain ⟨j, hj⟩ := List.getElem?_of_mem mk
          have jl := (List.getElem?_eq_some_iff.mp hj).1
          have kvl : kvs.length = ks.length := by have := congrArg List.length hks; simpa using this
          have hkv : kvs[j]? = some (kvs[j]'(by omega)) := List.getElem?_eq_getElem (by omega)
          generalize kvs[j]'(by omega) = pv at hkv
          obtain ⟨pk1, pv1⟩ := pv
          obtain ⟨x', rfl, hx'⟩ := walk_kn hks hkv
          rw [hj] at hx'
          cases hx'
          have gv : valV kvs (.inr nm) = some pv1 := valV_nd nd0 hkv
          have hv' : (kvs.map (·.2))[j]? = some pv1 := by rw [List.getElem?_map, hkv]; rfl
          obtain ⟨e, he, hve⟩ := hxs.get hv'
          have knew : valV kvs' (.inr nm) = none := valV_out (by
            rw [hR.k]
            intro hm
            obtain ⟨x', hx', e'⟩ := List.mem_map.mp hm
            cases e'
            have nd2 := ynd.sublist (List.take_sublist (i + 1) ys)
            rw [tk] at nd2
            exact (List.nodup_append.mp nd2).2.2 _ hx' _ List.mem_cons_self rfl)
          have rl := hR.len
          have tl : (ys.take i).length ≤ 4 := by rw [List.length_take]; omega
          refine ⟨_, rfl, _, rfl, a, pv1, rfl, .inl ⟨kvs, .inr nm, .inl (S5.s _ _ (g4 _ _ ha)), rfl, gv.symm⟩, _, rfl, _, rfl, D, _, rfl, DPut.k (k := .inr nm) S5.hd (by omega), kvs' ++ [(.inr nm, pv1)], es ++ [e], _, by rw [putK_nw knew]; exact S5.put, ⟨?_, ?_, ?_, ?_, ?_⟩, rfl⟩
          · rw [tk, List.map_append, List.map_append, hR.k]
            rfl
          · exact ynd.sublist (List.take_sublist _ _)
          · rw [List.map_append]
            exact hR.v.snoc (hve.same g4)
          · refine okVs_app.mpr ⟨hR.ok, ?_⟩
            simp only [okVs]
            exact ⟨okV_mono e (by omega) (okVs_get hoks he), trivial⟩
          · intro x hx
            rw [tk] at hx
            rcases List.mem_append.mp hx with hx | hx
            · exact hR.sm x hx
            · rw [List.mem_singleton.mp hx]
              exact hk5 nm mk
        · rintro σ H5 ⟨kvs', es, y5, S5, hR, rfl⟩
          rw [List.length_map, List.take_length] at hR
          obtain ⟨S6, g6⟩ := S5.drop
          have hR6 := hR.same g6
          have rl := hR.len
          refine ⟨_, rfl, q (.ref D) (.rc ys es) s1 _ H5 S6 (Same.trans g2 (Same.trans g4 g6)) ?_ ?_⟩
          · simp only [VH]
            exact ⟨D, kvs', rfl, upd_same, hR6.k, hR6.nd, hR6.v⟩
          · simp only [okV]
            exact ⟨m + 2, by omega, by omega, rl.1, hR.nd, hR.sm, hR.ok⟩
      | _ => exact ⟨_, rfl, rfl, _, rfl, iteF' rfl (iteF' rfl ⟨rfl, rfl⟩)⟩
    rintro σ' H'' ⟨rfl, rfl⟩
    -- an act
    refine ⟨fun σ' H3 => H3 = H'' ∧ σ' = [some v, some (.ref sa), some (.str (kindN d)), some (.int ch), none, none, none], ?_, ?_⟩
    · cases d with
      | act o x vs =>
        obtain ⟨m, rfl⟩ : ∃ m, n = m + 1 := by
          cases n with
          | zero => exact nomatch okV_parts0 hok
          | succ m => exact ⟨m, rfl⟩
        have e := hsp m rfl
        subst e
        refine ⟨_, rfl, rfl, _, rfl, iteT' rfl ⟨_, rfl, _, _, rfl, rfl, _, rfl, ite2 (fun c => ?_) (fun c => ⟨rfl, rfl⟩)⟩⟩
        simp only [VH] at hv2
        obtain ⟨a, r0, xs, rfl, h0, h1, hxs⟩ := hv2
        have xl := hxs.len
        have vl : vs.length ≤ 4 := pl
        have tp := SqT.of (K := K) (S2.s _ _ h0)
        simp only [okV] at hok
        obtain ⟨m', em', ok1, ok2, _⟩ := hok
        refine ⟨_, rfl, a, _, _, _, rfl, rfl, tp, at_1, _, rfl, a, _, _, _, rfl, rfl, tp, at_2, _, rfl, a, _, _, _, rfl, rfl, tp, at_3, r0, rfl, ⟨_, SqL.of (S2.s _ _ h1)⟩, fun D hD => ?_⟩
        have S3 := S2.add (o := .lst []) hD
        refine lc_it (walk_list (K := K) (a := r0) (xs := xs)) (fun i H' => ∃ (s' : Int) (ys : List V) (es : List Val) (G : Hp), Sb G H' ((D, .lst ys) :: (sa, .lst [.int s']) :: M) ∧ Same G2 G ∧ VHs G es ys ∧ okVs es (m + 2) ∧ es.length = i) ⟨s1, [], [], G2, S3, Same.refl _, .nil, by simp only [okVs], rfl⟩ (fun i H' _ z => by obtain ⟨s', ys, es, G, S', g, _⟩ := z; exact SqL.of (S'.s _ _ (g _ _ h1))) ?_ ?_
        · rintro i x H3 H4 hi ⟨s', ys, es, G, S4, g, hvs, hoks, hl⟩ ⟨rfl, hx⟩
          obtain ⟨e, he, hve⟩ := hxs.get hx
          have yl := hvs.len
          refine ⟨rfl, _, rfl, _, rfl, sa, s', x, e, G, (D, .lst ys) :: M, rfl, S4.swap, hve.same g, okVs_get pk he, by omega, fun v' d' s5 G5 H5 S5 g5 hvd hd => ?_⟩
          exact ⟨ys, S5.hd2, by omega, s5, ys ++ [v'], es ++ [d'], G5, S5.put2.swap, Same.trans g g5, (hvs.same g5).snoc hvd, okVs_app.mpr ⟨hoks, by simp only [okVs]; exact ⟨hd, trivial⟩⟩, by rw [List.length_append, hl]; rfl⟩
        · rintro H3 ⟨s', ys, es, G, S4, g, hvs, hoks, hl⟩
          obtain ⟨S5, g5⟩ := S4.drop
          have xe : es.length ≤ 4 := by omega
          refine ⟨by show 4 ≤ sizeLine; decide, fun p hp => ?_⟩
          have S6 := S5.alloc (o := .tup [.str "act", .int o, .str x, .ref D]) hp
          have g6 := S5.grow (o := .tup [.str "act", .int o, .str x, .ref D]) hp
          refine q (.ref p) (.act o x es) s' _ _ S6 (Same.trans g2 (Same.trans g (Same.trans g5 g6))) ?_ ?_
          · simp only [VH]
            exact ⟨p, D, ys, rfl, upd_same, g6 _ _ upd_same, hvs.same (Same.trans g5 g6)⟩
          · simp only [okV]
            exact ⟨m + 2, by omega, ok1, ok2, xe, hoks⟩
      | _ => exact ⟨_, rfl, rfl, _, rfl, iteF' rfl (iteF' rfl ⟨rfl, rfl⟩)⟩
    rintro σ' H3 ⟨rfl, rfl⟩
    refine ⟨_, rfl, rfl, _, rfl, ite2 (fun c => ?_) (fun c => ?_)⟩
    · exact ⟨_, rfl, q v d s1 G2 H3 S2 g2 hv2 (okV_mono d (by omega) hok)⟩
    · exact ⟨_, rfl, sa, s1, G2, M, rfl, S2, fun v' d' s' G' H' S' g' hv' hd' => q v' d' s' G' H' S' (Same.trans g2 g') hv' (okV_mono d' (by omega) hd')⟩
theorem oth_0 (T : Txt K w mg C) {k : Nat} : Cal P w K mg base (k + 1) "_law_other" spFalse := cal_of T.d__law_other sc__law_other (fun vs H Q E h => h.elim) (fun f cdv A outer s H vs Q E hr h => h.elim)
theorem oth_N (T : Txt K w mg C) : ∀ n : Nat, Cal P w K mg base (n + 6) "_law_other" (spOther n)
  | 0 => oth_S T (sp := spFalse) (by decide) (fun j h => by omega) (oth_0 T)
  | n + 1 => oth_S T (sp := spOther n) (by omega) (fun j h => by rw [show j = n by omega]) (oth_N T n)
end
end VL

set_option Elab.async false
set_option linter.all false
set_option pp.maxSteps 700
set_option maxRecDepth 100000
set_option maxHeartbeats 4000000
namespace VL
open PySem PySem.Spec PyProof.Rows L2
def spLaw (K : PySem.W.Frag) : Sp := fun vs H Q _ => ∃ (a : Addr) (ns : List Int), vs = [.ref a] ∧ SqL K H a (ns.map V.int) ∧ ns.length ≤ 63 ∧ ∀ H', Q (.bl true) H'
theorem sqlS {K : PySem.W.Frag} {H H' : Hp} {a : Addr} {xs : List V} (h : SqL K H a xs) (s : Same H H') : SqL K H' a xs := by
  rcases h with (h | ⟨o, h⟩) | h
  · exact .inl (.inl (s _ _ h))
  · exact .inl (.inr ⟨o, s _ _ h⟩)
  · exact .inr h
section
variable {P : Program} {w : World} {K : PySem.W.Frag} {mg : Str → Option Value} {base : Heap} {C : Ad}
theorem sc_law : FnScope ["script", "k", "state", "value", "other", "due", "told", "twin", "kept"] ["script"] (defScope s_law) := ⟨rfl, rfl, rfl, by decide +kernel, rfl, by decide +kernel, by decide +kernel⟩
theorem ok_law {f : Addr} {fd : FuncData} (F : Fun K "law" "law" s_law f fd) (T : Txt K w mg C) : FnG P w K mg base 60 f fd ["script"] (spLaw K) := by
  have G_law_cell := ok_cell (P := P) (base := base) T
  have G_law_start := ok_start (P := P) (base := base) T
  have G_law_value := val_N (P := P) (base := base) T 3
  have G_law_other := oth_N (P := P) (base := base) T 3
  have G_law_told_right := ok_right (P := P) (base := base) T
  have G_law_same := ls_N (P := P) (base := base) T 10
  have Gsame := same_N (P := P) (base := base) T 5
  have Gcopied := ok_copied (P := P) (base := base) T
  have G_law_apart := ap_N (P := P) (base := base) T 5
  refine fnG_of F sc_law (fun vs H Q E h => ?_) (fun cdv A outer s H vs Q E gd hr h => ?_)
  · obtain ⟨a, ns, rfl, _⟩ := h
    rfl
  · obtain ⟨sa, ns, rfl, hS, hlen, kq⟩ := h
    have big : 10000000 < sizeLine := by decide
    refine ⟨_, (pss_cons (ps_for PassesOwn.never rfl (pi_range1 (by rfl) T.z_range (pa_cons (pe_callB (call_min2 rfl) (by rfl) T.z_min (by decide +kernel) (pa_cons pe_int (pa_cons (pe_callB (call_max2 rfl) (by rfl) T.z_max (by decide +kernel) (pa_cons pe_int (pa_cons (pe_callB call_len_seq (by rfl) T.z_len PySem.boot_len (pa_cons (pv 0) pa_nil)) pa_nil))) pa_nil))) pa_nil)) (pg_name (i := 1) sc_law.nd rfl (Or.inl rfl)) (pss_cons (ps_set (i := 2) sc_law.nd rfl (Or.inl rfl) (pe_c G_law_start hr (by decide) (by rfl) (pa_cons (pe_c G_law_cell hr (by decide) (by rfl) (pa_cons (pv 0) (pa_cons (pv 1) pa_nil))) (pa_cons (pv 1) pa_nil)))) (pss_cons (ps_set (i := 3) sc_law.nd rfl (Or.inl rfl) (pe_c G_law_value hr (by decide) (by rfl) (pa_cons (pv 2) (pa_cons pe_int pa_nil)))) (pss_cons (ps_set (i := 4) sc_law.nd rfl (Or.inl rfl) (pe_c G_law_other hr (by decide) (by rfl) (pa_cons (pv 3) (pa_cons (pv 2) pa_nil)))) (pss_cons (ps_if (PW.pt (pw_or (pt_not (pt_val (pe_c G_law_told_right hr (by decide) (by rfl) (pa_cons (pv 3) pa_nil)))) (pw_or1 (pt_not (pt_val (pe_c G_law_told_right hr (by decide) (by rfl) (pa_cons (pv 4) pa_nil))))))) (pss_one (ps_ret pe_bl)) pss_nil) (pss_cons (ps_set (i := 5) sc_law.nd rfl (Or.inl rfl) (pe_c G_law_same hr (by decide) (by rfl) (pa_cons (pv 3) (pa_cons (pv 4) pa_nil)))) (pss_cons (ps_for PassesOwn.never rfl (pi_list (pe_lst (pa_cons (pe_c Gsame hr (by decide) (by rfl) (pa_cons (pv 3) (pa_cons (pv 4) pa_nil))) (pa_cons (pe_c Gsame hr (by decide) (by rfl) (pa_cons (pv 4) (pa_cons (pv 3) pa_nil))) pa_nil)))) (pg_name (i := 6) sc_law.nd rfl (Or.inl rfl)) (pss_one (ps_if (PW.pt (pw_or (pt_not (pt_val (pe_callB call_isi (by rfl) T.z_isinstance (by decide +kernel) (pa_cons (pv 6) (pa_cons (pe_bltn (v := .ty "bool") (by rfl) T.z_bool (by decide +kernel) rfl) pa_nil))))) (pw_or1 (pt_cmpR op_ne (pv 6) (pv 5) (nomark _))))) (pss_one (ps_ret pe_bl)) pss_nil))) (pss_cons (ps_set (i := 7) sc_law.nd rfl (Or.inl rfl) (pe_c Gcopied hr (by decide) (by rfl) (pa_cons (pv 3) pa_nil))) (pss_cons (ps_if (PW.pt (pw_or (pt_not (pt_val (pe_c G_law_same hr (by decide) (by rfl) (pa_cons (pv 7) (pa_cons (pv 3) pa_nil))))) (pw_or1 (pt_cmpR op_isnot_bl (pe_c Gsame hr (by decide) (by rfl) (pa_cons (pv 3) (pa_cons (pv 7) pa_nil))) pe_bl (nomark _))))) (pss_one (ps_ret pe_bl)) pss_nil) (pss_cons (ps_set (i := 8) sc_law.nd rfl (Or.inl rfl) (pe_callB (call_repV gd hr.units) (by rfl) T.z_repr (by decide +kernel) (pa_cons (pv 3) pa_nil))) (pss_cons (ps_expr (pe_c G_law_apart hr (by decide) (by rfl) (pa_cons (pv 7) pa_nil))) (pss_one (ps_if (pt_cmpR op_ne (pe_callB (call_repV gd hr.units) (by rfl) T.z_repr (by decide +kernel) (pa_cons (pv 3) pa_nil)) (pv 8) (nomark _)) (pss_one (ps_ret pe_bl)) pss_nil))))))))))))) (pss_one (ps_ret pe_bl))), ?_⟩
    refine ⟨_, rfl, sa, _, rfl, .inl hS, _, _, rfl, _, _, rfl, ?_⟩
    have hl2 : (ns.map V.int).length = ns.length := List.length_map _
    refine ⟨_, rfl, ?_, ?_, ?_⟩
    · show -2 ^ 62 ≤ (if _ < _ then _ else _ : Int)
      repeat' split
      all_goals omega
    · show (if _ < _ then _ else _ : Int) < 2 ^ 62
      repeat' split
      all_goals omega
    refine for_range (lo := 0) (n := _) (fun i σ H' => ∃ y1 y2 y3 y4 y5 y6 y7 y8 : Option V, Same H H' ∧ σ = [some (.ref sa), y1, y2, y3, y4, y5, y6, y7, y8]) ⟨_, _, _, _, _, _, _, _, Same.refl _, rfl⟩ ?_ ?_
    · rintro ii σ Ha hi ⟨y1, y2, y3, y4, y5, y6, y7, y8, sH, rfl⟩
      have hSa := sqlS hS sH
      refine ⟨_, rfl, _, rfl, sa, ns, ii, by rw [Int.zero_add]; rfl, hSa, fun c => ⟨_, rfl, c, _, rfl, fun sp s hsp => ?_⟩⟩
      have S1 : Sb Ha (upd Ha sp (.lst [.int s])) [(sp, .lst [.int s])] := Sb.nil.add hsp
      refine ⟨_, rfl, sp, s, Ha, [], rfl, S1, fun v d s2 G2 H2 S2 g2 hv hok => ?_⟩
      refine ⟨_, rfl, _, rfl, sp, s2, v, d, G2, [], rfl, S2, hv, hok, Nat.le_refl _, fun ov od s3 G3 H3 S3 g3 hov hod => ?_⟩
      have hok5 := okV_mono d (show 3 ≤ 5 by decide) hok
      have hv3 := (hv.same g3).same S3.s
      have ho3 := hov.same S3.s
      have s03 : Same H H3 := Same.trans sH (Same.trans g2 (Same.trans g3 S3.s))
      clear S1 S2 S3
      refine ⟨_, rfl, v, d, rfl, hv3, hok5, fun H4 s4 => ⟨_, rfl, iteF' rfl ⟨_, rfl, ov, od, rfl, ho3.same s4, hod, fun H5 s5 => ⟨_, rfl, iteF' rfl ?_⟩⟩⟩⟩
      have s35 := Same.trans s4 s5
      have hv5 := hv3.same s35
      have ho5 := ho3.same s35
      have s05 := Same.trans s03 s35
      clear hv3 ho3 s03 s35 s4 s5
      have cd : cst d ≤ 10 := Nat.le_trans (cst_le d hok5) (by decide)
      have od5 : okV od 5 := hod
      refine ⟨_, rfl, _, rfl, v, ov, d, od, rfl, hv5, ho5.vr, .inl hok5, .inl od5, cd, fun H6 s6 => ?_⟩
      have hv6 := hv5.same s6
      have ho6 := ho5.same s6
      have s06 := Same.trans s05 s6
      refine ⟨_, rfl, _, rfl, v, ov, d, od, rfl, hv6, ho6.vr, hok5, od5, fun H7 s7 => ⟨_, rfl, _, rfl, ov, v, od, d, rfl, ho6.same s7, (hv6.same s7).vr, od5, hok5, fun H8 s8 => ?_⟩⟩
      rw [sameV_comm hok5 od5]
      generalize sameV d od = B
      refine ⟨by show 2 ≤ sizeLine; decide, fun l hl => ?_⟩
      have s9 := Same.trans (Same.trans s7 s8) (Sm.new (o := .lst [.bl B, .bl B]) hl)
      have hl9 : upd H8 l (.lst [.bl B, .bl B]) l = some (.lst [.bl B, .bl B]) := upd_same
      generalize upd H8 l (.lst [.bl B, .bl B]) = H9 at s9 hl9 ⊢
      have hv9 := hv6.same s9
      have s09 := Same.trans s06 s9
      clear hv5 ho5 hv6 ho6 s05 s06 s7 s8 s9
      refine ⟨l, rfl, ⟨_, SqL.of hl9⟩, ?_⟩
      refine for_it (walk_list (K := K) (a := l) (xs := [V.bl B, .bl B])) (fun i σ H' => Same H9 H' ∧ ∃ y6 : Option V, σ = [some (.ref sa), some (.int (0 + (ii : Int))), some (.ref sp), some v, some ov, some (.bl B), y6, y7, y8]) ⟨Same.refl _, _, rfl⟩ (fun i σ H' _ z => SqL.of (z.1 _ _ hl9)) ?_ ?_
      · rintro i x σ Hb Hc hi ⟨sb, y6, rfl⟩ ⟨rfl, hx⟩
        have ex : x = .bl B := by
          have hm := List.mem_of_getElem? hx
          simpa using hm
        subst ex
        exact ⟨_, rfl, .bl B, .ty "bool", _, _, true, rfl, .ty _, .base (.bl B), kit_ty (by decide +kernel), true, rfl, iteF' rfl ⟨_, rfl, _, rfl, rfl, _, rfl, iteF' (by simp) ⟨sb, _, rfl⟩⟩⟩
      · rintro σ Hb ⟨sb, y6, rfl⟩
        have hvb := hv9.same sb
        have s0b := Same.trans s09 sb
        refine ⟨_, rfl, v, d, Hb, [], rfl, Sb.nil, hvb, hok5, cd, fun y A' G10 H10 S10 g10 vt nd fr => ?_⟩
        have sb10 := Same.trans g10 S10.s
        have vt10 := vt.same S10.s
        refine ⟨_, rfl, _, rfl, y, v, d, d, rfl, (VT_vh _ _ _ vt10).1, (hvb.same sb10).vr, .inl hok5, .inl hok5, cd, fun H11 s11 => ⟨_, rfl, ?_⟩⟩
        rw [sameV_refl d hok5]
        refine iteF' rfl ?_
        have sb11 := Same.trans sb10 s11
        have vt11 := vt10.same s11
        refine ⟨_, rfl, _, rfl, v, y, d, d, rfl, hvb.same sb11, (VT_vh _ _ _ vt11).1.vr, hok5, hok5, fun H12 s12 => ⟨_, _, rfl, rfl, _, rfl, ?_⟩⟩
        rw [sameV_refl d hok5]
        refine iteF' (by decide) ?_
        have sb12 := Same.trans sb11 s12
        have vt12 := vt11.same s12
        have sm := sm_V d 5 hok5
        have dq12 := VH_dq d v (hvb.same sb12)
        have dp40 := Nat.le_trans sm.dp (show 2 * 5 ≤ 40 by decide)
        have ln : (PyData.shown (enc d)).length ≤ sizeLine := Nat.le_trans sm.ln (Nat.le_trans (show szB 5 ≤ 10000000 by decide) (Nat.le_of_lt big))
        obtain ⟨R, hR⟩ : ∃ t, t = PyData.shown (enc d) := ⟨_, rfl⟩
        refine ⟨_, rfl, v, enc d, rfl, dq12, sm.sh, dp40, ln, ?_⟩
        rw [← hR]
        refine ⟨_, rfl, y, d, A', rfl, vt12, nd, hok5, fun H13 k13 => ?_⟩
        have sb13 : Same Hb H13 := fun b o e => k13 b o (fun z => by rw [fr b z] at e; exact nomatch e) (sb12 _ _ e)
        refine ⟨_, rfl, v, enc d, rfl, VH_dq d v (hvb.same sb13), sm.sh, dp40, ln, ?_⟩
        rw [← hR]
        exact ⟨_, rfl, rfl, _, rfl, iteF' (by simp) ⟨_, _, _, _, _, _, _, _, Same.trans s0b sb13, rfl⟩⟩
    · rintro σ H' _
      exact kq H'
end
end VL

set_option Elab.async false
set_option linter.all false
set_option maxRecDepth 100000
set_option maxHeartbeats 4000000
namespace VL
open PySem PySem.Spec PyProof.Rows L2
theorem all_mk {l : PySem.W.OpenLaw} {w : World} {K : PySem.W.Frag} {h : Heap} {mg : Str → Option Value} {fa f1 f2 f3 f4 f5 f6 f7 f8 f9 f10 f11 f12 f13 f14 f15 f16 f17 f18 f19 f20 f21 f22 f23 f24 f25 f26 f27 f28 f29 f30 : Addr} (X : K.In h) (G : h.Ns mainGlobals mg) (hfa : mg "law" = some (.ref fa))
    {od1 an1 od2 an2 od3 an3 od4 an4 od5 an5 od6 an6 od7 an7 od8 an8 od9 an9 od10 an10 od11 an11 od12 an12 od13 an13 od14 an14 od15 an15 od16 an16 od17 an17 od18 an18 od19 an19 od20 an20 od21 an21 od22 an22 od23 an23 od24 an24 od25 an25 od26 an26 od27 an27 od28 an28 od29 an29 od30 an30 : Option Addr} {sl1 sl2 sl3 sl4 sl5 sl6 sl7 sl8 sl9 sl10 sl11 sl12 sl13 sl14 sl15 sl16 sl17 sl18 sl19 sl20 sl21 sl22 sl23 sl24 sl25 sl26 sl27 sl28 sl29 sl30 : Array (Option Value)} {oc1 kV1 dc1 pm1 cd1 ct1 oc2 kV2 dc2 pm2 cd2 ct2 oc3 kV3 dc3 pm3 cd3 ct3 oc4 kV4 dc4 pm4 cd4 ct4 oc5 kV5 dc5 pm5 cd5 ct5 oc6 kV6 dc6 pm6 cd6 ct6 oc7 kV7 dc7 pm7 cd7 ct7 oc8 kV8 dc8 pm8 cd8 ct8 oc9 kV9 dc9 pm9 cd9 ct9 oc10 kV10 dc10 pm10 cd10 ct10 oc11 kV11 dc11 pm11 cd11 ct11 oc12 kV12 dc12 pm12 cd12 ct12 oc13 kV13 dc13 pm13 cd13 ct13 oc14 kV14 dc14 pm14 cd14 ct14 oc15 kV15 dc15 pm15 cd15 ct15 oc16 kV16 dc16 pm16 cd16 ct16 oc17 kV17 dc17 pm17 cd17 ct17 oc18 kV18 dc18 pm18 cd18 ct18 oc19 kV19 dc19 pm19 cd19 ct19 oc20 kV20 dc20 pm20 cd20 ct20 oc21 kV21 dc21 pm21 cd21 ct21 oc22 kV22 dc22 pm22 cd22 ct22 oc23 kV23 dc23 pm23 cd23 ct23 oc24 kV24 dc24 pm24 cd24 ct24 oc25 kV25 dc25 pm25 cd25 ct25 oc26 kV26 dc26 pm26 cd26 ct26 oc27 kV27 dc27 pm27 cd27 ct27 oc28 kV28 dc28 pm28 cd28 ct28 oc29 kV29 dc29 pm29 cd29 ct29 oc30 kV30 dc30 pm30 cd30 ct30 : Value} 
    (z_abs : PySem.W.nsIn K mainGlobals "abs" = some none)
    (z_bool : PySem.W.nsIn K mainGlobals "bool" = some none)
    (z_dict : PySem.W.nsIn K mainGlobals "dict" = some none)
    (z_int : PySem.W.nsIn K mainGlobals "int" = some none)
    (z_isinstance : PySem.W.nsIn K mainGlobals "isinstance" = some none)
    (z_len : PySem.W.nsIn K mainGlobals "len" = some none)
    (z_list : PySem.W.nsIn K mainGlobals "list" = some none)
    (z_max : PySem.W.nsIn K mainGlobals "max" = some none)
    (z_min : PySem.W.nsIn K mainGlobals "min" = some none)
    (z_range : PySem.W.nsIn K mainGlobals "range" = some none)
    (z_repr : PySem.W.nsIn K mainGlobals "repr" = some none)
    (z_sorted : PySem.W.nsIn K mainGlobals "sorted" = some none)
    (z_str : PySem.W.nsIn K mainGlobals "str" = some none)
    (z_sum : PySem.W.nsIn K mainGlobals "sum" = some none)
    (z_tuple : PySem.W.nsIn K mainGlobals "tuple" = some none)
    (z_zip : PySem.W.nsIn K mainGlobals "zip" = some none)
    (a1 : PySem.W.nsIn K mainGlobals "is_number" = some (some (.ref f1)))
    (l1 : K.lookup f1 = some ⟨oc1, od1, .func (PySem.W.fnOf "is_number" "is_number" (defArgs s_is_number) (defBody s_is_number) (defScope s_is_number) .none kV1 dc1 pm1 an1 cd1 ct1), sl1⟩)
    (c1 : PySem.W.codeIn K cd1 "is_number" = true)
    (k1 : PySem.W.keepIn K (.ref f1) = true)
    (a2 : PySem.W.nsIn K mainGlobals "is_text" = some (some (.ref f2)))
    (l2 : K.lookup f2 = some ⟨oc2, od2, .func (PySem.W.fnOf "is_text" "is_text" (defArgs s_is_text) (defBody s_is_text) (defScope s_is_text) .none kV2 dc2 pm2 an2 cd2 ct2), sl2⟩)
    (c2 : PySem.W.codeIn K cd2 "is_text" = true)
    (k2 : PySem.W.keepIn K (.ref f2) = true)
    (a3 : PySem.W.nsIn K mainGlobals "members_of" = some (some (.ref f3)))
    (l3 : K.lookup f3 = some ⟨oc3, od3, .func (PySem.W.fnOf "members_of" "members_of" (defArgs s_members_of) (defBody s_members_of) (defScope s_members_of) .none kV3 dc3 pm3 an3 cd3 ct3), sl3⟩)
    (c3 : PySem.W.codeIn K cd3 "members_of" = true)
    (k3 : PySem.W.keepIn K (.ref f3) = true)
    (a4 : PySem.W.nsIn K mainGlobals "members_of_all" = some (some (.ref f4)))
    (l4 : K.lookup f4 = some ⟨oc4, od4, .func (PySem.W.fnOf "members_of_all" "members_of_all" (defArgs s_members_of_all) (defBody s_members_of_all) (defScope s_members_of_all) .none kV4 dc4 pm4 an4 cd4 ct4), sl4⟩)
    (c4 : PySem.W.codeIn K cd4 "members_of_all" = true)
    (k4 : PySem.W.keepIn K (.ref f4) = true)
    (a5 : PySem.W.nsIn K mainGlobals "wholes_in" = some (some (.ref f5)))
    (l5 : K.lookup f5 = some ⟨oc5, od5, .func (PySem.W.fnOf "wholes_in" "wholes_in" (defArgs s_wholes_in) (defBody s_wholes_in) (defScope s_wholes_in) .none kV5 dc5 pm5 an5 cd5 ct5), sl5⟩)
    (c5 : PySem.W.codeIn K cd5 "wholes_in" = true)
    (k5 : PySem.W.keepIn K (.ref f5) = true)
    (a6 : PySem.W.nsIn K mainGlobals "same" = some (some (.ref f6)))
    (l6 : K.lookup f6 = some ⟨oc6, od6, .func (PySem.W.fnOf "same" "same" (defArgs s_same) (defBody s_same) (defScope s_same) .none kV6 dc6 pm6 an6 cd6 ct6), sl6⟩)
    (c6 : PySem.W.codeIn K cd6 "same" = true)
    (k6 : PySem.W.keepIn K (.ref f6) = true)
    (a7 : PySem.W.nsIn K mainGlobals "same_lists" = some (some (.ref f7)))
    (l7 : K.lookup f7 = some ⟨oc7, od7, .func (PySem.W.fnOf "same_lists" "same_lists" (defArgs s_same_lists) (defBody s_same_lists) (defScope s_same_lists) .none kV7 dc7 pm7 an7 cd7 ct7), sl7⟩)
    (c7 : PySem.W.codeIn K cd7 "same_lists" = true)
    (k7 : PySem.W.keepIn K (.ref f7) = true)
    (a8 : PySem.W.nsIn K mainGlobals "same_records" = some (some (.ref f8)))
    (l8 : K.lookup f8 = some ⟨oc8, od8, .func (PySem.W.fnOf "same_records" "same_records" (defArgs s_same_records) (defBody s_same_records) (defScope s_same_records) .none kV8 dc8 pm8 an8 cd8 ct8), sl8⟩)
    (c8 : PySem.W.codeIn K cd8 "same_records" = true)
    (k8 : PySem.W.keepIn K (.ref f8) = true)
    (a9 : PySem.W.nsIn K mainGlobals "size" = some (some (.ref f9)))
    (l9 : K.lookup f9 = some ⟨oc9, od9, .func (PySem.W.fnOf "size" "size" (defArgs s_size) (defBody s_size) (defScope s_size) .none kV9 dc9 pm9 an9 cd9 ct9), sl9⟩)
    (c9 : PySem.W.codeIn K cd9 "size" = true)
    (k9 : PySem.W.keepIn K (.ref f9) = true)
    (a10 : PySem.W.nsIn K mainGlobals "size_of_all" = some (some (.ref f10)))
    (l10 : K.lookup f10 = some ⟨oc10, od10, .func (PySem.W.fnOf "size_of_all" "size_of_all" (defArgs s_size_of_all) (defBody s_size_of_all) (defScope s_size_of_all) .none kV10 dc10 pm10 an10 cd10 ct10), sl10⟩)
    (c10 : PySem.W.codeIn K cd10 "size_of_all" = true)
    (k10 : PySem.W.keepIn K (.ref f10) = true)
    (a11 : PySem.W.nsIn K mainGlobals "depth" = some (some (.ref f11)))
    (l11 : K.lookup f11 = some ⟨oc11, od11, .func (PySem.W.fnOf "depth" "depth" (defArgs s_depth) (defBody s_depth) (defScope s_depth) .none kV11 dc11 pm11 an11 cd11 ct11), sl11⟩)
    (c11 : PySem.W.codeIn K cd11 "depth" = true)
    (k11 : PySem.W.keepIn K (.ref f11) = true)
    (a12 : PySem.W.nsIn K mainGlobals "text_of" = some (some (.ref f12)))
    (l12 : K.lookup f12 = some ⟨oc12, od12, .func (PySem.W.fnOf "text_of" "text_of" (defArgs s_text_of) (defBody s_text_of) (defScope s_text_of) .none kV12 dc12 pm12 an12 cd12 ct12), sl12⟩)
    (c12 : PySem.W.codeIn K cd12 "text_of" = true)
    (k12 : PySem.W.keepIn K (.ref f12) = true)
    (a13 : PySem.W.nsIn K mainGlobals "copied" = some (some (.ref f13)))
    (l13 : K.lookup f13 = some ⟨oc13, od13, .func (PySem.W.fnOf "copied" "copied" (defArgs s_copied) (defBody s_copied) (defScope s_copied) .none kV13 dc13 pm13 an13 cd13 ct13), sl13⟩)
    (c13 : PySem.W.codeIn K cd13 "copied" = true)
    (k13 : PySem.W.keepIn K (.ref f13) = true)
    (a14 : PySem.W.nsIn K mainGlobals "copy_of" = some (some (.ref f14)))
    (l14 : K.lookup f14 = some ⟨oc14, od14, .func (PySem.W.fnOf "copy_of" "copy_of" (defArgs s_copy_of) (defBody s_copy_of) (defScope s_copy_of) .none kV14 dc14 pm14 an14 cd14 ct14), sl14⟩)
    (c14 : PySem.W.codeIn K cd14 "copy_of" = true)
    (k14 : PySem.W.keepIn K (.ref f14) = true)
    (a15 : PySem.W.nsIn K mainGlobals "_law_cell" = some (some (.ref f15)))
    (l15 : K.lookup f15 = some ⟨oc15, od15, .func (PySem.W.fnOf "_law_cell" "_law_cell" (defArgs s__law_cell) (defBody s__law_cell) (defScope s__law_cell) .none kV15 dc15 pm15 an15 cd15 ct15), sl15⟩)
    (c15 : PySem.W.codeIn K cd15 "_law_cell" = true)
    (k15 : PySem.W.keepIn K (.ref f15) = true)
    (a16 : PySem.W.nsIn K mainGlobals "_law_start" = some (some (.ref f16)))
    (l16 : K.lookup f16 = some ⟨oc16, od16, .func (PySem.W.fnOf "_law_start" "_law_start" (defArgs s__law_start) (defBody s__law_start) (defScope s__law_start) .none kV16 dc16 pm16 an16 cd16 ct16), sl16⟩)
    (c16 : PySem.W.codeIn K cd16 "_law_start" = true)
    (k16 : PySem.W.keepIn K (.ref f16) = true)
    (a17 : PySem.W.nsIn K mainGlobals "_law_digit" = some (some (.ref f17)))
    (l17 : K.lookup f17 = some ⟨oc17, od17, .func (PySem.W.fnOf "_law_digit" "_law_digit" (defArgs s__law_digit) (defBody s__law_digit) (defScope s__law_digit) .none kV17 dc17 pm17 an17 cd17 ct17), sl17⟩)
    (c17 : PySem.W.codeIn K cd17 "_law_digit" = true)
    (k17 : PySem.W.keepIn K (.ref f17) = true)
    (a18 : PySem.W.nsIn K mainGlobals "_law_text" = some (some (.ref f18)))
    (l18 : K.lookup f18 = some ⟨oc18, od18, .func (PySem.W.fnOf "_law_text" "_law_text" (defArgs s__law_text) (defBody s__law_text) (defScope s__law_text) .none kV18 dc18 pm18 an18 cd18 ct18), sl18⟩)
    (c18 : PySem.W.codeIn K cd18 "_law_text" = true)
    (k18 : PySem.W.keepIn K (.ref f18) = true)
    (a19 : PySem.W.nsIn K mainGlobals "_law_number" = some (some (.ref f19)))
    (l19 : K.lookup f19 = some ⟨oc19, od19, .func (PySem.W.fnOf "_law_number" "_law_number" (defArgs s__law_number) (defBody s__law_number) (defScope s__law_number) .none kV19 dc19 pm19 an19 cd19 ct19), sl19⟩)
    (c19 : PySem.W.codeIn K cd19 "_law_number" = true)
    (k19 : PySem.W.keepIn K (.ref f19) = true)
    (a20 : PySem.W.nsIn K mainGlobals "_law_value" = some (some (.ref f20)))
    (l20 : K.lookup f20 = some ⟨oc20, od20, .func (PySem.W.fnOf "_law_value" "_law_value" (defArgs s__law_value) (defBody s__law_value) (defScope s__law_value) .none kV20 dc20 pm20 an20 cd20 ct20), sl20⟩)
    (c20 : PySem.W.codeIn K cd20 "_law_value" = true)
    (k20 : PySem.W.keepIn K (.ref f20) = true)
    (a21 : PySem.W.nsIn K mainGlobals "_law_kind" = some (some (.ref f21)))
    (l21 : K.lookup f21 = some ⟨oc21, od21, .func (PySem.W.fnOf "_law_kind" "_law_kind" (defArgs s__law_kind) (defBody s__law_kind) (defScope s__law_kind) .none kV21 dc21 pm21 an21 cd21 ct21), sl21⟩)
    (c21 : PySem.W.codeIn K cd21 "_law_kind" = true)
    (k21 : PySem.W.keepIn K (.ref f21) = true)
    (a22 : PySem.W.nsIn K mainGlobals "_law_same" = some (some (.ref f22)))
    (l22 : K.lookup f22 = some ⟨oc22, od22, .func (PySem.W.fnOf "_law_same" "_law_same" (defArgs s__law_same) (defBody s__law_same) (defScope s__law_same) .none kV22 dc22 pm22 an22 cd22 ct22), sl22⟩)
    (c22 : PySem.W.codeIn K cd22 "_law_same" = true)
    (k22 : PySem.W.keepIn K (.ref f22) = true)
    (a23 : PySem.W.nsIn K mainGlobals "_law_parts" = some (some (.ref f23)))
    (l23 : K.lookup f23 = some ⟨oc23, od23, .func (PySem.W.fnOf "_law_parts" "_law_parts" (defArgs s__law_parts) (defBody s__law_parts) (defScope s__law_parts) .none kV23 dc23 pm23 an23 cd23 ct23), sl23⟩)
    (c23 : PySem.W.codeIn K cd23 "_law_parts" = true)
    (k23 : PySem.W.keepIn K (.ref f23) = true)
    (a24 : PySem.W.nsIn K mainGlobals "_law_depth" = some (some (.ref f24)))
    (l24 : K.lookup f24 = some ⟨oc24, od24, .func (PySem.W.fnOf "_law_depth" "_law_depth" (defArgs s__law_depth) (defBody s__law_depth) (defScope s__law_depth) .none kV24 dc24 pm24 an24 cd24 ct24), sl24⟩)
    (c24 : PySem.W.codeIn K cd24 "_law_depth" = true)
    (k24 : PySem.W.keepIn K (.ref f24) = true)
    (a25 : PySem.W.nsIn K mainGlobals "_law_size" = some (some (.ref f25)))
    (l25 : K.lookup f25 = some ⟨oc25, od25, .func (PySem.W.fnOf "_law_size" "_law_size" (defArgs s__law_size) (defBody s__law_size) (defScope s__law_size) .none kV25 dc25 pm25 an25 cd25 ct25), sl25⟩)
    (c25 : PySem.W.codeIn K cd25 "_law_size" = true)
    (k25 : PySem.W.keepIn K (.ref f25) = true)
    (a26 : PySem.W.nsIn K mainGlobals "_law_text_of" = some (some (.ref f26)))
    (l26 : K.lookup f26 = some ⟨oc26, od26, .func (PySem.W.fnOf "_law_text_of" "_law_text_of" (defArgs s__law_text_of) (defBody s__law_text_of) (defScope s__law_text_of) .none kV26 dc26 pm26 an26 cd26 ct26), sl26⟩)
    (c26 : PySem.W.codeIn K cd26 "_law_text_of" = true)
    (k26 : PySem.W.keepIn K (.ref f26) = true)
    (a27 : PySem.W.nsIn K mainGlobals "_law_apart" = some (some (.ref f27)))
    (l27 : K.lookup f27 = some ⟨oc27, od27, .func (PySem.W.fnOf "_law_apart" "_law_apart" (defArgs s__law_apart) (defBody s__law_apart) (defScope s__law_apart) .none kV27 dc27 pm27 an27 cd27 ct27), sl27⟩)
    (c27 : PySem.W.codeIn K cd27 "_law_apart" = true)
    (k27 : PySem.W.keepIn K (.ref f27) = true)
    (a28 : PySem.W.nsIn K mainGlobals "_law_told_right" = some (some (.ref f28)))
    (l28 : K.lookup f28 = some ⟨oc28, od28, .func (PySem.W.fnOf "_law_told_right" "_law_told_right" (defArgs s__law_told_right) (defBody s__law_told_right) (defScope s__law_told_right) .none kV28 dc28 pm28 an28 cd28 ct28), sl28⟩)
    (c28 : PySem.W.codeIn K cd28 "_law_told_right" = true)
    (k28 : PySem.W.keepIn K (.ref f28) = true)
    (a29 : PySem.W.nsIn K mainGlobals "_law_other" = some (some (.ref f29)))
    (l29 : K.lookup f29 = some ⟨oc29, od29, .func (PySem.W.fnOf "_law_other" "_law_other" (defArgs s__law_other) (defBody s__law_other) (defScope s__law_other) .none kV29 dc29 pm29 an29 cd29 ct29), sl29⟩)
    (c29 : PySem.W.codeIn K cd29 "_law_other" = true)
    (k29 : PySem.W.keepIn K (.ref f29) = true)
    (a30 : PySem.W.nsIn K mainGlobals "law" = some (some (.ref f30)))
    (l30 : K.lookup f30 = some ⟨oc30, od30, .func (PySem.W.fnOf "law" "law" (defArgs s_law) (defBody s_law) (defScope s_law) .none kV30 dc30 pm30 an30 cd30 ct30), sl30⟩)
    (c30 : PySem.W.codeIn K cd30 "law" = true)
    (k30 : PySem.W.keepIn K (.ref f30) = true)
    : ∃ fd : FuncData, (∀ (s : Shared) (v : Value), BindsTo s fd ⟨[v], []⟩ [("script", v)]) ∧ ∀ base : Heap, K.In base → base.Ns mainGlobals mg → FnG l.prog w K mg base 60 fa fd ["script"] (spLaw K) := by
  have e := hfa.symm.trans (PySem.W.mg_of X G a30)
  cases e
  have F1 := fun_mk (st := s_is_number) l1 c1 k1
  have b1 := F1.binds (ps := ["value"]) fun _ _ _ _ _ _ us hl => match us, hl with | [_], _ => rfl
  have F2 := fun_mk (st := s_is_text) l2 c2 k2
  have b2 := F2.binds (ps := ["value"]) fun _ _ _ _ _ _ us hl => match us, hl with | [_], _ => rfl
  have F3 := fun_mk (st := s_members_of) l3 c3 k3
  have b3 := F3.binds (ps := ["whole"]) fun _ _ _ _ _ _ us hl => match us, hl with | [_], _ => rfl
  have F4 := fun_mk (st := s_members_of_all) l4 c4 k4
  have b4 := F4.binds (ps := ["wholes"]) fun _ _ _ _ _ _ us hl => match us, hl with | [_], _ => rfl
  have F5 := fun_mk (st := s_wholes_in) l5 c5 k5
  have b5 := F5.binds (ps := ["values"]) fun _ _ _ _ _ _ us hl => match us, hl with | [_], _ => rfl
  have F6 := fun_mk (st := s_same) l6 c6 k6
  have b6 := F6.binds (ps := ["a", "b"]) fun _ _ _ _ _ _ us hl => match us, hl with | [_, _], _ => rfl
  have F7 := fun_mk (st := s_same_lists) l7 c7 k7
  have b7 := F7.binds (ps := ["a", "b"]) fun _ _ _ _ _ _ us hl => match us, hl with | [_, _], _ => rfl
  have F8 := fun_mk (st := s_same_records) l8 c8 k8
  have b8 := F8.binds (ps := ["a", "b"]) fun _ _ _ _ _ _ us hl => match us, hl with | [_, _], _ => rfl
  have F9 := fun_mk (st := s_size) l9 c9 k9
  have b9 := F9.binds (ps := ["value"]) fun _ _ _ _ _ _ us hl => match us, hl with | [_], _ => rfl
  have F10 := fun_mk (st := s_size_of_all) l10 c10 k10
  have b10 := F10.binds (ps := ["values"]) fun _ _ _ _ _ _ us hl => match us, hl with | [_], _ => rfl
  have F11 := fun_mk (st := s_depth) l11 c11 k11
  have b11 := F11.binds (ps := ["value"]) fun _ _ _ _ _ _ us hl => match us, hl with | [_], _ => rfl
  have F12 := fun_mk (st := s_text_of) l12 c12 k12
  have b12 := F12.binds (ps := ["value"]) fun _ _ _ _ _ _ us hl => match us, hl with | [_], _ => rfl
  have F13 := fun_mk (st := s_copied) l13 c13 k13
  have b13 := F13.binds (ps := ["value"]) fun _ _ _ _ _ _ us hl => match us, hl with | [_], _ => rfl
  have F14 := fun_mk (st := s_copy_of) l14 c14 k14
  have b14 := F14.binds (ps := ["value"]) fun _ _ _ _ _ _ us hl => match us, hl with | [_], _ => rfl
  have F15 := fun_mk (st := s__law_cell) l15 c15 k15
  have b15 := F15.binds (ps := ["script", "k"]) fun _ _ _ _ _ _ us hl => match us, hl with | [_, _], _ => rfl
  have F16 := fun_mk (st := s__law_start) l16 c16 k16
  have b16 := F16.binds (ps := ["cell", "k"]) fun _ _ _ _ _ _ us hl => match us, hl with | [_, _], _ => rfl
  have F17 := fun_mk (st := s__law_digit) l17 c17 k17
  have b17 := F17.binds (ps := ["state", "many"]) fun _ _ _ _ _ _ us hl => match us, hl with | [_, _], _ => rfl
  have F18 := fun_mk (st := s__law_text) l18 c18 k18
  have b18 := F18.binds (ps := ["state"]) fun _ _ _ _ _ _ us hl => match us, hl with | [_], _ => rfl
  have F19 := fun_mk (st := s__law_number) l19 c19 k19
  have b19 := F19.binds (ps := ["state"]) fun _ _ _ _ _ _ us hl => match us, hl with | [_], _ => rfl
  have F20 := fun_mk (st := s__law_value) l20 c20 k20
  have b20 := F20.binds (ps := ["state", "levels"]) fun _ _ _ _ _ _ us hl => match us, hl with | [_, _], _ => rfl
  have F21 := fun_mk (st := s__law_kind) l21 c21 k21
  have b21 := F21.binds (ps := ["value"]) fun _ _ _ _ _ _ us hl => match us, hl with | [_], _ => rfl
  have F22 := fun_mk (st := s__law_same) l22 c22 k22
  have b22 := F22.binds (ps := ["first", "second"]) fun _ _ _ _ _ _ us hl => match us, hl with | [_, _], _ => rfl
  have F23 := fun_mk (st := s__law_parts) l23 c23 k23
  have b23 := F23.binds (ps := ["value"]) fun _ _ _ _ _ _ us hl => match us, hl with | [_], _ => rfl
  have F24 := fun_mk (st := s__law_depth) l24 c24 k24
  have b24 := F24.binds (ps := ["value"]) fun _ _ _ _ _ _ us hl => match us, hl with | [_], _ => rfl
  have F25 := fun_mk (st := s__law_size) l25 c25 k25
  have b25 := F25.binds (ps := ["value"]) fun _ _ _ _ _ _ us hl => match us, hl with | [_], _ => rfl
  have F26 := fun_mk (st := s__law_text_of) l26 c26 k26
  have b26 := F26.binds (ps := ["value"]) fun _ _ _ _ _ _ us hl => match us, hl with | [_], _ => rfl
  have F27 := fun_mk (st := s__law_apart) l27 c27 k27
  have b27 := F27.binds (ps := ["value"]) fun _ _ _ _ _ _ us hl => match us, hl with | [_], _ => rfl
  have F28 := fun_mk (st := s__law_told_right) l28 c28 k28
  have b28 := F28.binds (ps := ["value"]) fun _ _ _ _ _ _ us hl => match us, hl with | [_], _ => rfl
  have F29 := fun_mk (st := s__law_other) l29 c29 k29
  have b29 := F29.binds (ps := ["value", "state"]) fun _ _ _ _ _ _ us hl => match us, hl with | [_, _], _ => rfl
  have T : Txt K w mg ⟨()⟩ := {
    z_abs := PySem.W.mg_none_of X G z_abs,
    z_bool := PySem.W.mg_none_of X G z_bool,
    z_dict := PySem.W.mg_none_of X G z_dict,
    z_int := PySem.W.mg_none_of X G z_int,
    z_isinstance := PySem.W.mg_none_of X G z_isinstance,
    z_len := PySem.W.mg_none_of X G z_len,
    z_list := PySem.W.mg_none_of X G z_list,
    z_max := PySem.W.mg_none_of X G z_max,
    z_min := PySem.W.mg_none_of X G z_min,
    z_range := PySem.W.mg_none_of X G z_range,
    z_repr := PySem.W.mg_none_of X G z_repr,
    z_sorted := PySem.W.mg_none_of X G z_sorted,
    z_str := PySem.W.mg_none_of X G z_str,
    z_sum := PySem.W.mg_none_of X G z_sum,
    z_tuple := PySem.W.mg_none_of X G z_tuple,
    z_zip := PySem.W.mg_none_of X G z_zip,
    d_is_number := ⟨_, _, F1, PySem.W.mg_of X G a1, b1⟩,
    d_is_text := ⟨_, _, F2, PySem.W.mg_of X G a2, b2⟩,
    d_members_of := ⟨_, _, F3, PySem.W.mg_of X G a3, b3⟩,
    d_members_of_all := ⟨_, _, F4, PySem.W.mg_of X G a4, b4⟩,
    d_wholes_in := ⟨_, _, F5, PySem.W.mg_of X G a5, b5⟩,
    d_same := ⟨_, _, F6, PySem.W.mg_of X G a6, b6⟩,
    d_same_lists := ⟨_, _, F7, PySem.W.mg_of X G a7, b7⟩,
    d_same_records := ⟨_, _, F8, PySem.W.mg_of X G a8, b8⟩,
    d_size := ⟨_, _, F9, PySem.W.mg_of X G a9, b9⟩,
    d_size_of_all := ⟨_, _, F10, PySem.W.mg_of X G a10, b10⟩,
    d_depth := ⟨_, _, F11, PySem.W.mg_of X G a11, b11⟩,
    d_text_of := ⟨_, _, F12, PySem.W.mg_of X G a12, b12⟩,
    d_copied := ⟨_, _, F13, PySem.W.mg_of X G a13, b13⟩,
    d_copy_of := ⟨_, _, F14, PySem.W.mg_of X G a14, b14⟩,
    d__law_cell := ⟨_, _, F15, PySem.W.mg_of X G a15, b15⟩,
    d__law_start := ⟨_, _, F16, PySem.W.mg_of X G a16, b16⟩,
    d__law_digit := ⟨_, _, F17, PySem.W.mg_of X G a17, b17⟩,
    d__law_text := ⟨_, _, F18, PySem.W.mg_of X G a18, b18⟩,
    d__law_number := ⟨_, _, F19, PySem.W.mg_of X G a19, b19⟩,
    d__law_value := ⟨_, _, F20, PySem.W.mg_of X G a20, b20⟩,
    d__law_kind := ⟨_, _, F21, PySem.W.mg_of X G a21, b21⟩,
    d__law_same := ⟨_, _, F22, PySem.W.mg_of X G a22, b22⟩,
    d__law_parts := ⟨_, _, F23, PySem.W.mg_of X G a23, b23⟩,
    d__law_depth := ⟨_, _, F24, PySem.W.mg_of X G a24, b24⟩,
    d__law_size := ⟨_, _, F25, PySem.W.mg_of X G a25, b25⟩,
    d__law_text_of := ⟨_, _, F26, PySem.W.mg_of X G a26, b26⟩,
    d__law_apart := ⟨_, _, F27, PySem.W.mg_of X G a27, b27⟩,
    d__law_told_right := ⟨_, _, F28, PySem.W.mg_of X G a28, b28⟩,
    d__law_other := ⟨_, _, F29, PySem.W.mg_of X G a29, b29⟩ }
  exact ⟨_, fun s v => .of_eq rfl, fun base _ _ => ok_law (fun_mk (st := s_law) l30 c30 k30) T⟩
theorem walk {l : PySem.W.OpenLaw} {q : Program} {loose : List Str} {XP : (Str → Option Value) → Heap → Prop} {YP : World → Heap → Prop} {d : DefRec} {K : Params → PySem.W.Frag} (hn : l.most = some 63) (hdf : d.params.defaults = [])
    (hY : ∀ (w : World) (h : Heap), YP w h → (K w.params).In h)
    (F : ∀ (w : World) (mg : Str → Option Value) (fa : Addr) (h : Heap), (K w.params).In h → h.Ns mainGlobals mg → mg d.name = some (.ref fa) →
      ∃ fd : FuncData, (∀ (s : Shared) (u : Value), BindsTo s fd ⟨[u], []⟩ [("script", u)]) ∧ ∀ base : Heap, (K w.params).In base → base.Ns mainGlobals mg → FnG l.prog w (K w.params) mg base 60 fa fd ["script"] (spLaw (K w.params))) :
    PySem.W.WalkO q loose XP YP l.row.toRowW d [] (fun f vs => PySem.call f vs) :=
  walk_ofG (n := 63) (k := 60) (x := "script") (sp := fun w => spLaw (K w.params)) hn (by decide) hdf ⟨rfl, by decide, by decide⟩ hY F (fun _ _ a ns hl _ hS => ⟨a, ns, rfl, hS, hl, fun _ => rfl⟩)
end VL

open PySem PySem.W PyProof.Rows in
set_option maxRecDepth 100000 in
set_option maxHeartbeats 0 in
set_option pp.maxSteps 60 in
theorem PySem.Challenge.cw_viewloom_k13_values_that_are_the_same_holds : PySem.Challenge.rw_viewloom_k13_values_that_are_the_same.Holds := by
  w_on; o_law; k_head; (case hw => w_witness2)
  k_fill
  refine VL.walk (l := PySem.Challenge.rw_viewloom_k13_values_that_are_the_same) rfl rfl (fun w h Y => PySem.W.kIn_of Y) ?F
  case F =>
    intro w mg fa h KX G hmg
    refine' VL.all_mk KX G hmg ?z_abs ?z_bool ?z_dict ?z_int ?z_isinstance ?z_len ?z_list ?z_max ?z_min ?z_range ?z_repr ?z_sorted ?z_str ?z_sum ?z_tuple ?z_zip ?a1 ?l1 ?c1 ?k1 ?a2 ?l2 ?c2 ?k2 ?a3 ?l3 ?c3 ?k3 ?a4 ?l4 ?c4 ?k4 ?a5 ?l5 ?c5 ?k5 ?a6 ?l6 ?c6 ?k6 ?a7 ?l7 ?c7 ?k7 ?a8 ?l8 ?c8 ?k8 ?a9 ?l9 ?c9 ?k9 ?a10 ?l10 ?c10 ?k10 ?a11 ?l11 ?c11 ?k11 ?a12 ?l12 ?c12 ?k12 ?a13 ?l13 ?c13 ?k13 ?a14 ?l14 ?c14 ?k14 ?a15 ?l15 ?c15 ?k15 ?a16 ?l16 ?c16 ?k16 ?a17 ?l17 ?c17 ?k17 ?a18 ?l18 ?c18 ?k18 ?a19 ?l19 ?c19 ?k19 ?a20 ?l20 ?c20 ?k20 ?a21 ?l21 ?c21 ?k21 ?a22 ?l22 ?c22 ?k22 ?a23 ?l23 ?c23 ?k23 ?a24 ?l24 ?c24 ?k24 ?a25 ?l25 ?c25 ?k25 ?a26 ?l26 ?c26 ?k26 ?a27 ?l27 ?c27 ?k27 ?a28 ?l28 ?c28 ?k28 ?a29 ?l29 ?c29 ?k29 ?a30 ?l30 ?c30 ?k30
    (case z_abs => k_is)
    (case z_bool => k_is)
    (case z_dict => k_is)
    (case z_int => k_is)
    (case z_isinstance => k_is)
    (case z_len => k_is)
    (case z_list => k_is)
    (case z_max => k_is)
    (case z_min => k_is)
    (case z_range => k_is)
    (case z_repr => k_is)
    (case z_sorted => k_is)
    (case z_str => k_is)
    (case z_sum => k_is)
    (case z_tuple => k_is)
    (case z_zip => k_is)
    (case a1 => k_is)
    (case l1 => k_is)
    (case c1 => k_is)
    (case k1 => k_is)
    (case a2 => k_is)
    (case l2 => k_is)
    (case c2 => k_is)
    (case k2 => k_is)
    (case a3 => k_is)
    (case l3 => k_is)
    (case c3 => k_is)
    (case k3 => k_is)
    (case a4 => k_is)
    (case l4 => k_is)
    (case c4 => k_is)
    (case k4 => k_is)
    (case a5 => k_is)
    (case l5 => k_is)
    (case c5 => k_is)
    (case k5 => k_is)
    (case a6 => k_is)
    (case l6 => k_is)
    (case c6 => k_is)
    (case k6 => k_is)
    (case a7 => k_is)
    (case l7 => k_is)
    (case c7 => k_is)
    (case k7 => k_is)
    (case a8 => k_is)
    (case l8 => k_is)
    (case c8 => k_is)
    (case k8 => k_is)
    (case a9 => k_is)
    (case l9 => k_is)
    (case c9 => k_is)
    (case k9 => k_is)
    (case a10 => k_is)
    (case l10 => k_is)
    (case c10 => k_is)
    (case k10 => k_is)
    (case a11 => k_is)
    (case l11 => k_is)
    (case c11 => k_is)
    (case k11 => k_is)
    (case a12 => k_is)
    (case l12 => k_is)
    (case c12 => k_is)
    (case k12 => k_is)
    (case a13 => k_is)
    (case l13 => k_is)
    (case c13 => k_is)
    (case k13 => k_is)
    (case a14 => k_is)
    (case l14 => k_is)
    (case c14 => k_is)
    (case k14 => k_is)
    (case a15 => k_is)
    (case l15 => k_is)
    (case c15 => k_is)
    (case k15 => k_is)
    (case a16 => k_is)
    (case l16 => k_is)
    (case c16 => k_is)
    (case k16 => k_is)
    (case a17 => k_is)
    (case l17 => k_is)
    (case c17 => k_is)
    (case k17 => k_is)
    (case a18 => k_is)
    (case l18 => k_is)
    (case c18 => k_is)
    (case k18 => k_is)
    (case a19 => k_is)
    (case l19 => k_is)
    (case c19 => k_is)
    (case k19 => k_is)
    (case a20 => k_is)
    (case l20 => k_is)
    (case c20 => k_is)
    (case k20 => k_is)
    (case a21 => k_is)
    (case l21 => k_is)
    (case c21 => k_is)
    (case k21 => k_is)
    (case a22 => k_is)
    (case l22 => k_is)
    (case c22 => k_is)
    (case k22 => k_is)
    (case a23 => k_is)
    (case l23 => k_is)
    (case c23 => k_is)
    (case k23 => k_is)
    (case a24 => k_is)
    (case l24 => k_is)
    (case c24 => k_is)
    (case k24 => k_is)
    (case a25 => k_is)
    (case l25 => k_is)
    (case c25 => k_is)
    (case k25 => k_is)
    (case a26 => k_is)
    (case l26 => k_is)
    (case c26 => k_is)
    (case k26 => k_is)
    (case a27 => k_is)
    (case l27 => k_is)
    (case c27 => k_is)
    (case k27 => k_is)
    (case a28 => k_is)
    (case l28 => k_is)
    (case c28 => k_is)
    (case k28 => k_is)
    (case a29 => k_is)
    (case l29 => k_is)
    (case c29 => k_is)
    (case k29 => k_is)
    (case a30 => k_is)
    (case l30 => k_is)
    (case c30 => k_is)
    (case k30 => k_is)
#print axioms PySem.Challenge.cw_viewloom_k13_values_that_are_the_same_holds
