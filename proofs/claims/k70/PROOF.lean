import PyProof.Rows.All
import Wide.All
import OpenK.AllK
import Wide.FinOn
import HandS.ForMost
import HandS.More
import HandS.Codes
import HandS.StrMore
import HandS.ReplaceDef
import HandS.ReplaceLit
import HandS.ReplaceList
import HandS.FStr
import HandS.Ends
import PyProof.ReprRoads
import PyProof.ReprReads
import PyProof.RowDictHeap
import HandS.DictComp
import HandS.Walk
import KE.DataEq
import HandS.Defaults
import HandS.Property
import HandS.ClsMeth
import HandS.ExcIs
import HandS.RaiseMore
import HandS.ForExc
import HandS.IsInst
import HandS.DeepEq
import HandS.Deep
import HandS.Nested
import HandS.ExcInit
import KE.KSuper
import KE.KExcSuper
import HandS.ExcField
import KE.KExcIs
import PyProof.DictUpdate
import PyProof.DictDisplay
import KE.KDictPairs
import HandS.SortRule
import HandS.DictTup
import HandS.ListItems
import KE.KSortTupAny
import KE.KEqDict
import HandS.ExcOwn
import HandS.IterVal
import HandS.Star
import HandS.SortKw
import HandS.Style
import KE.DatumOrd
import HandS.DictEq
import HandS.Steps
import HandS.TupLe
import HandS.FStrTup
import HandS.TupAny
import KE.RegKIsAll
import PySem.Challenge.RW_viewloom_k70_awaits_are_taken_over
set_option Elab.async false
set_option linter.all false
set_option maxRecDepth 100000
set_option maxHeartbeats 4000000
namespace VL
open PySem PySem.Spec PyProof.Rows L2

/-! ### defs, methods, classes, as callers see them -/
structure Cal (P : Program) (w : World) (K : PySem.W.Frag) (mg : Str → Option Value) (base : Heap) (k : Nat) (x : Str) (sp : Sp) : Prop where
  ex : ∃ (f : Addr) (fd : FuncData) (ps : List Str), FnOk P w K mg base CX0 k f fd ps sp ∧ mg x = some (.ref f) ∧ PySem.W.keepIn K (.ref f) = true ∧ Binds K fd ps []
structure Met (P : Program) (w : World) (K : PySem.W.Frag) (mg : Str → Option Value) (base : Heap) (k : Nat) (C : Addr) (m : Str) (sp : Sp) : Prop where
  ex : ∃ (f : Addr) (fd : FuncData) (ps : List Str), Cls K C ∧ Meth K C m f ∧ FnOk P w K mg base CX0 k f fd ps sp ∧ Binds K fd ps []
structure Mak (P : Program) (w : World) (K : PySem.W.Frag) (mg : Str → Option Value) (base : Heap) (k : Nat) (x : Str) (C : Addr) (sp : Sp) : Prop where
  ex : ∃ (f : Addr) (fd : FuncData) (ps : List Str), Mk K C f ∧ FnOk P w K mg base CX0 k f fd ps sp ∧ mg x = some (.ref C) ∧ Binds K fd ps []
section
variable {X : Cx} {k j : Nat} {C : Addr} {x m : Str} {sp : Sp} {p pos apos : Pos} {e o : Expr} {es : List Expr} {ta : TE} {t : TA}
theorem pe_c (c : Cal X.prog X.w X.K X.mg X.base k x sp) (hr : Room j X.A) (hk : k ≤ j) (hg : Gl X x) (ha : PA X (e :: es) t)
    (hdb : (x == ("__debug__" : Str)) = false := by decide) (he : starEach (e :: es) X.env = (false, eval e X.env) :: starEach es X.env := by rfl) (hpl : (backTo pos (starEach es X.env)).any (·.1) = false := by rfl) :
    PE X (.Call (.Name x p) (e :: es) [] pos) (tCall sp [] E0 t) := by
  obtain ⟨f, fd, ps, F, hm, kp, b⟩ := c.ex
  exact pe_call F (hr.mono hk) hg hm kp b .nil pass0 ha hdb he hpl
theorem pe_mk (c : Mak X.prog X.w X.K X.mg X.base k x C sp) (hr : Room j X.A) (hk : k + 1 ≤ j) (hg : Gl X x) (ha : PA X (e :: es) t)
    (hdb : (x == ("__debug__" : Str)) = false := by decide) (he : starEach (e :: es) X.env = (false, eval e X.env) :: starEach es X.env := by rfl) (hpl : (backTo pos (starEach es X.env)).any (·.1) = false := by rfl) :
    PE X (.Call (.Name x p) (e :: es) [] pos) (tMake C sp [] E0 t) := by
  obtain ⟨f, fd, ps, M, F, hm, b⟩ := c.ex
  exact pe_make M F (hr.mono hk) hg hm b .nil pass0 ha hdb he hpl
theorem pe_mk0 (c : Mak X.prog X.w X.K X.mg X.base k x C sp) (hr : Room j X.A) (hk : k + 1 ≤ j) (hg : Gl X x) (hdb : (x == ("__debug__" : Str)) = false := by decide) :
    PE X (.Call (.Name x p) [] [] pos) (tMake C sp [] E0 tNil) := by
  obtain ⟨f, fd, ps, M, F, hm, b⟩ := c.ex
  exact pe_make0 M F (hr.mono hk) hg hm b .nil pass0 hdb
theorem pe_mt {pl : Sem Bool} (c : Met X.prog X.w X.K X.mg X.base k C m sp) (hr : Room j X.A) (hk : k ≤ j) (he : PE X o ta) (ha : PA X (e :: es) t)
    (hst : starEach (e :: es) X.env = (false, eval e X.env) :: starEach es X.env := by rfl) (hpl : (backTo pos (starEach es X.env)).any (·.1) = false := by rfl)
    (ht : eval (.Call (.Attribute o m apos) (e :: es) [] pos) X.env = (do
      let ov ← eval o X.env
      standAt apos.atName
      let (f, first) ← holding [ov] (getMethod ov m pl)
      callWith pos f first (backTo pos (starEach (e :: es) X.env)) (backToKw pos (keywordEach [] X.env))) := by rfl) :
    PE X (.Call (.Attribute o m apos) (e :: es) [] pos) (tMeth C m sp [] E0 ta t) := by
  obtain ⟨f, fd, ps, hc, hm, F, b⟩ := c.ex
  exact pe_meth (pl := pl) he hc hm F (hr.mono hk) b .nil pass0 ha hst hpl ht
theorem pe_mt0 {pl : Sem Bool} (c : Met X.prog X.w X.K X.mg X.base k C m sp) (hr : Room j X.A) (hk : k ≤ j) (he : PE X o ta)
    (ht : eval (.Call (.Attribute o m apos) [] [] pos) X.env = (do
      let ov ← eval o X.env
      standAt apos.atName
      let (f, first) ← holding [ov] (getMethod ov m pl)
      callWith pos f first (backTo pos (starEach [] X.env)) (backToKw pos (keywordEach [] X.env))) := by rfl) :
    PE X (.Call (.Attribute o m apos) [] [] pos) (tMeth C m sp [] E0 ta tNil) := by
  obtain ⟨f, fd, ps, hc, hm, F, b⟩ := c.ex
  exact pe_meth0 (pl := pl) he hc hm F (hr.mono hk) b .nil pass0 ht
end

/-! ### what the text has -/
def DefE (K : PySem.W.Frag) (mg : Str → Option Value) (x : Str) (st : Stmt) (ps : List Str) : Prop := ∃ (f : Addr) (fd : FuncData), Fun K x x st f fd ∧ mg x = some (.ref f) ∧ Binds K fd ps []
def MethE (K : PySem.W.Frag) (C : Addr) (x qual : Str) (st : Stmt) (ps : List Str) : Prop := ∃ (f : Addr) (fd : FuncData), Fun K x qual st f fd ∧ Meth K C x f ∧ Binds K fd ps []
def InitE (K : PySem.W.Frag) (mg : Str → Option Value) (cn : Str) (C : Addr) (qual : Str) (st : Stmt) (ps : List Str) : Prop := ∃ (f : Addr) (fd : FuncData), Fun K "__init__" qual st f fd ∧ Mk K C f ∧ mg cn = some (.ref C) ∧ Binds K fd ps []
/-- a global name of the module has the value v -/
abbrev GV (mg : Str → Option Value) (x : Str) (v : V) : Prop := ∃ u, mg x = some u ∧ RelV v u
section
variable {P : Program} {w : World} {K : PySem.W.Frag} {mg : Str → Option Value} {base : Heap}
theorem cal_of {x : Str} {st : Stmt} {ps N : List Str} {k : Nat} {sp : Sp} (D : DefE K mg x st ps) (S : FnScope N ps (defScope st)) (len : ∀ vs H Q E, sp vs H Q E → vs.length = ps.length)
    (hbody : ∀ (f : Addr) (cdv : Value) (A : Around) (outer : List Env) (s : Shared) (H : Hp) (vs : List V) (Q : VK) (E : XK), Room k (A.deeper (envOfC x (defScope st) s.heap.objs.size f cdv)) → sp vs H Q E →
      ∃ t, PSs (cxOf CX0 P w K mg base N x (defScope st) f cdv A outer s H E).nox (defBody st) t ∧ t { nx := fun _ H' => Q .non H', rt := Q } (start N vs) H) : Cal P w K mg base (k + 1) x sp := by
  obtain ⟨f, fd, F, hm, b⟩ := D
  exact ⟨f, fd, ps, F.ok S len (hbody f), hm, F.kp, b⟩
theorem met_of {C : Addr} {x qual : Str} {st : Stmt} {ps N : List Str} {k : Nat} {sp : Sp} (D : MethE K C x qual st ps) (c : Cls K C) (S : FnScope N ps (defScope st)) (len : ∀ vs H Q E, sp vs H Q E → vs.length = ps.length)
    (hbody : ∀ (f : Addr) (cdv : Value) (A : Around) (outer : List Env) (s : Shared) (H : Hp) (vs : List V) (Q : VK) (E : XK), Room k (A.deeper (envOfC qual (defScope st) s.heap.objs.size f cdv)) → sp vs H Q E →
      ∃ t, PSs (cxOf CX0 P w K mg base N qual (defScope st) f cdv A outer s H E).nox (defBody st) t ∧ t { nx := fun _ H' => Q .non H', rt := Q } (start N vs) H) : Met P w K mg base (k + 1) C x sp := by
  obtain ⟨f, fd, F, hm, b⟩ := D
  exact ⟨f, fd, ps, c, hm, F.ok S len (hbody f), b⟩
theorem mak_of {C : Addr} {cn qual : Str} {st : Stmt} {ps N : List Str} {k : Nat} {sp : Sp} (D : InitE K mg cn C qual st ps) (S : FnScope N ps (defScope st)) (len : ∀ vs H Q E, sp vs H Q E → vs.length = ps.length)
    (hbody : ∀ (f : Addr) (cdv : Value) (A : Around) (outer : List Env) (s : Shared) (H : Hp) (vs : List V) (Q : VK) (E : XK), Room k (A.deeper (envOfC qual (defScope st) s.heap.objs.size f cdv)) → sp vs H Q E →
      ∃ t, PSs (cxOf CX0 P w K mg base N qual (defScope st) f cdv A outer s H E).nox (defBody st) t ∧ t { nx := fun _ H' => Q .non H', rt := Q } (start N vs) H) : Mak P w K mg base (k + 1) cn C sp := by
  obtain ⟨f, fd, F, M, hm, b⟩ := D
  exact ⟨f, fd, ps, M, F.ok S len (hbody f), hm, b⟩
end
theorem ps_str_loc : True := trivial
end VL

set_option Elab.async false
set_option linter.all false
set_option maxRecDepth 100000
set_option maxHeartbeats 4000000
namespace VL
open PySem PySem.Spec PyProof.Rows L2

/-! ### texts as lists of signs -/
abbrev TX (l : List Nat) : Str := ⟨l.toArray⟩
theorem TX_tl (l : List Nat) : (TX l).cps.toList = l := by simp
theorem TX_len (l : List Nat) : (TX l).length = l.length := by simp [Str.length]
theorem TX_cat (a b : List Nat) : TX a ++ TX b = TX (a ++ b) := SX.S_cat a b
theorem TX_inj {a b : List Nat} (h : TX a = TX b) : a = b := SX.S_inj h
theorem vstr_TX {a b : List Nat} : decide (V.str (TX a) = V.str (TX b)) = decide (a = b) := by
  by_cases e : a = b
  · subst e; simp
  · have : ¬ V.str (TX a) = V.str (TX b) := fun q => e (TX_inj (V.str.inj q))
    rw [decide_eq_false this, decide_eq_false e]
theorem one_eq {c d : Nat} : decide (V.str (TX [c]) = V.str (TX [d])) = decide (c = d) := by
  rw [vstr_TX]
  by_cases e : c = d
  · subst e; simp
  · simp [e]
/-- the sign at a place -/
theorem at_mid {pre r : List Nat} {c : Nat} {i : Int} (hi : i = (pre.length : Int)) : atI (TX (pre ++ c :: r)).cps.toList i = some c := by
  subst hi
  rw [TX_tl]
  unfold atI ixN
  rw [if_pos (by omega), if_pos (by simp; omega)]
  show (pre ++ c :: r)[(pre.length : Int).toNat]? = _
  rw [Int.toNat_natCast]
  simp
theorem getD_TX (l : List Nat) (v : Nat) : (TX l).cps.getD v 0 = l.getD v 0 := by
  simp only [Array.getD, List.getD_eq_getElem?_getD]
  by_cases h : v < l.length
  · rw [dif_pos (by simpa using h)]
    simp [h]
  · rw [dif_neg (by simpa using h), List.getElem?_eq_none (by omega)]
    rfl
theorem lt_one {c d : Nat} : ([c] < [d]) ↔ c < d := by
  constructor
  · intro h
    cases h with
    | rel h => exact h
    | cons h => cases h
  · intro h
    exact .rel h
/-- s.startswith(y, i) -/
theorem starts_at {pre R y : List Nat} {i : Int} (hi : i = (pre.length : Int)) : Txt.startswith3 (TX (pre ++ R)) (TX y) i = (R.take y.length == y) := by
  subst hi
  have e : fromIndex (TX (pre ++ R)).length (pre.length : Int) = pre.length := by
    unfold fromIndex
    rw [if_neg (by omega)]
    omega
  unfold Txt.startswith3
  rw [e, StrLaws.subAt_eq]
  have h1 : (TX (pre ++ R)).cps.toList.drop pre.length = R := by simp
  rw [h1, TX_len, TX_len]
  show (decide (pre.length + y.length ≤ (pre ++ R).length) && (R.take y.length == (TX y).cps.toList)) = _
  rw [TX_tl, List.length_append]
  by_cases h : y.length ≤ R.length
  · rw [decide_eq_true (by omega)]
    rfl
  · rw [decide_eq_false (by omega)]
    have : (R.take y.length == y) = false := by
      refine beq_eq_false_iff_ne.mpr fun q => h ?_
      have := congrArg List.length q
      rw [List.length_take] at this
      omega
    rw [this]
    rfl
/-- s.find("\n", i) -/
theorem find_nl {pre c r : List Nat} {d : Nat} {i : Int} (hi : i = (pre.length : Int)) (hc : d ∉ c) : Txt.find3 (TX (pre ++ (c ++ d :: r))) (TX [d]) i = ((pre.length + c.length : Nat) : Int) := by
  subst hi
  have e : fromIndex (TX (pre ++ (c ++ d :: r))).length (pre.length : Int) = pre.length := by
    unfold fromIndex
    rw [if_neg (by omega)]
    omega
  have hg : ∀ v, v < (pre ++ (c ++ d :: r)).length → (TX (pre ++ (c ++ d :: r))).cps.getD v 0 = (pre ++ (c ++ d :: r)).getD v 0 := fun v _ => getD_TX _ v
  have hat : (pre ++ (c ++ d :: r)).getD (pre.length + c.length) 0 = d := by simp [List.getD_eq_getElem?_getD]
  have hlt : pre.length + c.length < (pre ++ (c ++ d :: r)).length := by rw [List.length_append, List.length_append, List.length_cons]; omega
  rcases StrLaws.find3_spec (TX (pre ++ (c ++ d :: r))) d (pre.length : Int) with ⟨_, h2⟩ | ⟨k, h1, h2, h3, h4, h5⟩
  · rw [e, TX_len] at h2
    exact absurd (by rw [hg _ hlt]; exact hat) (h2 (pre.length + c.length) (by omega) hlt)
  · rw [e] at h2 h5
    rw [TX_len] at h3
    rw [h1]
    have hk : k = pre.length + c.length := by
      rcases Nat.lt_trichotomy k (pre.length + c.length) with q | q | q
      · exfalso
        rw [hg k h3] at h4
        have e3 : (pre ++ (c ++ d :: r)).getD k 0 = c.getD (k - pre.length) 0 := by
          rw [List.getD_eq_getElem?_getD, List.getD_eq_getElem?_getD, List.getElem?_append_right h2, List.getElem?_append_left (by omega)]
        rw [e3] at h4
        apply hc
        have hlt2 : k - pre.length < c.length := by omega
        rw [List.getD_eq_getElem?_getD, List.getElem?_eq_getElem hlt2] at h4
        have h4 : c[k - pre.length] = d := h4
        rw [← h4]
        exact List.getElem_mem hlt2
      · exact q
      · exfalso
        exact h5 (pre.length + c.length) (by omega) q (by rw [hg _ hlt]; exact hat)
    rw [hk]
/-- s[i:j] -/
theorem cut_mid {pre m r : List Nat} {i j : Int} (hi : i = (pre.length : Int)) (hj : j = ((pre.length + m.length : Nat) : Int)) : cutS (TX (pre ++ (m ++ r))) (some i) (some j) = TX m := by
  subst hi hj
  unfold cutS
  rw [TX_len, HT.sIx_nat, HT.sIx_nat, TX_tl]
  have e1 : min pre.length (pre ++ (m ++ r)).length = pre.length := by simp
  have e2 : min (pre.length + m.length) (pre ++ (m ++ r)).length = pre.length + m.length := by simp
  rw [e1, e2]
  refine congrArg TX ?_
  rw [List.drop_left, Nat.add_sub_cancel_left, List.take_left]

/-! ### rows -/
def rws : List Nat → List Nat → List (List Nat)
  | acc, [] => [acc]
  | acc, c :: r => if c = 10 then acc :: rws [] r else rws (acc ++ [c]) r
theorem spl_rws : ∀ (l acc : List Nat), TL.spl [10] 0 acc l = rws acc l
  | [], acc => by rw [TL.spl_nil]; rfl
  | c :: r, acc => by
    unfold rws
    by_cases h : c = 10
    · subst h
      rw [if_pos rfl, TL.spl_hit (by rfl)]
      exact congrArg (acc :: ·) (spl_rws r [])
    · rw [if_neg h, TL.spl_miss (by
        show TL.pre [10] (c :: r) = false
        unfold TL.pre
        simp [h])]
      exact spl_rws r _
theorem rws_ne : ∀ (l acc : List Nat), rws acc l ≠ []
  | [], acc => by unfold rws; simp
  | c :: r, acc => by
    unfold rws
    split
    · simp
    · exact rws_ne r _
def lnOf (l : List Nat) : Nat := (rws [] l).length
def clOf (l : List Nat) : Nat := ((rws [] l).getLast (rws_ne _ _)).length
theorem rws_plain : ∀ (l acc m : List Nat), 10 ∉ m → ∃ fr la, rws acc l = fr ++ [la] ∧ rws acc (l ++ m) = fr ++ [la ++ m]
  | [], acc, m, h => by
    refine ⟨[], acc, rfl, ?_⟩
    show rws acc m = [acc ++ m]
    induction m generalizing acc with
    | nil => rw [List.append_nil]; rfl
    | cons c m ih =>
      have hc : c ≠ 10 := fun e => h (by rw [e]; exact List.mem_cons_self)
      unfold rws
      rw [if_neg hc, ih _ fun e => h (List.mem_cons_of_mem _ e), List.append_assoc]
      rfl
  | c :: r, acc, m, h => by
    rw [List.cons_append]
    unfold rws
    by_cases hc : c = 10
    · rw [if_pos hc, if_pos hc]
      obtain ⟨fr, la, e1, e2⟩ := rws_plain r [] m h
      exact ⟨acc :: fr, la, by rw [e1]; rfl, by rw [e2]; rfl⟩
    · rw [if_neg hc, if_neg hc]
      exact rws_plain r _ m h
theorem rws_nl : ∀ (l acc : List Nat), rws acc (l ++ [10]) = rws acc l ++ [[]]
  | [], acc => by
    show rws acc [10] = [acc] ++ [[]]
    unfold rws
    rw [if_pos rfl]
    rfl
  | c :: r, acc => by
    rw [List.cons_append]
    unfold rws
    split
    · rw [rws_nl r []]; rfl
    · exact rws_nl r _
theorem getLast_of {α : Type} {l fr : List α} {la : α} (h : l ≠ []) (e : l = fr ++ [la]) : l.getLast h = la := by
  subst e
  simp
theorem ln_plain (l m : List Nat) (h : 10 ∉ m) : lnOf (l ++ m) = lnOf l := by
  obtain ⟨fr, la, e1, e2⟩ := rws_plain l [] m h
  unfold lnOf
  rw [e1, e2]
  simp
theorem cl_plain (l m : List Nat) (h : 10 ∉ m) : clOf (l ++ m) = clOf l + m.length := by
  obtain ⟨fr, la, e1, e2⟩ := rws_plain l [] m h
  unfold clOf
  rw [getLast_of _ e1, getLast_of _ e2, List.length_append]
theorem ln_nl (l : List Nat) : lnOf (l ++ [10]) = lnOf l + 1 := by
  unfold lnOf
  rw [rws_nl]
  simp
theorem cl_nl (l : List Nat) : clOf (l ++ [10]) = 0 := by
  unfold clOf
  rw [getLast_of _ (rws_nl l [])]
  rfl
theorem cl_le : ∀ l : List Nat, clOf l ≤ l.length := by
  intro l
  have : ∀ (l acc : List Nat), ((rws acc l).getLast (rws_ne _ _)).length ≤ acc.length + l.length := by
    intro l
    induction l with
    | nil => intro acc; simp [rws]
    | cons c r ih =>
      intro acc
      by_cases hc : c = 10
      · have e : rws acc (c :: r) = acc :: rws [] r := by
          show (if c = 10 then _ else _) = _
          rw [if_pos hc]
        have e2 : (rws acc (c :: r)).getLast (rws_ne _ _) = (rws [] r).getLast (rws_ne _ _) := by
          simp only [e]
          exact List.getLast_cons (rws_ne _ _)
        rw [e2]
        have := ih []
        simp at this ⊢
        omega
      · have e : rws acc (c :: r) = rws (acc ++ [c]) r := by
          show (if c = 10 then _ else _) = _
          rw [if_neg hc]
        have e2 : (rws acc (c :: r)).getLast (rws_ne _ _) = (rws (acc ++ [c]) r).getLast (rws_ne _ _) := by simp only [e]
        rw [e2]
        have := ih (acc ++ [c])
        simp at this ⊢
        omega
  have := this l []
  simpa [clOf] using this
/-- row = source.split("\n"): how many, and the last one's length -/
theorem split_rows (l : List Nat) : Txt.split (TX l) (TX [10]) = (rws [] l).map TX := by
  have := SX.split_S (a := l) (b := [10]) (by simp) (by decide)
  rw [spl_rws] at this
  exact this
theorem rows_last (l : List Nat) : ∃ la : List Nat, atI ((rws [] l).map fun r => V.str (TX r)) (-1) = some (.str (TX la)) ∧ la.length = clOf l := by
  refine ⟨(rws [] l).getLast (rws_ne _ _), ?_, rfl⟩
  have hp : 0 < (rws [] l).length := List.length_pos_iff.mpr (rws_ne _ _)
  unfold atI ixN
  rw [if_neg (by decide), if_pos (by rw [List.length_map]; omega)]
  show ((rws [] l).map fun r => V.str (TX r))[_]? = _
  have e : (-1 + (((rws [] l).map fun r => V.str (TX r)).length : Int)).toNat = (rws [] l).length - 1 := by rw [List.length_map]; omega
  rw [e, List.getElem?_map, List.getElem?_eq_getElem (by omega), List.getLast_eq_getElem]
  rfl

/-! ### signs -/
def isLet (c : Nat) : Bool := (decide (97 ≤ c) && decide (c ≤ 122)) || (decide (65 ≤ c) && decide (c ≤ 90))
def isDig (c : Nat) : Bool := decide (48 ≤ c) && decide (c ≤ 57)
def isWs (c : Nat) : Bool := isLet c || isDig c || decide (c = 95)
end VL

set_option Elab.async false
set_option linter.all false
set_option maxRecDepth 100000
set_option maxHeartbeats 4000000
namespace VL
open PySem PySem.Spec PyProof.Rows L2

/-! ### defs whose first deed is s.replace(..) of written texts: a parameter's token is out -/
section
variable {P : Program} {w : World} {K : PySem.W.Frag} {mg : Str → Option Value} {base : Heap}
theorem cal_ofT {x : Str} {st : Stmt} {ps N : List Str} {k : Nat} {sp : Sp} (D : DefE K mg x st ps) (S : FnScope N ps (defScope st)) (hnc : ∀ y ∈ (defScope st).names, y.2 ≠ .cell) (hps : 1 ≤ ps.length) (len : ∀ vs H Q E, sp vs H Q E → vs.length = ps.length)
    (hbody : ∀ (f : Addr) (cdv : Value) (A : Around) (outer : List Env) (s : Shared) (H : Hp) (vs : List V) (Q : VK) (E : XK), Room k (A.deeper (envOfC x (defScope st) s.heap.objs.size f cdv)) → sp vs H Q E →
      ∃ t, PSsT (cxOf CX0 P w K mg base N x (defScope st) f cdv A outer s H E) (defBody st) t ∧ t { nx := fun _ H' => Q .non H', rt := Q } (start N vs) H) : Cal P w K mg base (k + 1) x sp := by
  obtain ⟨f, fd, F, hm, b⟩ := D
  have kp := F.kp
  obtain ⟨oc, od, kV, doc, pm, an, cdv, ct, osl, rfl, lk, hcd⟩ := F.ex
  exact ⟨f, _, ps, fn_ofT lk hcd S hnc hps len (fun A outer s H vs Q E hr h => hbody f cdv A outer s H vs Q E hr h), hm, kp, b⟩
end
/-- x = e, e with s.replace(..) in it -/
theorem pst_set {X : Cx} {i : Nat} {x : Str} {e : Expr} {te : TE} {pos' pos : Pos} (hN : X.N.Nodup) (hi : X.N[i]? = some x) (hx : Loc X.env.scope x) (he : PET X e te)
    (hs : swapsWith e (some (.Name x pos')) pos.line X.env = pure false := by rfl) (hf : X.fn x = true ∨ X.env.scope.names.lookup x = some .local := by first | exact .inl rfl | exact .inr rfl | assumption) :
    PST X (.Assign [.Name x pos'] e pos) (tAsg te (gName i)) := by
  intro pins s σ H D h0 I h
  refine wpAny_Assign_Name (thn (he pins s σ H _ h0 I h) fun v s1 z => ?_) hs
  obtain ⟨y, H1, I1, r1, q1⟩ := z
  exact store_ok I1 hN hi hx r1 (fun s2 I2 => ⟨_, H1, I2, q1⟩) hf
/-- an f-string, its reading by name (for comprehensions) -/
def tJoined (ts : List TE) : TE := fun σ H Q => tJs ts Str.empty σ H fun out H1 => Q (.str out) H1
theorem pe_joinedT {X : Cx} {v1 v2 : Expr} {rest : List Expr} {ts : List TE} {pos : Pos} (h : PJ X (v1 :: v2 :: rest) ts) : PE X (.JoinedStr (v1 :: v2 :: rest) pos) (tJoined ts) := pe_joined h
/-- each sign c of a text becomes z -/
def rep1 (c : Nat) (z l : List Nat) : List Nat := l.flatMap fun d => if d = c then z else [d]
theorem replL_one (c : Nat) (z : List Nat) : ∀ l : List Nat, StrLaws.replL [c] z l = rep1 c z l
  | [] => by rw [StrLaws.replL_nil]; rfl
  | d :: l => by
    by_cases h : d = c
    · subst h
      rw [StrLaws.replL_hit (by simp) (by simp)]
      show z ++ StrLaws.replL [d] z l = _
      rw [replL_one d z l]
      simp [rep1]
    · rw [StrLaws.replL_miss (by simpa using h), replL_one c z l]
      simp [rep1, h]
theorem replace_TX {l z : List Nat} {c : Nat} : Txt.replace (TX l) (TX [c]) (TX z) = TX (rep1 c z l) := by
  have h := StrLaws.replace_list (x := TX l) (y := TX [c]) (z := TX z) (by rw [TX_len]; exact Nat.le_refl _)
  rw [TX_tl, TX_tl, TX_tl, replL_one] at h
  calc Txt.replace (TX l) (TX [c]) (TX z) = TX (Txt.replace (TX l) (TX [c]) (TX z)).cps.toList := by simp
    _ = _ := by rw [h]
theorem join_TX : ∀ ls : List (List Nat), Txt.join (TX []) (ls.map TX) = TX ls.flatten := by
  intro ls
  rw [TL.join_eq]
  induction ls with
  | nil => rfl
  | cons a r ih =>
    cases r with
    | nil =>
      show TX a = _
      simp
    | cons b r =>
      show TX a ++ TX [] ++ Str.join (TX []) ((b :: r).map TX) = _
      rw [ih, TX_cat, TX_cat]
      simp
theorem sum_TX (ls : List (List Nat)) : ((ls.map TX).map (·.length)).sum = ls.flatten.length := by
  induction ls with
  | nil => rfl
  | cons a r ih => simp only [List.map_cons, List.sum_cons, List.flatten_cons, List.length_append, ih, TX_len]
end VL

set_option Elab.async false
set_option linter.all false
set_option maxRecDepth 100000
set_option maxHeartbeats 4000000
namespace VL
open PySem PySem.Spec PyProof.Rows L2

/-! ### a def that is called where nothing is being shown: the law's own; repr of nested data there -/
structure FnG (P : Program) (w : World) (K : PySem.W.Frag) (mg : Str → Option Value) (base : Heap) (k : Nat) (f : Addr) (fd : FuncData) (ps : List Str) (sp : Sp) : Prop where
  run : ∀ (A : Around) (outer : List Env) (s : Shared) (H : Hp) (args : Args) (us : List Value) (vs : List V) (Q : VK) (E : XK), A.guards = some [] → Room k A → Env0 P w K mg base A outer s H → BindsTo s fd args (ps.zip us) → Vals vs us → sp vs H Q E →
    codeAny (model P w) A (.call (.ref f) args) (CR CX0 outer P w H s Q E) s
theorem fnG_of {P : Program} {w : World} {K : PySem.W.Frag} {mg : Str → Option Value} {base : Heap} {x qual : Str} {st : Stmt} {f : Addr} {fd : FuncData} {N ps : List Str} {k : Nat} {sp : Sp} (F : Fun K x qual st f fd) (S : FnScope N ps (defScope st)) (len : ∀ vs H Q E, sp vs H Q E → vs.length = ps.length)
    (hb0 : ∀ (cdv : Value) (A : Around) (outer : List Env) (s : Shared) (H : Hp) (vs : List V) (Q : VK) (E : XK), A.guards = some [] → Room k (A.deeper (envOfC qual (defScope st) s.heap.objs.size f cdv)) → sp vs H Q E →
      ∃ t, PSs (cxOf CX0 P w K mg base N qual (defScope st) f cdv A outer s H E).nox (defBody st) t ∧ t { nx := fun _ H' => Q .non H', rt := Q } (start N vs) H) : FnG P w K mg base (k + 1) f fd ps sp := by
  obtain ⟨oc, od, kV, doc, pm, an, cdv, ct, osl, rfl, lk, hcd⟩ := F.ex
  refine ⟨fun A outer s H args us vs Q E gd hr en hb rv hsp => ?_⟩
  have hlen := len _ _ _ _ hsp
  have kin : K.In s.heap := en.mod.kin.keeps fun b o e => (en.bs b o e).1
  have nl : s.heap.NoLimit := en.mod.nolimit.keeps fun b o e => (en.bs b o e).1
  have kinds : ∀ y ∈ ps.zip us, (defScope st).names.lookup y.1 = some .local ∨ ((defScope st).names.lookup y.1 = some .cell ∧ ((cellsFrom (s.heap.objs.size + 1) (defScope st).names []).lookup y.1).isSome = true) := fun ⟨n, v⟩ hy => by
    rcases S.par n (List.of_mem_zip hy).1 with c | c
    · exact .inl c
    · exact .inr ⟨c, PySem.W.cellsFrom_some _ _ _ (.inl c)⟩
  refine codeAny_call_function hr.depth (kin _ _ lk) rfl S.co S.gen rfl (PySem.W.codeRec_of kin hcd) (hb _ _ _ _ ?_)
  refine wpAny_newFunctionEnv_cells S.kind kinds fun env he s1 ic => ?_
  subst he
  refine ⟨nl.keeps ic.toInCall.keep, codeAny_func ?_⟩
  obtain ⟨t, hd, hq⟩ := hb0 cdv A outer s H vs Q E gd (hr.deeper _) hsp
  have J0 : Inv (cxOf CX0 P w K mg base N qual (defScope st) f cdv A outer s H E) [] (start N vs) H s1 := inv_start S hr.hd en hlen rv ic
  refine wpAny_mono (hd.nox.run [] s1 (start N vs) H _ J0 hq) (fun fl s2 hs => ?_) fun e s2 hs => hs
  have done : ∀ {σ2 : L2.St} {H2 : Hp} {v : V} {u : Value}, Inv (cxOf CX0 P w K mg base N qual (defScope st) f cdv A outer s H E) [] σ2 H2 s2 → RelV v u → Q v H2 → CE outer P w H s Q u s2 :=
    fun {σ2 H2 v u} J rw q => ⟨v, H2, J.os, J.bare, J.base, J.hok, rw, q⟩
  cases fl with
  | ret u =>
    obtain ⟨v, σ2, H2, J, rw, q⟩ := hs
    exact done J rw q
  | next =>
    obtain ⟨σ2, H2, J, q⟩ := hs
    exact done (v := V.non) (u := Value.none) J rfl q
  | brk => exact hs.elim fun _ z => z.elim fun _ z => z.2.elim
  | cont => exact hs.elim fun _ z => z.elim fun _ z => z.2.elim
/-- the law's call, where nothing is being shown -/
theorem law_callG {P : Program} {w : World} {K : PySem.W.Frag} {mg mb : Str → Option Value} {k : Nat} {fa a : Addr} {fd : FuncData} {x : Str} {sp : Sp} {s₁ : Shared} {vs : List Value} {ns : List Int}
    (kin : K.In s₁.heap) (ng : s₁.heap.Ns mainGlobals mg) (nb : s₁.heap.Ns builtinsNs mb) (bb : ∀ x : Str, x ≠ "__name__" → mb x = bootBuiltins x) (nl : s₁.heap.NoLimit) (hgen : s₁.gens = #[])
    (ea : s₁.heap.get? a = some { cls := .type "list", data := .seq vs.toArray }) (hi : IntsAre vs ns) (hz : ns.length ≤ sizeLine) (hr : Room k callerA)
    (F : ∀ base : Heap, K.In base → base.Ns mainGlobals mg → FnG P w K mg base k fa fd [x] sp) (hbind : ∀ (s : Shared) (u : Value), BindsTo s fd ⟨[u], []⟩ [(x, u)])
    (hsp : ∀ H : Hp, Only H → SqL K H a (ns.map V.int) → sp [.ref a] H (fun v _ => v = .bl true) fun _ _ _ => False) :
    codeAny (model P w) callerA (.call (.ref fa) ⟨[.ref a], []⟩) (fun r s2 => r = .ok (.ret (.bool true)) ∧ OldK s₁.heap s2.heap ∧ s2.os = s₁.os ∧ AllBare s2.gens) s₁ := by
  have rel := vals_ints hi
  have lv := hi.length
  have go : ∀ H : Hp, Only H → SqL K H a (ns.map V.int) → HOk P w H s₁.heap → (∀ b, H b ≠ none → b = a) → (H a ≠ none → K.lookup a = none) →
      codeAny (model P w) callerA (.call (.ref fa) ⟨[.ref a], []⟩) (fun r s2 => r = .ok (.ret (.bool true)) ∧ OldK s₁.heap s2.heap ∧ s2.os = s₁.os ∧ AllBare s2.gens) s₁ := by
    intro H ho hq ok only out
    have low : ∀ {b : Addr} {o : Obj}, s₁.heap.get? b = some o → H b = none → (hidT s₁.heap H).get? b = some o := fun e n => hidT_get e n
    have nod : ∀ {b : Addr} {o : Obj} {es : Array DictEntry} {ep : Nat}, s₁.heap.get? b = some o → o.data = .dict es ep → H b = none := fun {b o es ep} e d => by
      cases c : H b with
      | none => rfl
      | some u =>
        obtain rfl : b = a := only b (by rw [c]; simp)
        rw [ea] at e
        cases e
        exact nomatch (show Data.seq vs.toArray _ = Data.dict es ep from d)
    have nsl : ∀ {b : Addr} {m : Str → Option Value}, s₁.heap.Ns b m → (hidT s₁.heap H).Ns b m := fun {b m} ⟨o, es, ep, e, d, r⟩ => ⟨o, es, ep, low e (nod e d), d, r⟩
    have kl : K.In (hidT s₁.heap H) := fun b o e => low (kin b o e) (by
      cases c : H b with
      | none => rfl
      | some u =>
        obtain rfl : b = a := only b (by rw [c]; simp)
        rw [out (by rw [c]; simp)] at e
        exact nomatch e)
    have md : Mod K mg (hidT s₁.heap H) := ⟨kl, nsl ng, ⟨mb, nsl nb, bb⟩, let ⟨mc, h1, h2⟩ := nl; ⟨mc, nsl h1, h2⟩⟩
    have en : Env0 P w K mg (hidT s₁.heap H) callerA [] s₁ H := ⟨rfl, md, fun b o e => of_hidT e, Nat.le_of_eq (hidT_size _ _), trivial, fun b hb => absurd (show b ∈ ([] : List Addr) from hb) (by simp), ok, .of_eq hgen⟩
    refine codeAny_mono ((F _ kl (nsl ng)).run callerA [] s₁ H ⟨[.ref a], []⟩ [.ref a] [.ref a] _ _ rfl hr en (hbind s₁ (.ref a)) (.cons rfl .nil) (hsp H ho hq)) fun r s2 h => ?_
    cases r with
    | error e => exact False.elim h
    | ok fl =>
      cases fl with
      | next => exact h.elim
      | brk => exact h.elim
      | cont => exact h.elim
      | ret u =>
        obtain ⟨v, H2, os, bare, un, ok2, r2, q⟩ := h
        obtain rfl : v = .bl true := q
        obtain rfl : u = Value.bool true := r2
        refine ⟨rfl, OldK.of_keep fun b o e => ?_, os, bare⟩
        cases c : H b with
        | none => exact un.keep b o e c (by intro z; exact absurd (show b ∈ ([] : List Addr) from z) (by simp)) (by simp)
        | some u =>
          rcases ho b with z | ⟨ob, xs, z⟩
          · exact nomatch c.symm.trans z
          · obtain ⟨e1, _⟩ := ok b _ z
            obtain ⟨e2, _⟩ := ok2 b _ (un.frzs b ob _ z)
            rw [e] at e1
            cases e1
            exact e2
  cases hk : K.lookup a with
  | some o =>
    have e := kin a o hk
    rw [ea] at e
    cases e
    exact go (fun _ => none) (fun _ => .inl rfl) (.inr ⟨_, vs.toArray, _, hk, rfl, rfl, rfl, by rw [List.size_toArray, lv]; exact hz, by simpa using rel⟩) (fun b u z => nomatch (show (none : Option HO) = some u from z)) (fun b z => absurd rfl z) fun z => absurd rfl z
  | none =>
    refine go (fun b => if b = a then some (.frz { cls := .type "list", data := .seq vs.toArray } (.lst (ns.map V.int))) else none) (fun b => ?_) (.inl (.inr ⟨{ cls := .type "list", data := .seq vs.toArray }, if_pos rfl⟩)) (fun b u z => ?_) (fun b z => ?_) fun _ => hk
    · by_cases hb : b = a
      · exact Or.inr ⟨_, _, if_pos hb⟩
      · exact Or.inl (if_neg hb)
    · by_cases hb : b = a
      · cases (if_pos hb).symm.trans z
        subst hb
        exact ⟨ea, by rw [List.length_map]; exact hz, vs, _, rel, ea⟩
      · exact nomatch (if_neg hb).symm.trans z
    · by_cases hb : b = a
      · exact hb
      · exact absurd (if_neg hb) z
theorem walk_ofG {l : PySem.W.OpenLaw} {n k : Nat} {q : Program} {loose : List Str} {XP : (Str → Option Value) → Heap → Prop} {YP : World → Heap → Prop} {d : DefRec} {K : Params → PySem.W.Frag} {sp : World → Sp} {x : Str}
    (hn : l.most = some n) (hn2 : n ≤ sizeLine) (hdf : d.params.defaults = []) (hr : Room k callerA) (hY : ∀ (w : World) (h : Heap), YP w h → (K w.params).In h)
    (F : ∀ (w : World) (mg : Str → Option Value) (fa : Addr) (h : Heap), (K w.params).In h → h.Ns mainGlobals mg → mg d.name = some (.ref fa) →
      ∃ fd : FuncData, (∀ (s : Shared) (u : Value), BindsTo s fd ⟨[u], []⟩ [(x, u)]) ∧ ∀ base : Heap, (K w.params).In base → base.Ns mainGlobals mg → FnG l.prog w (K w.params) mg base k fa fd [x] (sp w))
    (hsp : ∀ (w : World) (H : Hp) (a : Addr) (ns : List Int), ns.length ≤ n → Only H → SqL (K w.params) H a (ns.map V.int) → sp w [.ref a] H (fun v _ => v = .bl true) fun _ _ _ => False) :
    PySem.W.WalkO q loose XP YP l.row.toRowW d [] (fun f vs => PySem.call f vs) := by
  refine Att.attach_call hn hdf fun w s₀ s₁ mg mb fa o pm cd doc a vs ns G Y ho hd hcd hmg hobj hints hlen hgen => ?_
  have kin := hY w _ Y
  obtain ⟨fd, hb, hF⟩ := F w mg fa _ kin G.T.g hmg
  exact law_callG kin G.T.g G.T.b G.T.builtins G.T.nolimit hgen hobj hints (Nat.le_trans hlen hn2) hr hF hb fun H ho hq => hsp w H a ns hlen ho hq
end VL

set_option Elab.async false
set_option linter.all false
set_option maxRecDepth 100000
set_option maxHeartbeats 4000000
namespace VL
open PySem PySem.Spec PyProof.Rows L2 PyProof.V

/-! ### repr of a dict of nested data, where nothing is being shown -/
def enK : Key → PyData
  | .inl i => .int i
  | .inr x => .str x
def zipK : List (Key × V) → List PyData → List (PyData × PyData)
  | p :: ks, d :: ds => (enK p.1, d) :: zipK ks ds
  | _, _ => []
theorem zipK_vals : ∀ {ks : List (Key × V)} {ds : List PyData}, ks.length = ds.length → (zipK ks ds).map (·.2) = ds
  | [], [], _ => rfl
  | p :: ks, d :: ds, h => by
    show d :: (zipK ks ds).map (·.2) = d :: ds
    rw [zipK_vals (Nat.succ.inj h)]
theorem dpAll_len {K : PySem.W.Frag} {H : Hp} : ∀ {vs : List V} {ds : List PyData}, DpAll K H vs ds → vs.length = ds.length
  | _, _, .nil => rfl
  | _, _, .cons _ h => by simp [dpAll_len h]
section
variable {X : Cx} {pins : List (Addr × Obj)} {σ : L2.St} {H : Hp} {s : Shared}
theorem enK_reads {h : Heap} {P : Program} {w : World} (k : Key) (key : Value) (e : (mixKind P w).is k key = true) : Reads h key (enK k) [] := by
  rcases keyIs_shape (show keyIs k key = true from e) with ⟨i, t, rfl, rfl⟩ | ⟨x, t, rfl, rfl⟩
  · exact Reads.int i t
  · exact Reads.str x t
theorem pairs_read (I : Inv X pins σ H s) : ∀ {ks : List (Key × V)} {vs : List (Key × Value)} {ds : List PyData}, KV ks vs → DpAll X.K H (ks.map (·.2)) ds → ∃ bs, PairsRead s.heap enK vs (zipK ks ds) bs
  | [], _, _, r, h => by
    cases r
    exact ⟨[], by unfold zipK; exact .nil⟩
  | p :: ks, _, _, r, h => by
    cases r with
    | @cons _ q _ qs h1 h2 =>
      cases h with
      | @cons _ _ d ds g1 g2 =>
        obtain ⟨k, v⟩ := q
        obtain ⟨kp, vp⟩ := p
        obtain ⟨rfl, rv⟩ := h1
        obtain ⟨as, r1⟩ := Dp.reads I d _ _ g1 rv
        obtain ⟨bs, r2⟩ := pairs_read I h2 g2
        exact ⟨as ++ bs, .cons r1 r2⟩
def rRepD (K : PySem.W.Frag) : List V → Hp → VK → Prop := fun xs H Q => ∃ (a : Addr) (ks : List (Key × V)) (ds : List PyData), xs = [.ref a] ∧ H a = some (.dK ks) ∧ DpAll K H (ks.map (·.2)) ds ∧ PyData.showableKv (zipK ks ds) = true ∧ PyData.hasDictAll ds = false ∧
  PyData.depthKv (zipK ks ds) ≤ 40 ∧ (dictText (PyData.shownKv (zipK ks ds))).length ≤ sizeLine ∧ Q (.str (dictText (PyData.shownKv (zipK ks ds)))) H
theorem call_repD (gd : X.A.guards = some []) (hu : X.A.units + 64 < cLine) : CallR X (.builtin "repr") (rRepD X.K) := by
  intro pins s σ H xs us Q I r h
  obtain ⟨a, ks, ds, rfl, ha, hd, sh, nd, dep, len, q⟩ := h
  obtain ⟨u, rfl, ru⟩ := vals1 r
  cases (show u = Value.ref a from ru)
  obtain ⟨_, hsys, vs, rk, dic⟩ := (show ObjOk X.prog X.w H s.heap a (.dK ks) from I.hok a _ ha)
  obtain ⟨bs, pr⟩ := pairs_read I rk hd
  have rd := reads_dictOf (fun k key e => enK_reads k key e) dic pr
  obtain ⟨o, es, ep, ho, hx, hdat, _, hp, _⟩ := dic
  obtain ⟨rk1, rk2⟩ := readsAll_of_pairs (fun k key e => enK_reads k key e) hp pr
  obtain ⟨sh1, sh2⟩ := PyData.showableKv_split _ sh
  have vv : (zipK ks ds).map (·.2) = ds := zipK_vals (by have := dpAll_len hd; rw [List.length_map] at this; exact this)
  obtain ⟨b1, hb1, k1⟩ := ReprAllK.of_readsAll (prog := X.prog) (w := X.w) rk1 sh1 (fun _ z => nomatch z) (fun t ht => let ⟨p, hp, hl⟩ := PyData.shownKv_key_le _ t ht; Nat.le_trans hl (Nat.le_trans (dictText_mem_le hp) len))
  obtain ⟨b2, hb2, k2⟩ := ReprAllK.of_readsAll (prog := X.prog) (w := X.w) rk2 sh2 (fun z => by rw [vv, nd] at z; exact nomatch z) (fun t ht => let ⟨p, hp, hl⟩ := PyData.shownKv_val_le _ t ht; Nat.le_trans hl (Nat.le_trans (dictText_mem_le hp) len))
  have rm : ReadAtMost s.heap (PyData.depthKv (zipK ks ds)) (b1 ++ b2) := (hb1.mono (PyData.depthAll_keys_le _)).append (hb2.mono (PyData.depthAll_vals_le _))
  have na : a ∉ b1 ++ b2 := not_mem_of_deeper rd (by simp only [PyData.depth]; omega) rm
  have EK := ReprEntriesK.of_two es.toList _ _ (k1.more_le (fun b z => List.mem_append_left b2 z) (PyData.depthAll_keys_le (zipK ks ds))) (k2.more_le (fun b z => List.mem_append_right b1 z) (PyData.depthAll_vals_le (zipK ks ds)))
  rw [← PyData.shownKv_eq] at EK
  refine call_repr_slot (T := "dict") (idr := "dict.__repr__") (by omega) ⟨o, ho, hx.1⟩ F.slot_dict_repr (call_dict_reprK (h₀ := s.heap) ho hx.1 hdat hsys na EK gd (fun b _ => Clear.nil b) (by show X.A.units + 1 + (PyData.depthKv (zipK ks ds) + 1) < cLine; omega) (fun _ _ e => e) (fun h2 u tk hk => ?_) len)
  exact ⟨_, _, rfl, .str _, H, I.kept hk, ⟨u, rfl⟩, q⟩
end
theorem strApp (x y : Str) : (x ++ y).length = x.length + y.length := strLen_append x y
theorem textFrom_le : ∀ (ts : List Str) (k : Nat) (acc : Str), (textFrom k acc ts).length ≤ acc.length + piled ts
  | [], k, acc => by show acc.length ≤ _; omega
  | t :: ts, k, acc => by
    have ih := textFrom_le ts (k + 1) (acc ++ (if k > 0 then ", " else "" : String) ++ t)
    have e : (acc ++ (if k > 0 then ", " else "" : String) ++ t).length ≤ acc.length + 2 + t.length := by
      rw [strApp, strApp]
      split
      · exact Nat.le_of_eq rfl
      · show acc.length + 0 + t.length ≤ _
        omega
    show (textFrom (k + 1) (acc ++ (if k > 0 then ", " else "" : String) ++ t) ts).length ≤ _
    have : piled (t :: ts) = t.length + 2 + piled ts := by simp [piled]
    omega
theorem listText_le (ts : List Str) : (listText ts).length ≤ 2 + piled ts := by
  have := textFrom_le ts 0 "["
  have e1 : (("[" : String) : Str).length = 1 := rfl
  have e2 : (("]" : String) : Str).length = 1 := rfl
  unfold listText
  rw [strApp, e2]
  omega
theorem dictText_le (ts : List Str) : (dictText ts).length ≤ 2 + piled ts := by
  have e1 : (("{" : String) : Str).length = 1 := rfl
  have e2 : (("}" : String) : Str).length = 1 := rfl
  unfold dictText
  rw [strApp, strApp, e1, e2]
  by_cases h : ts = []
  · subst h
    show 1 + 0 + 1 ≤ _
    omega
  · have := join_length_add ts h
    omega
theorem piled_le {c : Nat} : ∀ {ts : List Str}, (∀ t ∈ ts, t.length ≤ c) → piled ts ≤ ts.length * (c + 2)
  | [], _ => by simp [piled]
  | t :: ts, h => by
    have ih := piled_le (ts := ts) fun x hx => h x (List.mem_cons_of_mem _ hx)
    have := h t List.mem_cons_self
    have e : piled (t :: ts) = t.length + 2 + piled ts := by simp [piled]
    have e2 : (t :: ts).length * (c + 2) = ts.length * (c + 2) + (c + 2) := by rw [List.length_cons, Nat.succ_mul]
    omega
end VL

set_option Elab.async false
set_option linter.all false
set_option maxRecDepth 100000
set_option maxHeartbeats 4000000
namespace VL
open PySem PySem.Spec PyProof.Rows L2 PyProof.V

/-! ### nested data with dicts: what stands there; repr of it, where nothing is being shown -/
mutual
inductive Dq (H : Hp) : V → PyData → Prop
  | non : Dq H .non .none
  | bl (b : Bool) : Dq H (.bl b) (.bool b)
  | int (i : Int) : Dq H (.int i) (.int i)
  | str (x : Str) : Dq H (.str x) (.str x)
  | lst {a : Addr} {xs : List V} {ds : List PyData} : H a = some (.lst xs) → DqAll H xs ds → Dq H (.ref a) (.list ds)
  | tup {a : Addr} {xs : List V} {ds : List PyData} : H a = some (.tup xs) → DqAll H xs ds → Dq H (.ref a) (.tuple ds)
  | dic {a : Addr} {ks : List (Key × V)} {ds : List PyData} : H a = some (.dK ks) → (ks.map (·.1)).Nodup → DqAll H (ks.map (·.2)) ds → Dq H (.ref a) (.dict (zipK ks ds))
inductive DqAll (H : Hp) : List V → List PyData → Prop
  | nil : DqAll H [] []
  | cons {v : V} {vs : List V} {d : PyData} {ds : List PyData} : Dq H v d → DqAll H vs ds → DqAll H (v :: vs) (d :: ds)
end
theorem DqAll.len {H : Hp} : ∀ {vs : List V} {ds : List PyData}, DqAll H vs ds → vs.length = ds.length
  | _, _, .nil => rfl
  | _, _, .cons _ h => by simp [DqAll.len h]
theorem DqAll.of_each {H : Hp} {P : V → PyData → Prop} : ∀ {vs : List V} {ds : List PyData}, DqAll H vs ds → (∀ v d, Dq H v d → P v d) → Paired P vs ds
  | _, _, .nil, _ => .nil
  | _, _, .cons a b, f => .cons (f _ _ a) (DqAll.of_each b f)
theorem DqAll.paired {H : Hp} : ∀ {vs : List V} {ds : List PyData}, DqAll H vs ds → Paired (Dq H) vs ds
  | _, _, .nil => .nil
  | _, _, .cons a b => .cons a (DqAll.paired b)
theorem DqAll.of_paired {H : Hp} : ∀ {vs : List V} {ds : List PyData}, Paired (Dq H) vs ds → DqAll H vs ds
  | _, _, .nil => .nil
  | _, _, .cons a b => .cons a (DqAll.of_paired b)
theorem dKv_le : ∀ (ks : List (Key × V)) (ds : List PyData), ks.length = ds.length → PyData.depthAll ds ≤ PyData.depthKv (zipK ks ds)
  | [], [], _ => Nat.le_refl _
  | p :: ks, d :: ds, h => by
    have ih := dKv_le ks ds (Nat.succ.inj h)
    show max (PyData.depth d) (PyData.depthAll ds) ≤ max (max (PyData.depth (enK p.1)) (PyData.depth d)) (PyData.depthKv (zipK ks ds))
    omega
theorem dq_mono_n {H H' : Hp} (s : Same H H') : ∀ (n : Nat) (d : PyData) (v : V), PyData.depth d ≤ n → Dq H v d → Dq H' v d := by
  intro n
  induction n with
  | zero =>
    intro d v hn h
    cases h with
    | non => exact .non
    | bl b => exact .bl b
    | int i => exact .int i
    | str x => exact .str x
    | lst _ _ => exact absurd hn (by simp [PyData.depth])
    | tup _ _ => exact absurd hn (by simp [PyData.depth])
    | dic _ _ _ => exact absurd hn (by simp [PyData.depth])
  | succ n ih =>
    have all : ∀ {vs : List V} {ds : List PyData}, DqAll H vs ds → PyData.depthAll ds ≤ n → DqAll H' vs ds := by
      intro vs
      induction vs with
      | nil => intro ds h _; cases h; exact .nil
      | cons v vs iv =>
        intro ds h hd
        cases h with
        | @cons _ _ d ds a b =>
          have hd' : max (PyData.depth d) (PyData.depthAll ds) ≤ n := hd
          exact .cons (ih d v (by omega) a) (iv b (by omega))
    intro d v hn h
    cases h with
    | non => exact .non
    | bl b => exact .bl b
    | int i => exact .int i
    | str x => exact .str x
    | lst h1 h2 => exact .lst (s _ _ h1) (all h2 (by simp only [PyData.depth] at hn; omega))
    | tup h1 h2 => exact .tup (s _ _ h1) (all h2 (by simp only [PyData.depth] at hn; omega))
    | @dic a ks ds h1 nd h2 =>
      have := dKv_le ks ds (by have := h2.len; rwa [List.length_map] at this)
      exact .dic (s _ _ h1) nd (all h2 (by simp only [PyData.depth] at hn; omega))
theorem Dq.same {H H' : Hp} {v : V} {d : PyData} (h : Dq H v d) (s : Same H H') : Dq H' v d := dq_mono_n s _ d v (Nat.le_refl _) h
theorem DqAll.same {H H' : Hp} (s : Same H H') : ∀ {vs : List V} {ds : List PyData}, DqAll H vs ds → DqAll H' vs ds
  | _, _, .nil => .nil
  | _, _, .cons a b => .cons (a.same s) (DqAll.same s b)
section
variable {X : Cx} {pins : List (Addr × Obj)} {σ : L2.St} {H : Hp} {s : Shared}
/-- what repr asks of a value that reads as d -/
def RpOk (X : Cx) (s : Shared) (u : Value) (d : PyData) : Prop := ∃ as bs, Reads s.heap u d as ∧ ReadAtMost s.heap (PyData.depth d) bs ∧ ReprK X.prog X.w bs s.heap (PyData.depth d) u (PyData.shown d)
def RpAll (X : Cx) (s : Shared) (us : List Value) (ds : List PyData) : Prop := ∃ as bs, ReadsAll s.heap us ds as ∧ ReadAtMost s.heap (PyData.depthAll ds) bs ∧ ReprAllK X.prog X.w bs s.heap (PyData.depthAll ds) us (PyData.shownAll ds)
theorem rp_all {n : Nat} (ih : ∀ (d : PyData) (v : V) (u : Value), PyData.depth d ≤ n → Dq H v d → RelV v u → PyData.showable d = true → (PyData.shown d).length ≤ sizeLine → RpOk X s u d) :
    ∀ {vs : List V} {us : List Value} {ds : List PyData}, DqAll H vs ds → PyData.depthAll ds ≤ n → Vals vs us → PyData.showableAll ds = true → (∀ t ∈ PyData.shownAll ds, t.length ≤ sizeLine) → RpAll X s us ds
  | [], us, ds, h, _, r, _, _ => by
    cases h
    cases r
    exact ⟨[], [], .nil, (fun _ h => nomatch h), .nil⟩
  | v :: vs, us, ds, h, hd, r, hs, hz => by
    cases h with
    | @cons _ _ d ds a b =>
      cases r with
      | @cons _ u _ us r1 r2 =>
        have hd' : max (PyData.depth d) (PyData.depthAll ds) ≤ n := hd
        have hs' : PyData.showable d = true ∧ PyData.showableAll ds = true := by simpa [PyData.showableAll] using hs
        obtain ⟨as1, bs1, x1, y1, z1⟩ := ih d v u (by omega) a r1 hs'.1 (hz _ (by simp only [PyData.shownAll]; exact List.mem_cons_self))
        obtain ⟨as2, bs2, x2, y2, z2⟩ := rp_all ih b (by omega) r2 hs'.2 (fun t ht => hz t (by simp only [PyData.shownAll]; exact List.mem_cons_of_mem _ ht))
        refine ⟨as1 ++ as2, bs1 ++ bs2, .cons x1 x2, fun b hm => ?_, ?_⟩
        · show ∃ d' as', Reads s.heap (.ref b) d' as' ∧ PyData.depth d' ≤ max (PyData.depth d) (PyData.depthAll ds)
          rcases List.mem_append.mp hm with hm | hm
          · obtain ⟨d', as', r', hd'⟩ := y1 b hm
            exact ⟨d', as', r', by omega⟩
          · obtain ⟨d', as', r', hd'⟩ := y2 b hm
            exact ⟨d', as', r', by omega⟩
        · simp only [PyData.depthAll, PyData.shownAll]
          exact .cons ((z1.more fun b hb => List.mem_append_left bs2 hb).level_le (Nat.le_max_left _ _)) (z2.more_le (fun b hb => List.mem_append_right bs1 hb) (Nat.le_max_right _ _))
theorem pairs_vals {P : Program} {w : World} : ∀ {es : List DictEntry} {kvs : List (Key × Value)}, Pairs (mixKind P w) es kvs → es.map (·.val) = kvs.map (·.2)
  | _, _, .nil => rfl
  | _, _, .cons _ hv hp => by rw [List.map_cons, List.map_cons, hv, pairs_vals hp]
theorem pairs_keys {h : Heap} {P : Program} {w : World} : ∀ {es : List DictEntry} {vs : List (Key × Value)} {ks : List (Key × V)} {ds : List PyData}, Pairs (mixKind P w) es vs → KV ks vs → ks.length = ds.length → ReadsAll h (es.map (·.key)) ((zipK ks ds).map (·.1)) []
  | _, _, [], [], .nil, _, _ => .nil
  | _, _, p :: ks, d :: ds, .cons (kv := q) hk hv hp, r, hl => by
    cases r with
    | cons r1 r2 =>
      have hk' := hk
      rw [← r1.1] at hk'
      exact ReadsAll.cons (enK_reads _ _ hk') (pairs_keys hp r2 (Nat.succ.inj hl))
  | _, _, p :: ks, d :: ds, .nil, r, hl => by cases r
  | _, _, [], [], .cons _ _ _, r, _ => by cases r
  | _, _, [], d :: ds, _, _, hl => nomatch hl
  | _, _, p :: ks, [], _, _, hl => nomatch hl
theorem kv_vals : ∀ {ks : List (Key × V)} {vs : List (Key × Value)}, KV ks vs → Vals (ks.map (·.2)) (vs.map (·.2))
  | _, _, .nil => .nil
  | _, _, .cons r rs => .cons r.2 (kv_vals rs)
theorem dq_rp (I : Inv X pins σ H s) : ∀ (n : Nat) (d : PyData) (v : V) (u : Value), PyData.depth d ≤ n → Dq H v d → RelV v u → PyData.showable d = true → (PyData.shown d).length ≤ sizeLine → RpOk X s u d := by
  intro n
  induction n with
  | zero =>
    intro d v u hn h r hs hz
    cases h with
    | non => cases r; exact ⟨_, [], .none, (fun _ h => nomatch h), by simp only [PyData.shown]; exact .of_is ReprIs.none _ _ _⟩
    | bl b => cases r; exact ⟨_, [], .bool b, (fun _ h => nomatch h), by simp only [PyData.shown]; exact .of_is (ReprIs.bool b) _ _ _⟩
    | int i =>
      obtain ⟨t, rfl⟩ := r
      exact ⟨_, [], .int i t, (fun _ h => nomatch h), by simp only [PyData.shown]; exact .of_is (ReprIs.int t (by simpa [PyData.showable] using hs)) _ _ _⟩
    | str x =>
      obtain ⟨t, rfl⟩ := r
      exact ⟨_, [], .str x t, (fun _ h => nomatch h), by simp only [PyData.shown]; exact .of_is (ReprIs.str x t (by simpa only [PyData.shown] using hz)) _ _ _⟩
    | lst _ _ => exact absurd hn (by simp [PyData.depth])
    | tup _ _ => exact absurd hn (by simp [PyData.depth])
    | dic _ _ _ => exact absurd hn (by simp [PyData.depth])
  | succ n ih =>
    intro d v u hn h r hs hz
    cases h with
    | non => exact ih _ _ _ (Nat.zero_le _) .non r hs hz
    | bl b => exact ih _ _ _ (Nat.zero_le _) (.bl b) r hs hz
    | int i => exact ih _ _ _ (Nat.zero_le _) (.int i) r hs hz
    | str x => exact ih _ _ _ (Nat.zero_le _) (.str x) r hs hz
    | @lst a xs ds h1 h2 =>
      cases (show u = Value.ref a from r)
      obtain ⟨_, its, m, rv, ho⟩ := (show ObjOk X.prog X.w H s.heap a (.lst xs) from I.hok a _ h1)
      have zz : (listText (PyData.shownAll ds)).length ≤ sizeLine := by simpa only [PyData.shown] using hz
      obtain ⟨as, bs, ra, rm, rk⟩ := rp_all ih h2 (by simp only [PyData.depth] at hn; omega) rv (by simpa [PyData.showable] using hs) (fun t ht => Nat.le_trans (listText_mem_le ht) zz)
      have rd : Reads s.heap (.ref a) (.list ds) (a :: as) := .list ho rfl rfl ra
      have na : a ∉ bs := not_mem_of_deeper rd (by simp only [PyData.depth]; omega) rm
      refine ⟨_, a :: bs, rd, ReadAtMost.cons rd (by simp only [PyData.depth]; omega) rm, ?_⟩
      simp only [PyData.depth, PyData.shown]
      cases its with
      | nil =>
        cases ra
        simp only [PyData.shownAll, listText_nil]
        exact ReprK.listEmpty ho rfl rfl
      | cons x l => exact ReprK.list ho rfl rfl na (by simpa using rk.length_eq) (fun i y e => rk.item i y (by simpa using e))
    | @tup a xs ds h1 h2 =>
      cases (show u = Value.ref a from r)
      obtain ⟨_, its, rv, o, ho, oc, m, od⟩ := (show ObjOk X.prog X.w H s.heap a (.tup xs) from I.hok a _ h1)
      have zz : (tupleText (PyData.shownAll ds)).length ≤ sizeLine := by simpa only [PyData.shown] using hz
      obtain ⟨as, bs, ra, rm, rk⟩ := rp_all ih h2 (by simp only [PyData.depth] at hn; omega) rv (by simpa [PyData.showable] using hs) (fun t ht => Nat.le_trans (tupleText_mem_le ht) zz)
      have rd : Reads s.heap (.ref a) (.tuple ds) as := .tuple ho oc od ra
      have na : a ∉ bs := not_mem_of_deeper rd (by simp only [PyData.depth]; omega) rm
      refine ⟨_, a :: bs, rd, ReadAtMost.cons rd (by simp only [PyData.depth]; omega) rm, ?_⟩
      simp only [PyData.depth, PyData.shown]
      exact ReprK.tuple ho oc od na rk
    | @dic a ks ds h1 nd h2 =>
      cases (show u = Value.ref a from r)
      obtain ⟨_, hsys, vs, rkv, dof⟩ := (show ObjOk X.prog X.w H s.heap a (.dK ks) from I.hok a _ h1)
      have kl : ks.length = ds.length := by have := h2.len; rwa [List.length_map] at this
      have zz : (dictText (PyData.shownKv (zipK ks ds))).length ≤ sizeLine := by simpa only [PyData.shown] using hz
      obtain ⟨o, es, ep, ho, hx, hdat, _, hp, _⟩ := dof
      have vv : (zipK ks ds).map (·.2) = ds := zipK_vals kl
      obtain ⟨sh1, sh2⟩ := PyData.showableKv_split _ (show PyData.showableKv (zipK ks ds) = true by simpa [PyData.showable] using hs)
      rw [vv] at sh2
      have rk1 : ReadsAll s.heap (es.toList.map (·.key)) ((zipK ks ds).map (·.1)) [] := pairs_keys hp rkv kl
      have dle := dKv_le ks ds kl
      obtain ⟨as2, b2, ra2, hb2, k2⟩ := rp_all ih h2 (by simp only [PyData.depth] at hn; omega) (kv_vals rkv) sh2 (fun t ht => by
        rw [← vv] at ht
        obtain ⟨p, hp, hl⟩ := PyData.shownKv_val_le _ t ht
        exact Nat.le_trans hl (Nat.le_trans (dictText_mem_le hp) zz))
      obtain ⟨b1, hb1, k1⟩ := ReprAllK.of_readsAll (prog := X.prog) (w := X.w) rk1 sh1 (fun _ z => nomatch z) (fun t ht => let ⟨p, hp, hl⟩ := PyData.shownKv_key_le _ t ht; Nat.le_trans hl (Nat.le_trans (dictText_mem_le hp) zz))
      have ev : es.toList.map (·.val) = vs.map (·.2) := pairs_vals hp
      rw [← ev] at ra2 k2
      have ra2' : ReadsAll s.heap (es.toList.map (·.val)) ((zipK ks ds).map (·.2)) as2 := by rw [vv]; exact ra2
      have rd : Reads s.heap (.ref a) (.dict (zipK ks ds)) (a :: [] ++ as2) := .dict ho hx.1 hdat rk1 ra2'
      have rm : ReadAtMost s.heap (PyData.depthKv (zipK ks ds)) (b1 ++ b2) := (hb1.mono (PyData.depthAll_keys_le _)).append (hb2.mono dle)
      have na : a ∉ b1 ++ b2 := not_mem_of_deeper rd (by simp only [PyData.depth]; omega) rm
      refine ⟨_, a :: (b1 ++ b2), rd, ReadAtMost.cons rd (by simp only [PyData.depth]; omega) rm, ?_⟩
      have EK := ReprEntriesK.of_two es.toList _ _ (k1.more_le (fun b z => List.mem_append_left b2 z) (PyData.depthAll_keys_le (zipK ks ds))) (k2.more_le (fun b z => List.mem_append_right b1 z) dle)
      rw [show PyData.shownAll ds = PyData.shownAll ((zipK ks ds).map (·.2)) by rw [vv], ← PyData.shownKv_eq] at EK
      simp only [PyData.depth, PyData.shown]
      exact ReprK.dict ho hx.1 hdat hsys na EK
theorem rp_list (I : Inv X pins σ H s) {vs : List V} {us : List Value} {ds : List PyData} (h : DqAll H vs ds) (r : Vals vs us) (hs : PyData.showableAll ds = true) (hz : ∀ t ∈ PyData.shownAll ds, t.length ≤ sizeLine) : RpAll X s us ds :=
  rp_all (fun d v u hn => dq_rp I _ d v u hn) h (Nat.le_refl _) r hs hz
def rRepQ : List V → Hp → VK → Prop := fun xs H Q => ∃ (a : Addr) (d : PyData), xs = [.ref a] ∧ Dq H (.ref a) d ∧ PyData.showable d = true ∧ PyData.depth d ≤ 40 ∧ (PyData.shown d).length ≤ sizeLine ∧ Q (.str (PyData.shown d)) H
theorem call_repQ (gd : X.A.guards = some []) (hu : X.A.units + 64 < cLine) : CallR X (.builtin "repr") rRepQ := by
  intro pins s σ H xs us Q I r h
  obtain ⟨a, d, rfl, hd, hs, dep, hz, q⟩ := h
  obtain ⟨u, rfl, ru⟩ := vals1 r
  cases (show u = Value.ref a from ru)
  have fin : ∀ (h' : Heap) (v : Tok) (tk : Nat), (∀ b o, s.heap.get? b = some o → h'.get? b = some o) → EP X pins σ Q (.str (PyData.shown d) v) { s with heap := h', toks := tk } := fun h' v tk hk => ⟨.str _, H, I.kept hk, ⟨v, rfl⟩, q⟩
  cases hd with
  | @lst _ xs ds h1 h2 =>
    obtain ⟨_, its, m, rv, ho⟩ := (show ObjOk X.prog X.w H s.heap a (.lst xs) from I.hok a _ h1)
    have zz : (listText (PyData.shownAll ds)).length ≤ sizeLine := by simpa only [PyData.shown] using hz
    obtain ⟨as, bs, ra, rm, rk⟩ := rp_list I h2 rv (by simpa [PyData.showable] using hs) (fun t ht => Nat.le_trans (listText_mem_le ht) zz)
    have rd : Reads s.heap (.ref a) (.list ds) (a :: as) := .list ho rfl rfl ra
    have na : a ∉ bs := not_mem_of_deeper rd (by simp only [PyData.depth]; omega) rm
    simp only [PyData.depth] at dep
    simp only [PyData.shown] at fin
    cases its with
    | nil =>
      cases ra
      simp only [PyData.shownAll, listText_nil] at fin
      exact call_repr_slot (T := "list") (by omega) ⟨_, ho, rfl⟩ F.slot_list_repr.toG (call_list_repr_empty ⟨_, ho, rfl⟩ ho rfl ⟨_, _, rfl, fin s.heap _ _ fun _ _ e => e⟩)
    | cons x l =>
      exact call_repr_slot (T := "list") (by omega) ⟨_, ho, rfl⟩ F.slot_list_repr.toG (call_list_reprK (h₀ := s.heap) ho rfl rfl na (by simpa using rk.length_eq) (fun i y e => rk.item i y (by simpa using e)) gd (fun b _ => Clear.nil b) (by show X.A.units + 1 + _ < cLine; omega) (fun _ _ e => e) (fun h' v tk hk => ⟨_, _, rfl, fin h' v tk hk⟩) zz)
  | @tup _ xs ds h1 h2 =>
    obtain ⟨_, its, rv, o, ho, oc, m, od⟩ := (show ObjOk X.prog X.w H s.heap a (.tup xs) from I.hok a _ h1)
    have zz : (tupleText (PyData.shownAll ds)).length ≤ sizeLine := by simpa only [PyData.shown] using hz
    obtain ⟨as, bs, ra, rm, rk⟩ := rp_list I h2 rv (by simpa [PyData.showable] using hs) (fun t ht => Nat.le_trans (tupleText_mem_le ht) zz)
    have rd : Reads s.heap (.ref a) (.tuple ds) as := .tuple ho oc od ra
    have na : a ∉ bs := not_mem_of_deeper rd (by simp only [PyData.depth]; omega) rm
    simp only [PyData.depth] at dep
    simp only [PyData.shown] at fin
    exact call_repr_slot (T := "tuple") (by omega) ⟨_, ho, oc⟩ F.slot_tuple_repr (call_tuple_reprK (h₀ := s.heap) ho oc od na rk gd (fun b _ => Clear.nil b) (by show X.A.units + 1 + _ < cLine; omega) (fun _ _ e => e) (fun h' v tk hk => ⟨_, _, rfl, fin h' v tk hk⟩) zz)
  | @dic _ ks ds h1 nd h2 =>
    obtain ⟨_, hsys, vs, rkv, dof⟩ := (show ObjOk X.prog X.w H s.heap a (.dK ks) from I.hok a _ h1)
    have kl : ks.length = ds.length := by have := h2.len; rwa [List.length_map] at this
    have zz : (dictText (PyData.shownKv (zipK ks ds))).length ≤ sizeLine := by simpa only [PyData.shown] using hz
    obtain ⟨o, es, ep, ho, hx, hdat, _, hp, _⟩ := dof
    have vv : (zipK ks ds).map (·.2) = ds := zipK_vals kl
    obtain ⟨sh1, sh2⟩ := PyData.showableKv_split _ (show PyData.showableKv (zipK ks ds) = true by simpa [PyData.showable] using hs)
    rw [vv] at sh2
    have rk1 : ReadsAll s.heap (es.toList.map (·.key)) ((zipK ks ds).map (·.1)) [] := pairs_keys hp rkv kl
    have dle := dKv_le ks ds kl
    obtain ⟨as2, b2, ra2, hb2, k2⟩ := rp_list I h2 (kv_vals rkv) sh2 (fun t ht => by
      rw [← vv] at ht
      obtain ⟨p, hp, hl⟩ := PyData.shownKv_val_le _ t ht
      exact Nat.le_trans hl (Nat.le_trans (dictText_mem_le hp) zz))
    obtain ⟨b1, hb1, k1⟩ := ReprAllK.of_readsAll (prog := X.prog) (w := X.w) rk1 sh1 (fun _ z => nomatch z) (fun t ht => let ⟨p, hp, hl⟩ := PyData.shownKv_key_le _ t ht; Nat.le_trans hl (Nat.le_trans (dictText_mem_le hp) zz))
    have ev : es.toList.map (·.val) = vs.map (·.2) := pairs_vals hp
    rw [← ev] at ra2 k2
    have ra2' : ReadsAll s.heap (es.toList.map (·.val)) ((zipK ks ds).map (·.2)) as2 := by rw [vv]; exact ra2
    have rd : Reads s.heap (.ref a) (.dict (zipK ks ds)) (a :: [] ++ as2) := .dict ho hx.1 hdat rk1 ra2'
    have rm : ReadAtMost s.heap (PyData.depthKv (zipK ks ds)) (b1 ++ b2) := (hb1.mono (PyData.depthAll_keys_le _)).append (hb2.mono dle)
    have na : a ∉ b1 ++ b2 := not_mem_of_deeper rd (by simp only [PyData.depth]; omega) rm
    have EK := ReprEntriesK.of_two es.toList _ _ (k1.more_le (fun b z => List.mem_append_left b2 z) (PyData.depthAll_keys_le (zipK ks ds))) (k2.more_le (fun b z => List.mem_append_right b1 z) dle)
    rw [show PyData.shownAll ds = PyData.shownAll ((zipK ks ds).map (·.2)) by rw [vv], ← PyData.shownKv_eq] at EK
    simp only [PyData.depth] at dep
    simp only [PyData.shown] at fin
    exact call_repr_slot (T := "dict") (idr := "dict.__repr__") (by omega) ⟨o, ho, hx.1⟩ F.slot_dict_repr (call_dict_reprK (h₀ := s.heap) ho hx.1 hdat hsys na EK gd (fun b _ => Clear.nil b) (by show X.A.units + 1 + _ < cLine; omega) (fun _ _ e => e) (fun h' v tk hk => ⟨_, _, rfl, fin h' v tk hk⟩) zz)
end
end VL

set_option Elab.async false
set_option linter.all false
set_option maxRecDepth 100000
set_option maxHeartbeats 4000000
namespace VL
open PySem PySem.Spec PyProof.Rows L2
/-! ### dict comprehensions over any walk; dicts read while locked -/
theorem dc_itQ {J : It} {n : Nat} {G : Hp → Prop} {Y : Nat → Hp → V → Hp → Prop} (w : Walk J n G Y) {g : TG} {tt : TT} {tk tv : TE} {vs : List Nat} {σ : L2.St} {H1 : Hp} {D : Addr} {Qd : Hp → Prop} (Pv : Nat → Hp → Prop) (h0 : Pv 0 (upd H1 D (.dK []))) (hG : ∀ i H, i ≤ n → Pv i H → G H)
    (hs : ∀ i x H H', i < n → Pv i H → Y i H x H' → g x (wipe σ vs) H' fun σ2 H2 => wipe σ2 vs = wipe σ vs ∧ tt σ2 H2 fun b H3 =>
      if b = true then tk σ2 H3 fun y H4 => tv σ2 H4 fun z H5 => ∃ kvs k, y = kV k ∧ H5 D = some (.dK kvs) ∧ kvs.length < sizeLine ∧ Pv (i + 1) (upd H5 D (.dK (putK kvs k z))) else Pv (i + 1) H3) (hd : ∀ H, Pv n H → Qd H) :
    ∃ W : Nat → Nat → Hp → Prop, (∃ m, W 0 m (upd H1 D (.dK []))) ∧ ∀ i m H, W i m H →
      (J.stop i H ∧ Qd H) ∨ (J.go i H ∧ ∃ Nx : Hp → Prop, (∀ H', Nx H' → ∃ m', m' < m ∧ W (i + 1) m' H') ∧ ∀ x H', J.yld i H x H' → g x (wipe σ vs) H' fun σ2 H2 => wipe σ2 vs = wipe σ vs ∧ tt σ2 H2 fun b H3 =>
        if b = true then tk σ2 H3 fun y H4 => tv σ2 H4 fun z H5 => ∃ kvs k, y = kV k ∧ H5 D = some (.dK kvs) ∧ kvs.length < sizeLine ∧ Nx (upd H5 D (.dK (putK kvs k z))) else Nx H3) := by
  refine ⟨fun i m H => m = n - i ∧ i ≤ n ∧ Pv i H, ⟨n, by simp, Nat.zero_le _, h0⟩, ?_⟩
  rintro i m H ⟨rfl, hi, p⟩
  have q := hG i H hi p
  by_cases hlt : i < n
  · refine .inr ⟨w.goes i H hlt q, Pv (i + 1), fun H' p' => ⟨n - (i + 1), by omega, rfl, hlt, p'⟩, fun x H' y => hs i x H H' hlt p (w.yields i H x H' hlt q y)⟩
  · have e : i = n := by omega
    subst e
    exact .inl ⟨w.stops H q, hd H p⟩
theorem dget_fz {H : Hp} {a : Addr} {o : Obj} {kvs : List (Key × V)} {k : Key} (e : H a = some (.frz o (.dK kvs))) : DGet H a (kV k) (valV kvs k) := .inl ⟨kvs, k, .inr ⟨o, e⟩, rfl, rfl⟩
theorem putK_nw {ks : List (Key × V)} {k : Key} {v : V} (h : valV ks k = none) : putK ks k v = ks ++ [(k, v)] := by
  unfold putK
  rw [valV_any, h]
  rfl
theorem valV_out {ks : List (Key × V)} {k : Key} (h : k ∉ ks.map (·.1)) : valV ks k = none := by
  induction ks with
  | nil => rfl
  | cons p ks ih =>
    rw [valV_neg (fun z => h (by rw [List.map_cons, ← z]; exact List.mem_cons_self))]
    exact ih fun z => h (List.mem_cons_of_mem _ z)
theorem valV_nd : ∀ {ks : List (Key × V)} {i : Nat} {k : Key} {v : V}, (ks.map (·.1)).Nodup → ks[i]? = some (k, v) → valV ks k = some v
  | [], _, _, _, _, h => by simp at h
  | p :: ks, 0, k, v, nd, h => by
    simp at h
    subst h
    exact valV_pos rfl
  | p :: ks, i + 1, k, v, nd, h => by
    simp at h
    rw [List.map_cons, List.nodup_cons] at nd
    have hm : k ∈ ks.map (·.1) := List.mem_map.mpr ⟨_, List.mem_of_getElem? h, rfl⟩
    rw [valV_neg (fun z => nd.1 (by rw [z]; exact hm))]
    exact valV_nd nd.2 h
theorem zipK_keys : ∀ {ks ls : List (Key × V)} {ds : List PyData}, ks.map (·.1) = ls.map (·.1) → zipK ks ds = zipK ls ds
  | [], [], _, _ => by unfold zipK; rfl
  | p :: ks, q :: ls, [], h => by unfold zipK; rfl
  | p :: ks, q :: ls, d :: ds, h => by
    rw [List.map_cons, List.map_cons] at h
    injection h with h1 h2
    show (enK p.1, d) :: zipK ks ds = (enK q.1, d) :: zipK ls ds
    rw [h1, zipK_keys h2]
  | [], q :: ls, _, h => nomatch h
  | p :: ks, [], _, h => nomatch h
theorem zipK_app : ∀ {ks ls : List (Key × V)} {ds es : List PyData}, ks.length = ds.length → zipK (ks ++ ls) (ds ++ es) = zipK ks ds ++ zipK ls es
  | [], ls, [], es, _ => rfl
  | p :: ks, ls, d :: ds, es, h => by
    show (enK p.1, d) :: zipK (ks ++ ls) (ds ++ es) = (enK p.1, d) :: zipK ks ds ++ zipK ls es
    rw [zipK_app (Nat.succ.inj h)]
    rfl
theorem enK_inj {a b : Key} (h : enK a = enK b) : a = b := by
  cases a with
  | inl i => cases b with
    | inl j => injection h with h; rw [h]
    | inr y => exact nomatch h
  | inr x => cases b with
    | inl j => exact nomatch h
    | inr y => injection h with h; rw [h]
/-! ### what stands there is one thing -/
theorem dq_det_n {H : Hp} : ∀ (n : Nat) (d d' : PyData) (v : V), PyData.depth d ≤ n → Dq H v d → Dq H v d' → d = d' := by
  intro n
  induction n with
  | zero =>
    intro d d' v hn h h'
    cases h with
    | non => cases h'; rfl
    | bl b => cases h'; rfl
    | int i => cases h'; rfl
    | str x => cases h'; rfl
    | lst _ _ => exact absurd hn (by simp [PyData.depth])
    | tup _ _ => exact absurd hn (by simp [PyData.depth])
    | dic _ _ _ => exact absurd hn (by simp [PyData.depth])
  | succ n ih =>
    have all : ∀ {vs : List V} {ds es : List PyData}, DqAll H vs ds → DqAll H vs es → PyData.depthAll ds ≤ n → ds = es := by
      intro vs
      induction vs with
      | nil => intro ds es h h' _; cases h; cases h'; rfl
      | cons v vs iv =>
        intro ds es h h' hd
        cases h with
        | @cons _ _ d ds a b =>
          cases h' with
          | @cons _ _ e es a' b' =>
            have hd' : max (PyData.depth d) (PyData.depthAll ds) ≤ n := hd
            rw [ih d e v (by omega) a a', iv b b' (by omega)]
    intro d d' v hn h h'
    cases h with
    | non => cases h'; rfl
    | bl b => cases h'; rfl
    | int i => cases h'; rfl
    | str x => cases h'; rfl
    | lst h1 h2 =>
      simp only [PyData.depth] at hn
      cases h' with
      | lst g1 g2 => rw [h1] at g1; cases g1; rw [all h2 g2 (by omega)]
      | tup g1 g2 => rw [h1] at g1; cases g1
      | dic g1 _ g2 => rw [h1] at g1; cases g1
    | tup h1 h2 =>
      simp only [PyData.depth] at hn
      cases h' with
      | lst g1 g2 => rw [h1] at g1; cases g1
      | tup g1 g2 => rw [h1] at g1; cases g1; rw [all h2 g2 (by omega)]
      | dic g1 _ g2 => rw [h1] at g1; cases g1
    | @dic a ks ds h1 nd h2 =>
      have := dKv_le ks ds (by have := h2.len; rwa [List.length_map] at this)
      simp only [PyData.depth] at hn
      cases h' with
      | lst g1 g2 => rw [h1] at g1; cases g1
      | tup g1 g2 => rw [h1] at g1; cases g1
      | dic g1 _ g2 => rw [h1] at g1; cases g1; rw [all h2 g2 (by omega)]
theorem Dq.det {H : Hp} {v : V} {d d' : PyData} (h : Dq H v d) (h' : Dq H v d') : d = d' := dq_det_n _ d d' v (Nat.le_refl _) h h'
/-- a store at what is deeper changes nothing -/
theorem dq_upd_n {H : Hp} {a : Addr} {da : PyData} {o : HO} (ha : Dq H (.ref a) da) : ∀ (n : Nat) (d : PyData) (v : V), PyData.depth d ≤ n → PyData.depth d < PyData.depth da → Dq H v d → Dq (upd H a o) v d := by
  intro n
  induction n with
  | zero =>
    intro d v hn _ h
    cases h with
    | non => exact .non
    | bl b => exact .bl b
    | int i => exact .int i
    | str x => exact .str x
    | lst _ _ => exact absurd hn (by simp [PyData.depth])
    | tup _ _ => exact absurd hn (by simp [PyData.depth])
    | dic _ _ _ => exact absurd hn (by simp [PyData.depth])
  | succ n ih =>
    have all : ∀ {vs : List V} {ds : List PyData}, DqAll H vs ds → PyData.depthAll ds ≤ n → PyData.depthAll ds < PyData.depth da → DqAll (upd H a o) vs ds := by
      intro vs
      induction vs with
      | nil => intro ds h _ _; cases h; exact .nil
      | cons v vs iv =>
        intro ds h hd hl
        cases h with
        | @cons _ _ d ds b c =>
          have hd' : max (PyData.depth d) (PyData.depthAll ds) ≤ n := hd
          have hl' : max (PyData.depth d) (PyData.depthAll ds) < PyData.depth da := hl
          exact .cons (ih d v (by omega) (by omega) b) (iv c (by omega) (by omega))
    intro d v hn hl h
    have ne : ∀ b : Addr, v = .ref b → b ≠ a := fun b e z => by
      subst e
      subst z
      rw [h.det ha] at hl
      exact Nat.lt_irrefl _ hl
    cases h with
    | non => exact .non
    | bl b => exact .bl b
    | int i => exact .int i
    | str x => exact .str x
    | lst h1 h2 =>
      simp only [PyData.depth] at hn hl
      exact .lst (by rw [upd_ne (ne _ rfl)]; exact h1) (all h2 (by omega) (by omega))
    | tup h1 h2 =>
      simp only [PyData.depth] at hn hl
      exact .tup (by rw [upd_ne (ne _ rfl)]; exact h1) (all h2 (by omega) (by omega))
    | @dic b ks ds h1 nd h2 =>
      have := dKv_le ks ds (by have := h2.len; rwa [List.length_map] at this)
      simp only [PyData.depth] at hn hl
      exact .dic (by rw [upd_ne (ne _ rfl)]; exact h1) nd (all h2 (by omega) (by omega))
theorem Dq.upd {H : Hp} {a : Addr} {da d : PyData} {v : V} {o : HO} (h : Dq H v d) (ha : Dq H (.ref a) da) (hl : PyData.depth d < PyData.depth da) : Dq (upd H a o) v d := dq_upd_n ha _ d v (Nat.le_refl _) hl h
theorem mem_depth {d : PyData} : ∀ {ds : List PyData}, d ∈ ds → PyData.depth d ≤ PyData.depthAll ds
  | e :: ds, h => by
    show _ ≤ max (PyData.depth e) (PyData.depthAll ds)
    rcases List.mem_cons.mp h with rfl | h
    · omega
    · have := mem_depth h
      omega
/-! ### reading a dict's data -/
def keyB : PyData → Key → Bool
  | .int i, .inl j => decide (i = j)
  | .str x, .inr y => decide (x = y)
  | _, _ => false
theorem keyB_en (a b : Key) : keyB (enK a) b = decide (a = b) := by
  cases a with
  | inl i => cases b with
    | inl j => show decide (i = j) = decide (Sum.inl i = Sum.inl j); by_cases e : i = j <;> simp [e]
    | inr y => show false = decide (Sum.inl i = Sum.inr y); simp
  | inr x => cases b with
    | inl j => show false = decide (Sum.inr x = Sum.inl j); simp
    | inr y => show decide (x = y) = decide (Sum.inr x = Sum.inr y); by_cases e : x = y <;> simp [e]
def lkp : List (PyData × PyData) → Key → Option PyData
  | [], _ => none
  | p :: r, k => if keyB p.1 k = true then some p.2 else lkp r k
theorem lkp_at {H : Hp} {k : Key} : ∀ {ks : List (Key × V)} {ds : List PyData}, DqAll H (ks.map (·.2)) ds → (lkp (zipK ks ds) k = none ∧ valV ks k = none) ∨ ∃ d v, lkp (zipK ks ds) k = some d ∧ valV ks k = some v ∧ Dq H v d
  | [], ds, h => by
    cases h
    exact .inl ⟨rfl, rfl⟩
  | p :: ks, _, .cons (d := d) (ds := ds) a b => by
    have e : lkp (zipK (p :: ks) (d :: ds)) k = if keyB (enK p.1) k = true then some d else lkp (zipK ks ds) k := rfl
    rw [e, keyB_en]
    by_cases q : p.1 = k
    · rw [if_pos (decide_eq_true q), valV_pos q]
      exact .inr ⟨d, p.2, rfl, rfl, a⟩
    · rw [if_neg (by simp [q]), valV_neg q]
      exact lkp_at b
theorem dq_dict {H : Hp} {v : V} {kvs : List (PyData × PyData)} (h : Dq H v (.dict kvs)) : ∃ a ks, v = .ref a ∧ H a = some (.dK ks) ∧ (ks.map (·.1)).Nodup ∧ ks.length = kvs.length ∧
    ∀ k, (lkp kvs k = none ∧ valV ks k = none) ∨ ∃ d v, lkp kvs k = some d ∧ valV ks k = some v ∧ Dq H v d := by
  cases h with
  | @dic a ks ds h1 nd h2 =>
    refine ⟨a, ks, rfl, h1, nd, ?_, fun k => lkp_at h2⟩
    have e : ks.length = ds.length := by have := h2.len; rwa [List.length_map] at this
    have : ((zipK ks ds).map (·.2)).length = ds.length := by rw [zipK_vals e]
    rw [List.length_map] at this
    omega
theorem dq_list {H : Hp} {v : V} {ds : List PyData} (h : Dq H v (.list ds)) : ∃ a xs, v = .ref a ∧ H a = some (.lst xs) ∧ DqAll H xs ds := by
  cases h with
  | @lst a xs _ h1 h2 => exact ⟨a, xs, rfl, h1, h2⟩
theorem dq_tup {H : Hp} {v : V} {ds : List PyData} (h : Dq H v (.tuple ds)) : ∃ a xs, v = .ref a ∧ H a = some (.tup xs) ∧ DqAll H xs ds := by
  cases h with
  | @tup a xs _ h1 h2 => exact ⟨a, xs, rfl, h1, h2⟩
theorem dqAll_at {H : Hp} : ∀ {vs : List V} {ds : List PyData}, DqAll H vs ds → ∀ {i : Nat} {d : PyData}, ds[i]? = some d → ∃ v, vs[i]? = some v ∧ Dq H v d
  | _, _, .nil, i, d, h => by simp at h
  | _, _, .cons a b, 0, d, h => by
    simp at h
    subst h
    exact ⟨_, rfl, a⟩
  | _, _, .cons a b, i + 1, d, h => by
    simp at h
    obtain ⟨v, h1, h2⟩ := dqAll_at b h
    exact ⟨v, by simpa using h1, h2⟩
theorem dqAll_ap {H : Hp} : ∀ {vs ws : List V} {ds es : List PyData}, DqAll H vs ds → DqAll H ws es → DqAll H (vs ++ ws) (ds ++ es)
  | _, _, _, _, .nil, q => q
  | _, _, _, _, .cons a b, q => .cons a (dqAll_ap b q)
/-! ### small data -/
structure Small (c k : Nat) (d : PyData) : Prop where
  sh : PyData.showable d = true
  dp : PyData.depth d ≤ k
  ln : (PyData.shown d).length ≤ c
theorem Small.mono {c k c' k' : Nat} {d : PyData} (h : Small c k d) (h1 : c ≤ c') (h2 : k ≤ k') : Small c' k' d := ⟨h.sh, Nat.le_trans h.dp h2, Nat.le_trans h.ln h1⟩
theorem tupText_le (ts : List Str) : (tupleText ts).length ≤ 3 + piled ts := by
  have e1 : ((("(" : String) : Str)).length = 1 := rfl
  have e3 : (((if ts.length == 1 then ",)" else ")" : String) : Str)).length ≤ 2 := by split <;> decide
  unfold tupleText
  rw [strApp, strApp, e1]
  by_cases h : ts = []
  · subst h
    have : (Str.join ", " ([] : List Str)).length = 0 := rfl
    omega
  · have := join_length_add ts h
    omega
theorem shAll_mem : ∀ {ds : List PyData}, (∀ d ∈ ds, PyData.showable d = true) → PyData.showableAll ds = true
  | [], _ => rfl
  | d :: ds, h => by
    show (PyData.showable d && PyData.showableAll ds) = true
    rw [h d List.mem_cons_self, shAll_mem fun x hx => h x (List.mem_cons_of_mem _ hx)]
    rfl
theorem dpAll_mem {k : Nat} : ∀ {ds : List PyData}, (∀ d ∈ ds, PyData.depth d ≤ k) → PyData.depthAll ds ≤ k
  | [], _ => Nat.zero_le _
  | d :: ds, h => by
    show max (PyData.depth d) (PyData.depthAll ds) ≤ k
    have := h d List.mem_cons_self
    have := dpAll_mem fun x hx => h x (List.mem_cons_of_mem _ hx)
    omega
theorem shownAll_len : ∀ ds : List PyData, (PyData.shownAll ds).length = ds.length
  | [] => rfl
  | d :: ds => by
    show (PyData.shownAll ds).length + 1 = _
    rw [shownAll_len ds]
    rfl
theorem shownAll_mem : ∀ {ds : List PyData} {t : Str}, t ∈ PyData.shownAll ds → ∃ d ∈ ds, t = PyData.shown d
  | d :: ds, t, h => by
    rcases List.mem_cons.mp (show t ∈ PyData.shown d :: PyData.shownAll ds from h) with rfl | h
    · exact ⟨d, List.mem_cons_self, rfl⟩
    · obtain ⟨e, h1, h2⟩ := shownAll_mem h
      exact ⟨e, List.mem_cons_of_mem _ h1, h2⟩
theorem piledAll {c k : Nat} {ds : List PyData} (h : ∀ d ∈ ds, Small c k d) : piled (PyData.shownAll ds) ≤ ds.length * (c + 2) := by
  have := piled_le (c := c) (ts := PyData.shownAll ds) fun t ht => by
    obtain ⟨d, hd, rfl⟩ := shownAll_mem ht
    exact (h d hd).ln
  rwa [shownAll_len] at this
theorem small_list {c k n : Nat} {ds : List PyData} (h : ∀ d ∈ ds, Small c k d) (hl : ds.length ≤ n) : Small (2 + n * (c + 2)) (k + 1) (.list ds) := by
  refine ⟨?_, ?_, ?_⟩
  · show PyData.showableAll ds = true
    exact shAll_mem fun d hd => (h d hd).sh
  · show PyData.depthAll ds + 1 ≤ k + 1
    have := dpAll_mem fun d hd => (h d hd).dp
    omega
  · show (listText (PyData.shownAll ds)).length ≤ _
    have h1 := listText_le (PyData.shownAll ds)
    have h2 := piledAll h
    have h3 := Nat.mul_le_mul_right (c + 2) hl
    omega
theorem small_tup {c k n : Nat} {ds : List PyData} (h : ∀ d ∈ ds, Small c k d) (hl : ds.length ≤ n) : Small (3 + n * (c + 2)) (k + 1) (.tuple ds) := by
  refine ⟨?_, ?_, ?_⟩
  · show PyData.showableAll ds = true
    exact shAll_mem fun d hd => (h d hd).sh
  · show PyData.depthAll ds + 1 ≤ k + 1
    have := dpAll_mem fun d hd => (h d hd).dp
    omega
  · show (tupleText (PyData.shownAll ds)).length ≤ _
    have h1 := tupText_le (PyData.shownAll ds)
    have h2 := piledAll h
    have h3 := Nat.mul_le_mul_right (c + 2) hl
    omega
theorem small_dict {c k n : Nat} {kvs : List (PyData × PyData)} (h : ∀ p ∈ kvs, Small c k p.1 ∧ Small c k p.2) (hl : kvs.length ≤ n) : Small (2 + n * (2 * c + 4)) (k + 1) (.dict kvs) := by
  have sh : ∀ L : List (PyData × PyData), (∀ p ∈ L, Small c k p.1 ∧ Small c k p.2) → PyData.showableKv L = true ∧ PyData.depthKv L ≤ k ∧ piled (PyData.shownKv L) ≤ L.length * (2 * c + 4) := by
    intro L
    induction L with
    | nil => exact fun _ => ⟨rfl, Nat.zero_le _, by simp [PyData.shownKv, piled]⟩
    | cons p L ih =>
      intro hp
      obtain ⟨i1, i2, i3⟩ := ih fun x hx => hp x (List.mem_cons_of_mem _ hx)
      obtain ⟨a, b⟩ := hp p List.mem_cons_self
      refine ⟨?_, ?_, ?_⟩
      · show (PyData.showable p.1 && PyData.showable p.2 && PyData.showableKv L) = true
        rw [a.sh, b.sh, i1]
        rfl
      · show max (max (PyData.depth p.1) (PyData.depth p.2)) (PyData.depthKv L) ≤ k
        have := a.dp
        have := b.dp
        omega
      · have e : PyData.shownKv (p :: L) = (PyData.shown p.1 ++ (": " : Str) ++ PyData.shown p.2) :: PyData.shownKv L := rfl
        have e2 : piled (PyData.shownKv (p :: L)) = (PyData.shown p.1 ++ (": " : Str) ++ PyData.shown p.2).length + 2 + piled (PyData.shownKv L) := by rw [e]; simp [piled]
        have e3 : ((": " : String) : Str).length = 2 := rfl
        have := a.ln
        have := b.ln
        have e4 : (p :: L).length * (2 * c + 4) = L.length * (2 * c + 4) + (2 * c + 4) := by rw [List.length_cons, Nat.succ_mul]
        rw [e2, strApp, strApp]
        omega
  obtain ⟨i1, i2, i3⟩ := sh kvs h
  refine ⟨i1, ?_, ?_⟩
  · show PyData.depthKv kvs + 1 ≤ k + 1
    omega
  · show (dictText (PyData.shownKv kvs)).length ≤ _
    have h1 := dictText_le (PyData.shownKv kvs)
    have h3 := Nat.mul_le_mul_right (2 * c + 4) hl
    omega
end VL

set_option Elab.async false
set_option linter.all false
set_option maxRecDepth 100000
namespace VL
open PySem PySem.Spec PyProof.Rows L2
/-! ### != of lists of any texts; repr of a truth value or None -/
section
variable {X : Cx}
def rNeP (K : PySem.W.Frag) : R2 := fun x y H Q => ∃ d e, Dp K H x d ∧ Dp K H y e ∧ d.plain = true ∧ e.plain = true ∧ PyData.depth d ≤ 60 ∧ Q (.bl (!PyData.eqv d e)) H
theorem op_neP (hu : X.A.units + 64 < cLine) : OpR X (compareOp .NotEq) (rNeP X.K) := by
  intro pins s σ H x y v u Q I rx ry h
  obtain ⟨d, e, hd, he, sd, se, dp, q⟩ := h
  obtain ⟨as, r1⟩ := Dp.reads I d x v hd rx
  obtain ⟨bs, r2⟩ := Dp.reads I e y u he ry
  exact SeqAt.ne_plain r1 r2 sd se (by have := Nat.min_le_left d.depth e.depth; omega) ⟨.bl _, H, I, rfl, q⟩
def rEqP (K : PySem.W.Frag) : R2 := fun x y H Q => ∃ d e, Dp K H x d ∧ Dp K H y e ∧ d.plain = true ∧ e.plain = true ∧ PyData.depth d ≤ 60 ∧ Q (.bl (PyData.eqv d e)) H
theorem op_eqP {K : PySem.W.Frag} (hK : X.K = K) (hu : X.A.units + 64 < cLine) : OpR X (compareOp .Eq) (rEqP K) := by
  subst hK
  intro pins s σ H x y v u Q I rx ry h
  obtain ⟨d, e, hd, he, sd, se, dp, q⟩ := h
  obtain ⟨as, r1⟩ := Dp.reads I d x v hd rx
  obtain ⟨bs, r2⟩ := Dp.reads I e y u he ry
  exact SeqAt.eq_plain r1 r2 sd se (by have := Nat.min_le_left d.depth e.depth; omega) ⟨.bl _, H, I, rfl, q⟩
def rRepB : List V → Hp → VK → Prop := fun xs H Q => ∃ x : Str, (xs = [.non] ∧ x = "None" ∨ ∃ b : Bool, xs = [.bl b] ∧ x = if b then "True" else "False") ∧ Q (.str x) H
theorem call_repB : CallR X (.builtin "repr") rRepB := by
  intro pins s σ H xs us Q I r h
  obtain ⟨x, h, q⟩ := h
  have fin : ∀ (t : Tok) (tk : Nat), EP X pins σ Q (.str x t) { s with toks := tk } := fun t tk => ⟨.str _, H, I.kept (h' := s.heap) (fun _ _ e => e), ⟨t, rfl⟩, q⟩
  rcases h with ⟨rfl, rfl⟩ | ⟨b, rfl, rfl⟩
  · obtain ⟨u, rfl, ru⟩ := vals1 r
    cases (show u = Value.none from ru)
    exact P.repr_of_none (fin _ _)
  · obtain ⟨u, rfl, ru⟩ := vals1 r
    cases (show u = Value.bool b from ru)
    refine P.repr_of_bool ?_
    cases b
    · exact fin _ _
    · exact fin _ _
theorem dpAll_strT {K : PySem.W.Frag} {H : Hp} : ∀ ns : List Str, DpAll K H (ns.map V.str) (ns.map PyData.str)
  | [] => .nil
  | a :: ns => .cons (.str a) (dpAll_strT ns)
theorem plain_strs (ns : List Str) : PyData.plain (.list (ns.map PyData.str)) = true := by
  show PyData.plainAll _ = true
  induction ns with
  | nil => rfl
  | cons a ns ih =>
    show (PyData.plain (.str a) && PyData.plainAll (ns.map PyData.str)) = true
    rw [ih]
    rfl
theorem depth_strs (ns : List Str) : PyData.depth (.list (ns.map PyData.str)) = 1 := by
  have : ∀ ns : List Str, PyData.depthAll (ns.map PyData.str) = 0 := by
    intro ns
    induction ns with
    | nil => rfl
    | cons a ns ih => simp [PyData.depthAll, PyData.depth, ih]
  simp [PyData.depth, this]
end
end VL

set_option Elab.async false
set_option linter.all false
set_option maxRecDepth 100000
set_option maxHeartbeats 4000000
namespace VL
open PySem PySem.Spec PyProof.Rows L2
/-! ### data without dicts, as the rules of == and != see it -/
theorem upd_id {H : Hp} {a : Addr} {o : HO} (h : H a = some o) : upd H a o = H := by
  funext b
  by_cases e : b = a
  · subst e; rw [upd_same, h]
  · rw [upd_ne e]
theorem dq_dp_n {K : PySem.W.Frag} {H : Hp} : ∀ (n : Nat) (d : PyData) (v : V), PyData.depth d ≤ n → d.plain = true → Dq H v d → Dp K H v d := by
  intro n
  induction n with
  | zero =>
    intro d v hn hp h
    cases h with
    | non => exact .non
    | bl b => exact .bl b
    | int i => exact .int i
    | str x => exact .str x
    | lst _ _ => exact absurd hn (by simp [PyData.depth])
    | tup _ _ => exact absurd hn (by simp [PyData.depth])
    | dic _ _ _ => exact absurd hn (by simp [PyData.depth])
  | succ n ih =>
    have all : ∀ {vs : List V} {ds : List PyData}, DqAll H vs ds → PyData.depthAll ds ≤ n → PyData.plainAll ds = true → DpAll K H vs ds := by
      intro vs
      induction vs with
      | nil => intro ds h _ _; cases h; exact .nil
      | cons v vs iv =>
        intro ds h hd hp
        cases h with
        | @cons _ _ d ds a b =>
          have hd' : max (PyData.depth d) (PyData.depthAll ds) ≤ n := hd
          have hp' : d.plain = true ∧ PyData.plainAll ds = true := by simpa [PyData.plainAll] using hp
          exact .cons (ih d v (by omega) hp'.1 a) (iv b (by omega) hp'.2)
    intro d v hn hp h
    cases h with
    | non => exact .non
    | bl b => exact .bl b
    | int i => exact .int i
    | str x => exact .str x
    | lst h1 h2 => exact .lst (SqL.of h1) (all h2 (by simp only [PyData.depth] at hn; omega) (by simpa [PyData.plain] using hp))
    | tup h1 h2 => exact .tup (SqT.of h1) (all h2 (by simp only [PyData.depth] at hn; omega) (by simpa [PyData.plain] using hp))
    | dic _ _ _ => exact nomatch hp
theorem Dq.dp {K : PySem.W.Frag} {H : Hp} {v : V} {d : PyData} (h : Dq H v d) (hp : d.plain = true) : Dp K H v d := dq_dp_n _ d v (Nat.le_refl _) hp h
end VL

set_option Elab.async false
set_option linter.all false
set_option maxRecDepth 100000
set_option maxHeartbeats 4000000
namespace VL
open PySem PySem.Spec PyProof.Rows L2
/-! ### copies of values: what may be copied, what is new -/
mutual
def cpy : PyData → Bool
  | .list ds => decide (ds.length ≤ 1000) && cpyAll ds
  | .dict kvs => decide (kvs.length ≤ 1000) && cpyKv kvs
  | .tuple _ => false
  | .none | .bool _ | .int _ | .str _ => true
def cpyAll : List PyData → Bool
  | [] => true
  | d :: ds => cpy d && cpyAll ds
def cpyKv : List (PyData × PyData) → Bool
  | [] => true
  | (_, d) :: r => cpy d && cpyKv r
end
theorem cpyAll_mem : ∀ {ds : List PyData}, cpyAll ds = true → ∀ d ∈ ds, cpy d = true
  | e :: ds, h, d, hd => by
    have h' : cpy e = true ∧ cpyAll ds = true := by simpa [cpyAll] using h
    rcases List.mem_cons.mp hd with rfl | hd
    · exact h'.1
    · exact cpyAll_mem h'.2 d hd
theorem cpyKv_zip : ∀ {ks : List (Key × V)} {ds : List PyData}, ks.length = ds.length → cpyKv (zipK ks ds) = true → cpyAll ds = true
  | [], [], _, _ => rfl
  | p :: ks, d :: ds, hl, h => by
    have h' : cpy d = true ∧ cpyKv (zipK ks ds) = true := by
      have e : cpyKv (zipK (p :: ks) (d :: ds)) = (cpy d && cpyKv (zipK ks ds)) := rfl
      rw [e] at h
      simpa using h
    show (cpy d && cpyAll ds) = true
    rw [h'.1, cpyKv_zip (Nat.succ.inj hl) h'.2]
    rfl
/-- what has come since H -/
def newer (H H' : Hp) : Hp := fun b => match H b with
  | none => H' b
  | some _ => none
theorem newer_some {H H' : Hp} {b : Addr} {o : HO} (h : newer H H' b = some o) : H b = none ∧ H' b = some o := by
  unfold newer at h
  cases e : H b with
  | none => rw [e] at h; exact ⟨rfl, h⟩
  | some u => rw [e] at h; exact nomatch h
theorem newer_mk {H H' : Hp} {b : Addr} {o : HO} (h1 : H b = none) (h2 : H' b = some o) : newer H H' b = some o := by
  unfold newer
  rw [h1]
  exact h2
theorem newer_same (H H' : Hp) : Same (newer H H') H' := fun b o h => (newer_some h).2
def spCopy (n : Nat) : Sp := fun vs H Q _ => ∃ (v : V) (d : PyData), vs = [v] ∧ Dq H v d ∧ cpy d = true ∧ PyData.depth d ≤ n ∧ ∀ v' H', Same H H' → Dq (newer H H') v' d → Q v' H'
end VL

set_option Elab.async false
set_option linter.all false
set_option maxRecDepth 100000
set_option maxHeartbeats 4000000
namespace VL
open PySem PySem.Spec PyProof.Rows L2
/-! ### a part of a heap, and a few objects beside it that change -/
structure Sb (G H : Hp) (M : List (Addr × HO)) : Prop where
  s : Same G H
  m : ∀ p ∈ M, G p.1 = none ∧ H p.1 = some p.2
  nd : (M.map (·.1)).Nodup
def joinH (G N : Hp) : Hp := fun b => match G b with
  | some o => some o
  | none => N b
theorem joinH_l {G N : Hp} : Same G (joinH G N) := fun b o e => by
  unfold joinH
  rw [e]
theorem joinH_r {G H H' : Hp} (s : Same G H) : Same (newer H H') (joinH G (newer H H')) := fun b o e => by
  obtain ⟨z, _⟩ := newer_some e
  unfold joinH
  cases g : G b with
  | none => exact e
  | some u => rw [s _ _ g] at z; exact nomatch z
theorem Sb.alloc {G H : Hp} {M : List (Addr × HO)} {t : Addr} {o : HO} (S : Sb G H M) (h : H t = none) : Sb (upd G t o) (upd H t o) M := by
  refine ⟨fun b u e => ?_, fun p hp => ?_, S.nd⟩
  · by_cases z : b = t
    · subst z
      rw [upd_same] at e ⊢
      exact e
    · rw [upd_ne z] at e ⊢
      exact S.s _ _ e
  · obtain ⟨h1, h2⟩ := S.m p hp
    have n : p.1 ≠ t := ne_of_none h2 h
    rw [upd_ne n, upd_ne n]
    exact ⟨h1, h2⟩
theorem Sb.gnone {G H : Hp} {M : List (Addr × HO)} {t : Addr} (S : Sb G H M) (h : H t = none) : G t = none := Same.free S.s h
theorem Sb.grow {G H : Hp} {M : List (Addr × HO)} {t : Addr} {o : HO} (S : Sb G H M) (h : H t = none) : Same G (upd G t o) := fun b u e => by rw [upd_ne (ne_of_none e (S.gnone h))]; exact e
theorem Sb.call {G H H' : Hp} {M : List (Addr × HO)} (S : Sb G H M) (s : Same H H') : Sb (joinH G (newer H H')) H' M := by
  refine ⟨fun b u e => ?_, fun p hp => ?_, S.nd⟩
  · unfold joinH at e
    cases g : G b with
    | some o => rw [g] at e; rw [← e]; exact s _ _ (S.s _ _ g)
    | none => rw [g] at e; exact (newer_some e).2
  · obtain ⟨h1, h2⟩ := S.m p hp
    refine ⟨?_, s _ _ h2⟩
    unfold joinH
    rw [h1]
    show newer H H' p.1 = none
    unfold newer
    rw [h2]
theorem Sb.add {G H : Hp} {M : List (Addr × HO)} {t : Addr} {o : HO} (S : Sb G H M) (h : H t = none) : Sb G (upd H t o) ((t, o) :: M) := by
  refine ⟨fun b u e => by rw [upd_ne (ne_of_none (S.s _ _ e) h)]; exact S.s _ _ e, fun p hp => ?_, ?_⟩
  · rcases List.mem_cons.mp hp with rfl | hp
    · exact ⟨S.gnone h, upd_same⟩
    · obtain ⟨h1, h2⟩ := S.m p hp
      exact ⟨h1, by rw [upd_ne (ne_of_none h2 h)]; exact h2⟩
  · rw [List.map_cons, List.nodup_cons]
    refine ⟨fun hm => ?_, S.nd⟩
    obtain ⟨p, hp, e⟩ := List.mem_map.mp hm
    have := (S.m p hp).2
    rw [e] at this
    rw [show H (t, o).1 = none from h] at this
    exact nomatch this
theorem Sb.put {G H : Hp} {M : List (Addr × HO)} {t : Addr} {o : HO} {u : HO} (S : Sb G H ((t, o) :: M)) : Sb G (upd H t u) ((t, u) :: M) := by
  have nd := S.nd
  rw [List.map_cons, List.nodup_cons] at nd
  have gt := (S.m (t, o) List.mem_cons_self).1
  refine ⟨fun b v e => by rw [upd_ne (ne_of_none e gt)]; exact S.s _ _ e, fun p hp => ?_, ?_⟩
  · rcases List.mem_cons.mp hp with rfl | hp
    · exact ⟨gt, upd_same⟩
    · obtain ⟨h1, h2⟩ := S.m p (List.mem_cons_of_mem _ hp)
      have n : p.1 ≠ t := fun z => nd.1 (List.mem_map.mpr ⟨p, hp, z⟩)
      exact ⟨h1, by rw [upd_ne n]; exact h2⟩
  · rw [List.map_cons, List.nodup_cons]
    exact nd
theorem Sb.swap {G H : Hp} {M : List (Addr × HO)} {p q : Addr × HO} (S : Sb G H (p :: q :: M)) : Sb G H (q :: p :: M) := by
  have nd := S.nd
  refine ⟨S.s, fun r hr => S.m r ?_, ?_⟩
  · rcases List.mem_cons.mp hr with rfl | hr
    · exact List.mem_cons_of_mem _ List.mem_cons_self
    · rcases List.mem_cons.mp hr with rfl | hr
      · exact List.mem_cons_self
      · exact List.mem_cons_of_mem _ (List.mem_cons_of_mem _ hr)
  · simp only [List.map_cons, List.nodup_cons, List.mem_cons] at nd ⊢
    refine ⟨fun z => ?_, fun z => nd.1 (.inr z), nd.2.2⟩
    rcases z with z | z
    · exact nd.1 (.inl z.symm)
    · exact nd.2.1 z
theorem Sb.drop {G H : Hp} {M : List (Addr × HO)} {t : Addr} {o : HO} (S : Sb G H ((t, o) :: M)) : Sb (upd G t o) H M ∧ Same G (upd G t o) := by
  have nd := S.nd
  rw [List.map_cons, List.nodup_cons] at nd
  obtain ⟨gt, ht⟩ := S.m (t, o) List.mem_cons_self
  refine ⟨⟨fun b u e => ?_, fun p hp => ?_, nd.2⟩, fun b u e => by rw [upd_ne (ne_of_none e gt)]; exact e⟩
  · by_cases z : b = t
    · subst z
      rw [upd_same] at e
      rw [← e]
      exact ht
    · rw [upd_ne z] at e
      exact S.s _ _ e
  · obtain ⟨h1, h2⟩ := S.m p (List.mem_cons_of_mem _ hp)
    have n : p.1 ≠ t := fun z => nd.1 (List.mem_map.mpr ⟨p, hp, z⟩)
    exact ⟨by rw [upd_ne n]; exact h1, h2⟩
theorem Sb.hd {G H : Hp} {M : List (Addr × HO)} {p : Addr × HO} (S : Sb G H (p :: M)) : H p.1 = some p.2 := (S.m p List.mem_cons_self).2
theorem Sb.hd2 {G H : Hp} {M : List (Addr × HO)} {p q : Addr × HO} (S : Sb G H (q :: p :: M)) : H p.1 = some p.2 := (S.m p (List.mem_cons_of_mem _ List.mem_cons_self)).2
theorem Sb.nil {H : Hp} : Sb H H [] := ⟨Same.refl _, (fun _ h => nomatch h), List.nodup_nil⟩
end VL

set_option Elab.async false
set_option linter.all false
set_option maxRecDepth 100000
set_option maxHeartbeats 4000000
namespace VL
open PySem PySem.Spec PyProof.Rows L2
theorem Sb.put2 {G H : Hp} {M : List (Addr × HO)} {p : Addr × HO} {t : Addr} {o u : HO} (S : Sb G H (p :: (t, o) :: M)) : Sb G (upd H t u) (p :: (t, u) :: M) := S.swap.put.swap
theorem Sb.more {G H H' : Hp} {M : List (Addr × HO)} (S : Sb G H M) (s : Same H H') : ∃ G', Sb G' H' M ∧ Same G G' := ⟨_, S.call s, joinH_l⟩
theorem flat_one {α : Type} (l : List α) : (l.map fun c => [c]).flatten = l := by
  induction l with
  | nil => rfl
  | cons c cs ih => simp [ih]
theorem valV_in2 {k : Key} : ∀ {ks : List (Key × V)}, k ∈ ks.map (·.1) → (valV ks k).isSome = true
  | p :: ks, h => by
    by_cases e : p.1 = k
    · rw [valV_pos e]
      rfl
    · rw [valV_neg e]
      refine valV_in2 ?_
      rcases List.mem_cons.mp (show k ∈ p.1 :: ks.map (·.1) from h) with z | z
      · exact absurd z.symm e
      · exact z
end VL

set_option Elab.async false
set_option linter.all false
set_option maxRecDepth 100000
set_option maxHeartbeats 4000000
namespace VL
open PySem PySem.Spec PyProof.Rows L2

/-! ### what the text has: methods with keyword-only parameters, properties, written tuples, own exceptions without a text of their own -/
def WrT (K : PySem.W.Frag) (a : Addr) (xs : List V) : Prop := ∃ (o : Obj) (its : Array Value) (n : Nat), K.lookup a = some o ∧ o.cls = .type "tuple" ∧ o.data = .seq its n ∧ its.size ≤ sizeLine ∧ Vals xs its.toList ∧ o.dict = none
abbrev catG {α : Type} (us ws : List α) : List α := us ++ ws
def MethKE (K : PySem.W.Frag) (C : Addr) (x qual : Str) (st : Stmt) (ps : List Str) (n : Nat) (ks : List Str) : Prop :=
  ∃ (f : Addr) (fd : FuncData), Fun K x qual st f fd ∧ Meth K C x f ∧ KBn K fd ps n ks catG catG
def PropE (K : PySem.W.Frag) (C : Addr) (x qual : Str) (st : Stmt) : Prop := ∃ (p g : Addr) (fd : FuncData), PropOf K C x p g ∧ Fun K x qual st g fd ∧ Binds K fd ["self"] []
structure ExT (K : PySem.W.Frag) (mg : Str → Option Value) (x : Str) (D : Addr) : Prop where
  g : mg x = some (.ref D)
  xx : PySem.W.excIn K D [.type "ValueError", .type "Exception", .type "BaseException", .type "object"] "ValueError.__new__" = true
  kp : PySem.W.keepIn K (.ref D) = true
  bP : PySem.W.subIn K (.ref D) (.type "BaseException") = some true
  tP : PySem.W.typeIn K (.ref D) = some (.type "type")
  em : PySem.W.exmOne K (.ref D) (.ref D) = some true
  ec : ExcC K D
theorem fun_kbn {K : PySem.W.Frag} {x qual : Str} {st : Stmt} {f : Addr} {fd : FuncData} {ps : List Str} (F : Fun K x qual st f fd) (n : Nat) (ks : List Str)
    (h : ∀ (kV doc pm : Value) (an : Option Addr) (cdv ct : Value) (us ws : List Value), us.length = n → ws.length = ks.length → bindArgs (PySem.W.fnOf x qual (defArgs st) (defBody st) (defScope st) .none kV doc pm an cdv ct) ⟨us, ks.zip ws⟩ = pure (ps.zip (us ++ ws))) :
    KBn K fd ps n ks catG catG := by
  obtain ⟨oc, od, kV, doc, pm, an, cdv, ct, osl, rfl, lk, hcd⟩ := F.ex
  exact ⟨fun s us ws X l1 l2 => .of_eq (h kV doc pm an cdv ct us ws l1 l2), fun r1 r2 => r1.append r2⟩
/-! ### as callers see them -/
structure MetK (P : Program) (w : World) (K : PySem.W.Frag) (mg : Str → Option Value) (base : Heap) (k : Nat) (C : Addr) (m : Str) (sp : Sp) (n : Nat) (ks : List Str) (gV : List V → List V → List V) : Prop where
  ex : ∃ (f : Addr) (fd : FuncData) (ps : List Str) (g : List Value → List Value → List Value), Cls K C ∧ Meth K C m f ∧ FnOk P w K mg base CX0 k f fd ps sp ∧ KBn K fd ps n ks g gV
structure Pro (P : Program) (w : World) (K : PySem.W.Frag) (mg : Str → Option Value) (base : Heap) (k : Nat) (C : Addr) (x : Str) (sp : Sp) : Prop where
  ex : ∃ (p g : Addr) (fd : FuncData), Cls K C ∧ PropOf K C x p g ∧ FnOk P w K mg base CX0 k g fd ["self"] sp ∧ Binds K fd ["self"] []
/-- o.m(.., k = v, ..): n is one more than the values written -/
def tMethK (C : Addr) (m : Str) (sp : Sp) (n kn : Nat) (gV : List V → List V → List V) (ta : TE) (t tk : TA) : TE := fun σ H Q => ta σ H fun x H1 => ∃ a dx fs, x = .ref a ∧ H1 a = some (.ins C dx fs) ∧ fs.lookup m = none ∧ t σ H1 fun vs H2 => tk σ H2 fun zs H3 => vs.length + 1 = n ∧ zs.length = kn ∧ sp (gV (.ref a :: vs) zs) H3 Q E0
section
variable {X : Cx} {k j n : Nat} {C : Addr} {m x : Str} {ks : List Str} {sp : Sp} {pos apos : Pos} {e o : Expr} {es : List Expr} {kws : List Keyword} {ta : TE} {t tk : TA} {gV : List V → List V → List V}
theorem pe_mtK {pl : Sem Bool} (c : MetK X.prog X.w X.K X.mg X.base k C m sp n ks gV) (hr : Room j X.A) (hk : k ≤ j) (he : PE X o ta) (ha : PA X (e :: es) t) (hkw : PK X kws tk)
    (hall : (backToKw pos (keywordEach kws X.env)).all (·.1.isSome) = true := by rfl) (hks : (backToKw pos (keywordEach kws X.env)).filterMap (·.1) = ks := by rfl)
    (hst : starEach (e :: es) X.env = (false, eval e X.env) :: starEach es X.env := by rfl)
    (hpl : ((backTo pos (starEach (e :: es) X.env)).any (·.1) || (backToKw pos (keywordEach kws X.env)).any (·.1.isNone)) = false := by rfl)
    (ht : eval (.Call (.Attribute o m apos) (e :: es) kws pos) X.env = (do
      let ov ← eval o X.env
      standAt apos.atName
      let (f, first) ← holding [ov] (getMethod ov m pl)
      callWith pos f first (backTo pos (starEach (e :: es) X.env)) (backToKw pos (keywordEach kws X.env))) := by rfl) :
    PE X (.Call (.Attribute o m apos) (e :: es) kws pos) (tMethK C m sp n ks.length gV ta t tk) := by
  obtain ⟨f, fd, ps, g, hc, hm, F, b⟩ := c.ex
  refine ⟨fun pins s σ H Q I h => ?_⟩
  refine PySem.W.methodCall_KW (pl := pl) (thn (he.run pins s σ H _ I h) fun u s1 ⟨x, H1, I1, rx, a, dx, fs, ex, ea, l, q⟩ => ?_) ht
  subst ex
  obtain rfl : u = Value.ref a := rx
  refine getmeth_ok I1 ea hc hm l ?_
  refine PySem.W.callWith_KW (first := [.ref a]) (h₀ := X.base) I.ok.mod.kin hm.kp hall (thn (ha.run pos pins s1 σ H1 _ I1 q) fun us s2 ⟨vs, H2, I2, r, q2⟩ => ?_) hpl hst
  refine thn (hkw.run pos pins s2 σ H2 _ I2 q2) fun ws s3 ⟨zs, H3, I3, rz, l1, l2, q3⟩ => ⟨I3.kIn, ?_⟩
  rw [hks]
  exact run_fnN (us := .ref a :: us) (vs := .ref a :: vs) F (hr.mono hk) b pass0 I3 (.cons rfl r) rz l1 l2 q3
theorem pe_mtK0 {pl : Sem Bool} (c : MetK X.prog X.w X.K X.mg X.base k C m sp n ks gV) (hr : Room j X.A) (hk : k ≤ j) (he : PE X o ta) (hkw : PK X kws tk)
    (hall : (backToKw pos (keywordEach kws X.env)).all (·.1.isSome) = true := by rfl) (hks : (backToKw pos (keywordEach kws X.env)).filterMap (·.1) = ks := by rfl)
    (hpl : ((backTo pos (starEach [] X.env)).any (·.1) || (backToKw pos (keywordEach kws X.env)).any (·.1.isNone)) = false := by rfl)
    (ht : eval (.Call (.Attribute o m apos) [] kws pos) X.env = (do
      let ov ← eval o X.env
      standAt apos.atName
      let (f, first) ← holding [ov] (getMethod ov m pl)
      callWith pos f first (backTo pos (starEach [] X.env)) (backToKw pos (keywordEach kws X.env))) := by rfl) :
    PE X (.Call (.Attribute o m apos) [] kws pos) (tMethK C m sp n ks.length gV ta tNil tk) := by
  obtain ⟨f, fd, ps, g, hc, hm, F, b⟩ := c.ex
  refine ⟨fun pins s σ H Q I h => ?_⟩
  refine PySem.W.methodCall_KW (pl := pl) (thn (he.run pins s σ H _ I h) fun u s1 ⟨x, H1, I1, rx, a, dx, fs, ex, ea, l, q⟩ => ?_) ht
  subst ex
  obtain rfl : u = Value.ref a := rx
  refine getmeth_ok I1 ea hc hm l ?_
  refine PySem.W.callWith_KW0 (first := [.ref a]) (h₀ := X.base) I.ok.mod.kin hm.kp hall ?_ hpl
  refine thn (hkw.run pos pins s1 σ H1 _ I1 q) fun ws s3 ⟨zs, H3, I3, rz, l1, l2, q3⟩ => ⟨I3.kIn, ?_⟩
  rw [hks]
  exact run_fnN (us := [.ref a]) (vs := [.ref a]) F (hr.mono hk) b pass0 I3 (.cons rfl .nil) rz l1 l2 q3
theorem pe_pr (c : Pro X.prog X.w X.K X.mg X.base k C x sp) (hr : Room j X.A) (hk : k + 1 ≤ j) (he : PE X e ta) (hab : attributeBase e x X.env (eval e X.env) = eval e X.env := by rfl) : PE X (.Attribute e x pos) (tProp C sp [] E0 ta) := by
  obtain ⟨p, g, fd, hc, hp, F, b⟩ := c.ex
  exact pe_prop he hc hp F (hr.mono hk) b .nil pass0 hab
end
section
variable {P : Program} {w : World} {K : PySem.W.Frag} {mg : Str → Option Value} {base : Heap}
theorem metK_of {C : Addr} {x qual : Str} {st : Stmt} {ps ks N : List Str} {k n : Nat} {sp : Sp} (D : MethKE K C x qual st ps n ks) (c : Cls K C) (S : FnScope N ps (defScope st)) (len : ∀ vs H Q E, sp vs H Q E → vs.length = ps.length)
    (hbody : ∀ (f : Addr) (cdv : Value) (A : Around) (outer : List Env) (s : Shared) (H : Hp) (vs : List V) (Q : VK) (E : XK), Room k (A.deeper (envOfC qual (defScope st) s.heap.objs.size f cdv)) → sp vs H Q E →
      ∃ t, PSs (cxOf CX0 P w K mg base N qual (defScope st) f cdv A outer s H E).nox (defBody st) t ∧ t { nx := fun _ H' => Q .non H', rt := Q } (start N vs) H) : MetK P w K mg base (k + 1) C x sp n ks catG := by
  obtain ⟨f, fd, F, hm, b⟩ := D
  exact ⟨f, fd, ps, _, c, hm, F.ok S len (hbody f), b⟩
theorem pro_of {C : Addr} {x qual : Str} {st : Stmt} {N : List Str} {k : Nat} {sp : Sp} (D : PropE K C x qual st) (c : Cls K C) (S : FnScope N ["self"] (defScope st)) (len : ∀ vs H Q E, sp vs H Q E → vs.length = 1)
    (hbody : ∀ (f : Addr) (cdv : Value) (A : Around) (outer : List Env) (s : Shared) (H : Hp) (vs : List V) (Q : VK) (E : XK), Room k (A.deeper (envOfC qual (defScope st) s.heap.objs.size f cdv)) → sp vs H Q E →
      ∃ t, PSs (cxOf CX0 P w K mg base N qual (defScope st) f cdv A outer s H E).nox (defBody st) t ∧ t { nx := fun _ H' => Q .non H', rt := Q } (start N vs) H) : Pro P w K mg base (k + 1) C x sp := by
  obtain ⟨p, g, fd, hp, F, b⟩ := D
  exact ⟨p, g, fd, c, hp, F.ok S len (hbody g), b⟩
end
end VL

set_option Elab.async false
set_option linter.all false
set_option maxRecDepth 100000
set_option maxHeartbeats 4000000
namespace VL
open PySem PySem.Spec PyProof.Rows L2
/-! ### rules whose readings speak of K, with K told: within comprehensions and except suites -/
theorem u65 {A : Around} {k : Nat} (r : Room k A) : A.units + 65 < cLine := by have := r.un; omega
section
variable {X : Cx} {K : PySem.W.Frag} {e o : Expr} {f : Str} {pos : Pos} {ta : TE}
theorem pe_fldS (hK : X.K = K) (he : PE X e ta) (hb : attributeBase e f X.env (eval e X.env) = eval e X.env) : PE X (.Attribute e f pos) (tFld K ta f) := by subst hK; exact pe_fld he hb
theorem pe_conS (hK : X.K = K) (he : PE X e ta) (hb : attributeBase e f X.env (eval e X.env) = eval e X.env) : PE X (.Attribute e f pos) (tCon K ta f) := by subst hK; exact pe_con he hb
theorem pe_cvalS (hK : X.K = K) (he : PE X e ta) (hb : attributeBase e f X.env (eval e X.env) = eval e X.env := by rfl) : PE X (.Attribute e f pos) (ClX.tCVal K ta f) := by subst hK; exact ClX.pe_cval he hb
theorem ix_listS (hK : X.K = K) : IxR X (rIxL K) := by subst hK; exact ix_list
theorem ix_tupS (hK : X.K = K) : IxR X (rIxT K) := by subst hK; exact ix_tup
theorem sl_listS (hK : X.K = K) : SlR X (rSlL K) := by subst hK; exact sl_list
theorem sl_tupS (hK : X.K = K) : SlR X (rSlT K) := by subst hK; exact sl_tup
theorem op_in_seqS (hK : X.K = K) : OpR X (compareOp .In) (rIn K false) := by subst hK; exact op_in_seq
theorem op_notIn_seqS (hK : X.K = K) : OpR X (compareOp .NotIn) (rIn K true) := by subst hK; exact op_notIn_seq
theorem call_len_seqS (hK : X.K = K) : CallR X (.builtin "len") (fun xs H Q => ∃ p ys, xs = [.ref p] ∧ (SqL K H p ys ∨ SqT K H p ys) ∧ Q (.int ys.length) H) := by subst hK; exact call_len_seq
theorem call_list_ofS (hK : X.K = K) : CallR X (.type "list") (fun xs H Q => ∃ p ys, xs = [.ref p] ∧ (SqL K H p ys ∨ SqT K H p ys) ∧ ∀ l, H l = none → Q (.ref l) (upd H l (.lst ys))) := by subst hK; exact call_list_of
theorem call_isiS (hK : X.K = K) : CallR X (.builtin "isinstance") (rIsi K) := by subst hK; exact call_isi
theorem op_eqDS (hK : X.K = K) (hu : X.A.units + 64 < cLine) : OpR X (compareOp .Eq) (rEqD K) := by subst hK; exact op_eqD hu
theorem op_neDS (hK : X.K = K) (hu : X.A.units + 64 < cLine) : OpR X (compareOp .NotEq) (rNeD K) := by subst hK; exact op_neD hu
theorem cr_maxS (hK : X.K = K) (hc : X.calm = true) : CallR X (.builtin "max") (rMax K) := by subst hK; exact cr_max hc
theorem cr_minS (hK : X.K = K) (hc : X.calm = true) : CallR X (.builtin "min") (rMin K) := by subst hK; exact cr_min hc
theorem op_inDS (hK : X.K = K) (hu : X.A.units + 65 < cLine) : OpR X (compareOp .In) (rInD K) := by subst hK; exact op_inD hu
theorem pt_truthS (hK : X.K = K) (ha : PE X e ta) (he : ∀ whole, isTrue e X.env whole = (do let v ← whole; standAt e.pos; holding [v] (truthy v))) :
    PT X e (fun σ H Q => ta σ H fun x H' => ∃ k, TruV K x H' k ∧ Q k H') := by subst hK; exact pt_truth ha he
theorem pi_listS {tg : Expr} (hK : X.K = K) (hl : PE X e ta) : PI X tg e (iList K ta) := by subst hK; exact pi_list hl
theorem pi_tupS {tg : Expr} (hK : X.K = K) (hl : PE X e ta) : PI X tg e (iTup K ta) := by subst hK; exact pi_tup hl
theorem pg_tupS {es : List Expr} {k : Nat} {t : TGs} {n : Nat} (hK : X.K = K) (hc : X.calm = true) (h : PGs X es t)
    (hn : (assignEach es X.env).length = n := by rfl) (hst : (assignEach es X.env).findIdx? (·.1) = none := by rfl) : PG X (.Tuple es k pos) (gTup K n t) := by subst hK; exact pg_tup hc h hn hst
end
end VL

set_option Elab.async false
set_option linter.all false
set_option maxRecDepth 100000
set_option maxHeartbeats 4000000
namespace VL
open PySem PySem.Spec PyProof.Rows L2 NdefX

/-! ### an own exception's __init__ that begins with super().__init__(..), over ValueError -/
abbrev supBody (p0 p1 p2 p3 p4 : Pos) (es : List Expr) (rest : List Stmt) : List Stmt := .Expr (.Call (.Attribute (.Call (.Name "super" p0) [] [] p1) "__init__" p2) es [] p3) p4 :: rest
section
variable {CX : CXT} {P : Program} {w : World} {K : PySem.W.Frag} {mg : Str → Option Value} {base : Heap} {k : Nat} {f D cc cda : Addr} {name qual : Str} {params : Arguments} {es : List Expr} {ar : Arg} {rest : List Stmt} {p0 p1 p2 p3 p4 : Pos} {scope : Scope}
  {dV kV doc pm ct oc cl ccl : Value} {od cld cdd an : Option Addr} {osl csl ccs : Array (Option Value)} {vsC : Array Value} {file : Str} {tf : Tok} {cdD : ClassData} {N ps : List Str} {sp : Sp}
/-- what the written part says of it -/
structure SupK (P : Program) (K : PySem.W.Frag) (mg : Str → Option Value) (f D cc cda : Addr) (fd : FuncData) (qual : Str) : Prop where
  lk : ∃ oc od osl, K.lookup f = some ⟨oc, od, .func fd, osl⟩
  cd : PySem.W.codeIn K (.ref cda) qual = true
  cell : ∃ cl cld csl, K.lookup cc = some ⟨cl, cld, .cell (some (.ref D)), csl⟩
  code : ∃ ccl cdd vsC ccs file tf, K.lookup cda = some ⟨ccl, cdd, .fields vsC, ccs⟩ ∧ vsC[2]? = some (.str file tf) ∧ ((P.main.file : Str) == file) = true
  cls : ∃ cdD, PySem.W.clsIn K D = some cdD
  sub : PySem.W.mroIn K D (.ref D) = some true
  zsuper : mg "super" = none
  ops : PySem.W.nsIn K cStatics "thirdparty.any" = some none
  along : PySem.W.ks_superIn K D D "__init__" = some (some (.builtin "ValueError.__init__"))
  subV : PySem.W.subIn K (.ref D) (.type "ValueError") = some true
  top : (P.main.scope.names.lookup ("super" : Str)).isSome = false
theorem fn_sup {fd : FuncData} (T : SupK P K mg f D cc cda fd qual) (O : OexC K D) (efd : fd = PySem.W.fnX name qual params (supBody p0 p1 p2 p3 p4 es rest) scope [("__class__", cc)] dV kV doc pm an (.ref cda) ct)
    (S : NScope N ps ["__class__"] scope) (har : (params.posonlyargs ++ params.args).head? = some ar) (hps : ps.head? = some ar.arg) (hks : scope.names.lookup ("super" : Str) = some .globalImplicit)
    (hsw : ∀ env : Env, swapsWith (.Call (.Attribute (.Call (.Name "super" p0) [] [] p1) "__init__" p2) es [] p3) none p4.line env = pure false)
    (hst : ∀ env : Env, (backTo p3 (starEach es env)).any (·.1) = false)
    (hee : ∀ env : Env, ∃ x r, backTo p3 (starEach es env) = (false, x) :: r)
    {pl : Sem Bool} (hev : ∀ env : Env, eval (.Call (.Attribute (.Call (.Name "super" p0) [] [] p1) "__init__" p2) es [] p3) env = (do
      let ov ← attributeBase (.Call (.Name "super" p0) [] [] p1) "__init__" env (eval (.Call (.Name "super" p0) [] [] p1) env)
      standAt p2.atName
      let (g, first) ← holding [ov] (getMethod ov "__init__" pl)
      callWith p3 g first (backTo p3 (starEach es env)) []))
    (len : ∀ vs H Q E, sp vs H Q E → vs.length = ps.length)
    (hbody : ∀ (A : Around) (outer : List Env) (s : Shared) (H : Hp) (vs : List V) (Q : VK) (E : XK), Room k (A.deeper (envF ⟨name, qual, params, supBody p0 p1 p2 p3 p4 es rest, scope, [("__class__", cc)], cda⟩ f s.heap.objs.size)) → sp vs H Q E →
      ∃ ta tr, PA (ncx CX P w K mg base N ⟨name, qual, params, supBody p0 p1 p2 p3 p4 es rest, scope, [("__class__", cc)], cda⟩ f A outer s H E) es ta ∧
        PSs (ncx CX P w K mg base N ⟨name, qual, params, supBody p0 p1 p2 p3 p4 es rest, scope, [("__class__", cc)], cda⟩ f A outer s H E) rest tr ∧
        ∃ (a : Addr) (vs' : List V), vs = .ref a :: vs' ∧ H a = some (exo a D none) ∧
          ta (startF N vs [some (.ref D)]) H fun ws H1 => ws.length ≤ 1000 ∧ H1 a = some (exo a D none) ∧ tr { nx := fun _ H' => Q .non H', rt := Q } (startF N vs [some (.ref D)]) H1) :
    FnOk P w K mg base CX (k + 1) f fd ps sp := by
  subst efd
  obtain ⟨oc, od, osl, lk⟩ := T.lk
  obtain ⟨cl, cld, csl, hcell⟩ := T.cell
  obtain ⟨ccl, cdd, vsC, ccs, file, tf, hcode, hvs, hfile⟩ := T.code
  obtain ⟨cdD, hD⟩ := T.cls
  refine ⟨len, fun A outer s H args us vs Q E hr e0 hb r hsp => ?_⟩
  have hl := len _ _ _ _ hsp
  have KX : K.In s.heap := e0.mod.kin.keeps fun b o q => (e0.bs b o q).1
  have lim : s.heap.NoLimit := e0.mod.nolimit.keeps fun b o e => (e0.bs b o e).1
  have C : CellsAt [("__class__", cc)] ["__class__"] [some (.ref D)] s.heap H := by
    have one : ∀ y c, [(("__class__" : Str), cc)].lookup y = some c → y = "__class__" ∧ c = cc := fun y c e => by
      by_cases h : y = ("__class__" : Str)
      · subst h
        have e2 : [(("__class__" : Str), cc)].lookup ("__class__" : Str) = some cc := by simp [List.lookup]
        rw [e2] at e
        exact ⟨rfl, (Option.some.inj e).symm⟩
      · have q : (y == ("__class__" : Str)) = false := by simpa using h
        simp [List.lookup, q] at e
    have hc : ∃ v, s.heap.IsCell cc v := ⟨_, _, KX _ _ hcell, rfl⟩
    have hcH : H cc = none := (e0.bs cc _ (e0.mod.kin _ _ hcell)).2
    refine ⟨rfl, fun y c e => ?_, fun x y c e1 e2 => ?_, fun i y e => ?_⟩
    · obtain ⟨_, rfl⟩ := one y c e
      exact ⟨hcH, hc⟩
    · rw [(one _ _ e1).1, (one _ _ e2).1]
    · cases i with
      | zero =>
        injection e with e
        subst e
        refine ⟨cc, by simp [List.lookup], fun v ev => ?_⟩
        injection ev with ev
        injection ev with ev
        subst ev
        exact ⟨_, rfl, _, KX _ _ hcell, rfl⟩
      | succ i => cases i <;> cases e
  refine PySem.ks_codeAny_call_defAt (body := supBody p0 p1 p2 p3 p4 es rest) hr.depth (KX _ _ lk) rfl lim (PySem.W.codeRec_of KX T.cd) rfl hb S.nocell (fun ⟨n, _⟩ hy => S.par n (List.of_mem_zip hy).1) (fun h₁ hns kp => ?_) S.co S.gen S.kind
  obtain ⟨ta, tr, hA, hR, a, vs', ev, ha0, hq⟩ := hbody A outer s H vs Q E (hr.deeper _) hsp
  generalize hF : (⟨name, qual, params, supBody p0 p1 p2 p3 p4 es rest, scope, [("__class__", cc)], cda⟩ : NF) = F at hA hR
  have I : Inv (ncx CX P w K mg base N F f A outer s H E) [] (startF N vs [some (.ref D)]) H { s with heap := h₁, toks := s.toks + (ps.zip us).length } := by
    subst hF
    exact inv_startN S hr.hd e0 hl r C hns kp
  have eenv : callEnv (PySem.W.fnX name qual params (supBody p0 p1 p2 p3 p4 es rest) scope [("__class__", cc)] dV kV doc pm an (.ref cda) ct) s.heap.objs.size f = envF F f s.heap.objs.size := by
    subst hF
    rfl
  rw [eenv]
  have fin : ∀ {σ' : L2.St} {H' : Hp} {v : V} {u : Value} {s' : Shared}, Inv (ncx CX P w K mg base N F f A outer s H E) [] σ' H' s' → L2.RelV v u → Q v H' → CE outer P w H s Q u s' :=
    fun {σ' H' v u s'} J rv q => ⟨v, H', J.os, J.bare, J.base, J.hok, rv, q⟩
  refine PySem.ks_wpAt_mono (Q := SP (ncx CX P w K mg base N F f A outer s H E) [] { nx := fun _ H' => Q .non H', rt := Q }) (E := (ncx CX P w K mg base N F f A outer s H E).xe) ?go (fun fl s' hs => ?en) (fun _ _ x => x)
  case en =>
    cases fl with
    | ret u =>
      obtain ⟨v, σ', H', J, rv, q⟩ := hs
      exact fin J rv q
    | next =>
      obtain ⟨σ', H', J, q⟩ := hs
      exact fin (v := V.non) (u := Value.none) J rfl q
    | brk =>
      obtain ⟨_, _, _, q⟩ := hs
      exact False.elim q
    | cont =>
      obtain ⟨_, _, _, q⟩ := hs
      exact False.elim q
  have ekind : ∀ x, (envF F f s.heap.objs.size).kindOf x = scope.names.lookup x := by
    subst hF
    intro x
    rfl
  refine PySem.ks_wpAt_execs_cons (PySem.ks_wpAt_Expr_any (PySem.ks_wpAt_MethodCall (pl := pl) ?_ (hev _)) I.quiet (hsw _))
  refine PySem.ks_wpAt_super_base (env := envF F f s.heap.objs.size) ((ekind _).trans hks) ((ekind _).trans (S.frk _ List.mem_cons_self)) rfl rfl (kp _ _ (KX _ _ lk)) rfl har (by subst hF; rfl) (kp _ _ (KX _ _ hcode)) rfl hvs hfile T.top ?_
  have escope : (envF F f s.heap.objs.size).scope = scope := by subst hF; rfl
  have ecells : (envF F f s.heap.objs.size).cells = [(("__class__" : Str), cc)] := by subst hF; rfl
  obtain ⟨mb, b1, b2⟩ := e0.mod.blt
  have kb : ∀ b o, base.get? b = some o → h₁.get? b = some o := fun b o q => kp b o (e0.bs b o q).1
  have X₁ : K.In h₁ := KX.keeps kp
  have hgl := e0.mod.glob.keeps kb
  have hbl := b1.keeps kb
  refine PySem.W.ks_loadName_global (by rw [escope]; exact S.kind) ((ekind _).trans hks) (Calls.loadGlobal_builtin hgl T.zsuper hbl ((b2 _ (by decide +kernel)).trans Boot.«super») ⟨rfl, ?_⟩)
  refine wpAny_loadName_free (by rw [escope]; exact S.kind) ((ekind _).trans (S.frk _ List.mem_cons_self)) (c := cc) (v := .ref D) (by rw [ecells]; simp [List.lookup]) ⟨_, X₁ _ _ hcell, rfl⟩ ?_
  have hself : (ps.zip us).reverse.lookup ar.arg = some (.ref a) := by
    subst ev
    cases ps with
    | nil => cases hps
    | cons p ps' =>
      injection hps with hps
      subst hps
      cases r with
      | @cons _ u0 _ ur ra rw' =>
        obtain rfl : u0 = Value.ref a := ra
        have nd : (ar.arg :: ps').Nodup := by
          have q := S.nd.sublist (List.take_sublist ((ar.arg :: ps').length + [("__class__" : Str)].length) N)
          rw [S.pre] at q
          exact (List.nodup_append.mp q).1
        exact zip_look (i := 0) nd rfl rfl
  have hpar : scope.names.lookup ar.arg = some .local := by
    refine S.par _ ?_
    cases ps with
    | nil => cases hps
    | cons p ps' =>
      injection hps with hps
      subst hps
      exact List.mem_cons_self
  refine wpAny_loadName_local (by rw [escope]; exact S.kind) ((ekind _).trans hpar) hns hself ?_
  obtain ⟨oD, hD1, hD2⟩ : ∃ oD, h₁.get? D = some oD ∧ oD.data = .cls cdD := by
    have z := hD
    unfold PySem.W.clsIn at z
    split at z
    · rename_i ho
      cases z
      exact ⟨_, X₁ _ _ ho, rfl⟩
    · cases z
  refine PySem.ks_wpAny_isType_cls hD1 hD2 ⟨rfl, ?_⟩
  obtain ⟨t1, hoa⟩ := exo_at I.hok ha0
  refine PySem.ks_wpAny_call_super hD1 hD2 hoa rfl (fun c e => by cases e) (PySem.W.looks_mroIn X₁ T.sub) (fun h₂ e2 k2 => ?_)
  have I2 := I.kept (t' := s.toks + (ps.zip us).length) k2
  have X₂ : K.In h₂ := X₁.keeps k2
  have IA : PySem.W.InstAt h₂ a { cls := .ref D, dict := none, data := .fields #[.ref t1, .none, .none, .none, .bool false, .none] } D none := ⟨k2 _ _ hoa, rfl, rfl, trivial⟩
  have hal := T.along
  unfold PySem.W.ks_superIn at hal
  rw [hD] at hal
  have hmro : PySem.W.Looks (model P w) h₂ (mroOf (.ref D)) cdD.mro := fun A Q E s k q => wpAny_bind ((PySem.W.looks_clsIn X₂ hD) A _ E s k (wpAny_pure q))
  refine PySem.W.kxs_getMethod PySem.W.kxs_ValueError e2 (PySem.W.looks_opaque X₂ T.ops) hmro rfl X₂ hal (IA.type.andThen (PySem.W.looks_subIn X₂ T.subV)) (PySem.W.ks_ne X₂ IA hD) rfl ?_
  have kmw : ∀ b o, h₂.get? b = some o → (h₂.push (PySem.W.kxs_mw "ValueError.__init__" a)).get? b = some o := fun b o q => Heap.get?_push_of_some _ q
  have I3 : Inv (ncx CX P w K mg base N F f A outer s H E) [(h₂.objs.size, PySem.W.kxs_mw "ValueError.__init__" a)] (startF N vs [some (.ref D)]) H { s with heap := h₂.push (PySem.W.kxs_mw "ValueError.__init__" a), toks := s.toks + (ps.zip us).length + 1 } := by
    refine (I2.kept (t' := s.toks + (ps.zip us).length + 1) kmw).pins_of fun p hp => ?_
    rw [List.mem_singleton.mp hp]
    exact ⟨Heap.get?_push_at rfl rfl, I2.hok.fresh (Nat.le_refl _), Nat.ne_of_gt I2.lt, I2.nofs (Nat.le_refl _), fun v e => by cases e⟩
  refine PySem.W.kxs_callWith (i := "ValueError.__init__") (x := a) (hst _) ?_
  obtain ⟨x0, r0, hx⟩ := hee (envF F f s.heap.objs.size)
  rw [hx]
  refine Calls.evalArgs_plain ?_
  rw [← hx]
  refine thn (hA.run p3 _ _ _ H _ I3 hq) (fun us1 s4 ⟨ws, H1, I4, r1, hz, ha1, hrest⟩ => ⟨(I4.pin (h₂.objs.size, PySem.W.kxs_mw "ValueError.__init__" a) (List.mem_append_right _ List.mem_cons_self)).1, ?_⟩)
  have hu := (I4.pin (h₂.objs.size, PySem.W.kxs_mw "ValueError.__init__" a) (List.mem_append_right _ List.mem_cons_self)).1
  have I5 : Inv (ncx CX P w K mg base N F f A outer s H E) [] (startF N vs [some (.ref D)]) H1 s4 := I4.pins_of fun p hp => by cases hp
  obtain ⟨nm, q, Nn, bs, bm, sn, sub, ab, col, dd, k0, k1, k2', k3, k5, hC, hbm⟩ := O.cls
  obtain ⟨t2, ho⟩ := exo_at I5.hok ha1
  have hus : us1.length ≤ sizeLine := by
    rw [← Paired.length r1]
    exact Nat.le_trans hz (by decide)
  have kin4 := I5.kIn
  obtain ⟨hp, g, d, tk, os⟩ := s4
  refine wpAny_call (codeAny_of_tree ?_)
  show wpAny _ (A.deeper (envF F f s.heap.objs.size)).in1 (callAny (.ref h₂.objs.size) ⟨us1, []⟩) _ _ _
  simp only [callAny]
  refine wpAny_bind (wpAny_load hu ?_)
  simp only [PySem.W.kxs_mw, show (Value.type "method-wrapper" == Value.type "method" || Value.type "method-wrapper" == Value.type "builtin_function_or_method" || Value.type "method-wrapper" == Value.type "method-wrapper") = true by decide, if_true]
  refine PySem.W.KFB.if_so (by decide) ?_
  refine wpAny_bind (PySem.W.check_bound_init PySem.F.excBase_ValueError.toExcCallFacts (kin4 _ _ hC) ho rfl ?_)
  refine wpAny_bind (wpAny_pure (wpAny_pure ?_))
  refine ⟨plainId_quiet PySem.F.excBase_ValueError.init.plain _, codeAny_builtin PySem.F.excBase_ValueError.initEntry ?_⟩
  refine PySem.W.exc_init_tree (cls := .ref D) (t0 := t2) (dv := none) (c2 := .none) (c3 := .none) (b4 := .bool false) ho hus fun h' kk e' _ => ?_
  have J := I5.write (t' := tk) (x := a) (e := a) (o := exo a D none) (by rw [ha1]; exact True.intro) (.inl rfl) kk ⟨_, e'⟩ (exo_ok e')
  have eu : upd H1 a (exo a D none) = H1 := by
    funext b
    by_cases hb : b = a
    · rw [hb, upd_same, ha1]
    · rw [upd_ne hb]
  rw [eu] at J
  exact wpAt_of_wpAny (hR.run [] _ _ H1 _ J hrest)
end
end VL

set_option Elab.async false
set_option linter.all false
set_option maxRecDepth 100000
set_option maxHeartbeats 4000000
namespace VL
open PySem PySem.Spec PyProof.Rows L2 NdefX

/-! ### isinstance of a caught error that has a dict -/
theorem call_isED {X : Cx} {a D : Addr} {oe : Obj} {cls : Value} {d : Option Addr} {pn : List (Addr × Obj)} (C : ExcC X.K D) (hz : Zc cls d oe) (hf : ∃ vs, oe.data = .fields vs) :
    CallR (X.suite a ((a, oe) :: pn)) (.builtin "isinstance") (fun xs H Q => cls = .ref D ∧ ∃ (dd : Addr) (fs : List (Str × V)) (c : V) (cv : Value) (b : Bool), d = some dd ∧ H dd = some (.xd fs) ∧ xs = [.ref a, c] ∧ (∀ u, RelV c u → u = cv) ∧ PySem.W.kitOne X.K (.ref D) cv = some b ∧ Q (.bl b) H) := by
  intro pins s σ H xs us Q I r h
  obtain ⟨ec, dd, fs, c, cv, b, ed, ea, ex, hcv, e, q⟩ := h
  subst ec ed ex
  cases r with
  | cons rx rr =>
    cases rr with
    | cons rt rr =>
      cases rr
      cases rx
      obtain rfl := hcv _ rt
      have hp := (I.pin (a, oe) (List.mem_append_left _ List.mem_cons_self)).1
      obtain ⟨vs, hv⟩ := hf
      have hx : ObjOk X.prog X.w H s.heap dd (.xd fs) := I.hok dd _ ea
      obtain ⟨mA, hns, _⟩ := hx
      obtain ⟨od, ho, _⟩ := lookIn_ns hns
      have J : PySem.W.InstAt s.heap a oe D (some od) := ⟨hp, hz.1, by unfold PySem.W.notCls; rw [hv] <;> rfl, by rw [hz.2]; exact ho⟩
      have hcl : (PySem.W.clsIn X.K D).isSome = true := by
        obtain ⟨cd, hc, _⟩ := PySem.W.any_some C.hd
        rw [hc]
        rfl
      exact PySem.W.kia_one (PySem.W.kitx_exc (ox := oe) (od := some od) hcl C.hg C.hk C.hs C.ha C.hn C.ht C.hm) I.kIn J e (fun z => nomatch z) fun tk => ⟨.bl b, H, I.kept (t' := tk) fun _ _ z => z, rfl, q⟩
end VL

set_option Elab.async false
set_option linter.all false
set_option maxRecDepth 100000
set_option maxHeartbeats 4000000
namespace PySem
section
variable {prog : Program} {w : World} {K : Type} [DecidableEq K] {knd : KeyKind prog w K} {A : Around} {E : Value → Shared → Prop} {s : Shared}
theorem wpAny_dictPut_pairs {d : Addr} {kvs : List (K × Value)} {k : K} {key v : Value} {Q : Unit → Shared → Prop} (hkey : knd.is k key = true) (hm : s.heap.DictOf knd d kvs)
    (hQ : ∀ h', h'.DictOf knd d (stored kvs k v) → Heap.SameBut d s.heap h' → Q () { s with heap := h' })
    (hsz : kvs.length ≤ sizeLine := by size_fits) :
    wpAny (model prog w) A (dictPut d (knd.hash k) key v) Q E s := by
  obtain ⟨o, es, ep, ho, hc, hd, hk, hp, hn⟩ := hm
  have hes : es.size ≤ sizeLine := by have e1 := hp.length; have e2 : es.toList.length = es.size := by simp
                                      omega
  unfold dictPut
  refine wpAny_bind (wpAny_dictFind_of hkey ho hd hk ?_)
  have hidx : (es.findIdx? fun e => knd.is k e.key) = kvs.findIdx? fun kv => decide (kv.1 = k) := by
    rw [← hp.findIdx k]; obtain ⟨l⟩ := es; simp
  cases hi : es.findIdx? fun e => knd.is k e.key with
  | some i =>
    refine wpAny_updateDict ho hd (hQ _ ⟨_, _, ep, Heap.get?_update_self _ ho (Obj.isFreed_of_dict (Obj.data_mapDict hd _)),
      hc.mapDict _, Obj.data_mapDict hd _, hk.modify _ _, ?_, ?_⟩ (Heap.SameBut.update ..))
    · rw [stored, if_pos (any_of_findIdx_some (hidx ▸ hi))]
      have hl : (es.toList.findIdx? fun e => knd.is k e.key) = some i := by rw [← hi]; obtain ⟨l⟩ := es; simp
      have := hp.modify hn hl v
      obtain ⟨l⟩ := es
      simpa using this
    · rw [stored, if_pos (any_of_findIdx_some (hidx ▸ hi)), keys_map_store]; exact hn
  | none =>
    have hnot : k ∉ kvs.map (·.1) := not_mem_of_findIdx_none (hidx ▸ hi)
    have hany : ¬ (kvs.any fun kv => decide (kv.1 = k)) = true := by
      rw [List.any_eq_true]; rintro ⟨kv, hkv, he⟩
      exact hnot (List.mem_map.mpr ⟨kv, hkv, of_decide_eq_true he⟩)
    refine wpAny_updateDictKeys (hz := hes) ho hd (hQ _ ⟨_, _, ep + 1, Heap.get?_update_self _ ho (Obj.isFreed_of_dict (Obj.data_mapDictKeys hd _)),
      hc.mapDictKeys _, Obj.data_mapDictKeys hd _, hk.push hkey _, ?_, ?_⟩ (Heap.SameBut.update ..))
    · rw [stored, if_neg hany]
      have := hp.append hkey (knd.hash k) v
      obtain ⟨l⟩ := es
      simpa using this
    · rw [stored, if_neg hany, List.map_append, List.nodup_append]
      refine ⟨hn, by simp, ?_⟩
      intro a ha b hb
      simp only [List.map_cons, List.map_nil, List.mem_singleton] at hb
      subst hb
      exact fun e => hnot (e ▸ ha)

/-- {**a, ..}: the entries of a dict put into another one -/
theorem wpAny_mergeMapping {d o : Addr} {kvs more : List (K × Value)} {Q : Unit → Shared → Prop} (hnr : ∀ k a, knd.is k (.ref a) = false) (hdo : d ≠ o) (hoS : (o == sysModules) = false)
    (hd : s.heap.DictOf knd d kvs) (ho : s.heap.DictOf knd o more)
    (hQ : ∀ h', h'.DictOf knd d (merged kvs more) → h'.DictOf knd o more → Heap.SameBut d s.heap h' → Q () { s with heap := h' })
    (hsz : kvs.length + more.length ≤ sizeLine := by size_fits) :
    wpAny (model prog w) A (mergeMapping d (.ref o) false) Q E s := by
  obtain ⟨od, esd, epd, hod, hcd, hdd, hkd, hpd, hnd⟩ := id hd
  obtain ⟨oo, eso, epo, hoo, hco, hdo', hko, hpo, hno⟩ := id ho
  have hlen : more.length = eso.size := by rw [← hpo.length]; simp
  unfold mergeMapping
  refine wpAny_bind (wpAny_isInstance ho.typeIs isSubtype_dict_dict ?_)
  dsimp only
  rw [if_pos rfl]
  refine wpAny_bind (wpAny_specialOf ho.typeIs F.slot_dict_iter.lookup ?_)
  refine wpAny_bind (wpAny_pure ?_)
  have e0 : (some (Value.builtin "dict.__iter__") == some (Value.builtin "dict.__iter__")) = true := by simp
  rw [e0]
  dsimp only
  rw [if_neg (by rw [hoS]; exact Bool.false_ne_true)]
  have loop : wpAny (model prog w) A (do
      let l0 ← dictEntries o
      let epoch ← dictEpoch o
      forIn (List.range l0.size) PUnit.unit fun i (_ : PUnit) => (do
          let l' ← dictEntries o
          match l'[i]? with
            | some e => do
              holding [e.key, e.val] (if false = true then do
                      let r ← dictFind d e.key e.hash
                      if r.isSome = true then do
                          rule "dict.merge.duplicate-key"
                          let x ← newExc (Value.type "KeyError") [e.key]
                          raiseNew x
                          dictPut d e.hash e.key e.val
                        else dictPut d e.hash e.key e.val
                    else dictPut d e.hash e.key e.val)
              let ep' ← dictEpoch o
              if (ep' != epoch) = true then do
                  (unsupported "dict.changed-during-merge" : Sem PUnit)
                  pure (ForInStep.yield PUnit.unit)
                else pure (ForInStep.yield PUnit.unit)
            | _ => do
              (unsupported "dict.changed-during-merge" : Sem PUnit)
              pure (ForInStep.yield PUnit.unit) : Sem (ForInStep PUnit))
      pure ()) Q E s := by
    refine wpAny_bind (wpAny_dictEntries hoo hdo' ?_)
    refine wpAny_bind (wpAny_dictEpoch hoo hdo' ?_)
    refine wpAny_bind ?_
    refine wpAny_forIn_list _
      (fun rest _ s' => ∃ h' i, s' = { s with heap := h' } ∧ rest = List.range' i (eso.size - i) ∧ i ≤ eso.size ∧ h'.DictOf knd d (merged kvs (more.take i)) ∧ h'.get? o = some oo ∧ Heap.SameBut d s.heap h')
      _ ?_ ?_ _ _ ⟨s.heap, 0, rfl, by simp [List.range_eq_range'], Nat.zero_le _, by simpa [merged] using hd, hoo, Heap.SameBut.refl _ _⟩
    · rintro x rest b s' ⟨h', i, rfl, hr, hi, hd', hoo', hs'⟩
      have hlt : i < eso.size := by
        rcases Nat.lt_or_ge i eso.size with h | h
        · exact h
        · rw [Nat.sub_eq_zero_of_le h] at hr; simp at hr
      obtain ⟨rfl, hrest⟩ : x = i ∧ rest = List.range' (i + 1) (eso.size - (i + 1)) := by
        have e : eso.size - i = (eso.size - (i + 1)) + 1 := by omega
        rw [e, List.range'_succ] at hr
        injection hr with h1 h2
        exact ⟨h1, h2⟩
      refine wpAny_bind (wpAny_dictEntries hoo' hdo' ?_)
      rw [Array.getElem?_eq_getElem hlt]
      obtain ⟨kv, hkv⟩ : ∃ kv, more[x]? = some kv := ⟨more[x]'(by rw [hlen]; exact hlt), List.getElem?_eq_getElem _⟩
      obtain ⟨k, v⟩ := kv
      obtain ⟨hkey, hval⟩ := hpo.get? (e := eso[x]) (by simp [hlt]) hkv
      obtain ⟨k', hkey', hhash⟩ := hko eso[x] (Array.getElem_mem hlt)
      obtain rfl : k' = k := knd.inj _ _ _ hkey' hkey
      have hmx : (merged kvs (more.take x)).length ≤ sizeLine := by
        have e1 := merged_length_le kvs (more.take x)
        have e2 : (more.take x).length ≤ more.length := by rw [List.length_take]; omega
        omega
      refine wpAny_bind (wpAny_holding ?_)
      rw [if_neg (by decide), hhash, hval]
      refine wpAny_dictPut_pairs (hsz := hmx) hkey hd' fun h'' hd'' hs'' => ?_
      have hoo'' : h''.get? o = some oo := (hs''.2 o (Ne.symm hdo)).trans hoo'
      refine wpAny_bind (wpAny_dictEpoch hoo'' hdo' ?_)
      rw [if_neg (by simp)]
      exact wpAny_pure ⟨h'', x + 1, rfl, hrest, hlt, by rw [merged_take_succ kvs more x (k', v) hkv]; exact hd'', hoo'', hs'.trans hs''⟩
    · rintro b s' ⟨h', i, rfl, hr, hi, hd', hoo', hs'⟩
      have hin : i = eso.size := by
        rcases Nat.lt_or_ge i eso.size with h | h
        · have e : eso.size - i = (eso.size - (i + 1)) + 1 := by omega
          rw [e, List.range'_succ] at hr; exact nomatch hr
        · exact Nat.le_antisymm hi h
      refine wpAny_pure (hQ h' ?_ ⟨oo, eso, epo, hoo', hco, hdo', hko, hpo, hno⟩ hs')
      rw [hin, ← hlen, List.take_length] at hd'; exact hd'
  refine wpAny_bind (wpAny_dictEntries hod hdd ?_)
  split
  · refine wpAny_bind (wpAny_dictEntries hoo hdo' ?_)
    refine wpAny_bind ?_
    rw [← Array.forIn_toList]
    refine wpAny_forIn_list _ (fun rest _ s' => s' = s ∧ ∀ e ∈ rest, e ∈ eso) _ ?_ ?_ _ _ ⟨rfl, fun e he => by simpa using he⟩
    · rintro x rest b s' ⟨rfl, hr⟩
      obtain ⟨k, hk, _⟩ := hko x (hr x List.mem_cons_self)
      have hx : ∀ a, x.key ≠ .ref a := fun a e => by rw [e, hnr] at hk; exact nomatch hk
      cases hkey : x.key with
      | ref a => exact absurd hkey (hx a)
      | _ => exact wpAny_pure ⟨rfl, fun e he => hr e (List.mem_cons_of_mem _ he)⟩
    · rintro b s' ⟨rfl, _⟩
      exact loop
  · exact loop
end
end PySem
namespace VL
open PySem PySem.Spec PyProof.Rows L2
/-- {**e, k: v} -/
def tStar (te tk tv : TE) : TE := fun σ H Q => ∀ p, H p = none → te σ (upd H p (.dK [])) fun x H1 => ∃ (a : Addr) (ks : List (Key × V)), x = .ref a ∧ a ≠ p ∧ H1 a = some (.dK ks) ∧ H1 p = some (.dK []) ∧ ks.length ≤ 1000 ∧
  ∀ q, (upd H1 p (.dK (mergeK [] ks))) q = none → tk σ (upd (upd H1 p (.dK (mergeK [] ks))) q (.dK [])) fun y H2 => tv σ H2 fun z H3 => ∃ (k : Key) (ks1 : List (Key × V)), y = kV k ∧ H3 q = some (.dK []) ∧ H3 p = some (.dK ks1) ∧ ks1.length ≤ 1000 ∧
    Q (.ref p) (upd (upd H3 q (.dK [(k, z)])) p (.dK (putK ks1 k z)))
theorem mix_ref (P : Program) (w : World) : ∀ (k : Key) (a : Addr), (mixKind P w).is k (.ref a) = false := fun k a => by
  cases e : (mixKind P w).is k (.ref a) with
  | false => rfl
  | true => rcases keyIs_shape e with ⟨i, t, _, h⟩ | ⟨x, t, _, h⟩ <;> exact nomatch h
theorem pe_star {X : Cx} {pos : Pos} {e k v : Expr} {te tk tv : TE} (he : PE X e te) (hk : PE X k tk) (hv : PE X v tv) : PE X (.Dict [none, some k] [e, v] pos) (tStar te tk tv) := by
  refine ⟨fun pins s σ H Q I h => ?_⟩
  have hn := I.hok.fresh (Nat.le_refl s.heap.objs.size)
  have I1 := I.laid (a := s.heap.objs.size) (o := .dK []) (h' := s.heap.push { cls := .type "dict", data := .dict #[] }) (t' := s.toks) (fun _ _ q => Heap.get?_push_of_some _ q) (Nat.le_refl _) (dk_empty s.heap I.big)
  rw [arm_eval_Dict]
  refine wpAny_bind (wpAny_standAt ?_)
  show wpAny _ _ (dictDisplay [(none, do let x ← eval e X.env; standAt pos; pure x), (some (eval k X.env), do let x ← eval v X.env; standAt pos; pure x)]) _ _ _
  unfold dictDisplay
  dsimp only
  rw [List.forIn_cons]
  dsimp only
  refine wpAny_bind (wpAny_bind (wpAny_bind ?_))
  rw [if_pos (show ([] : List (Sem Value × Sem Value)).isEmpty = true from rfl)]
  refine wpAny_pure ?_
  dsimp only
  refine wpAny_bind (wpAny_alloc ?_)
  refine wpAny_bind (wpAny_holding (wpAny_bind (thn (he.run pins _ σ _ _ I1 (h _ hn)) fun u s1 ⟨x, H1, I2, rx, a, ks, ex, hap, ha, hp, hl, q1⟩ => ?_)))
  subst ex
  obtain rfl : u = Value.ref a := rx
  refine wpAny_bind (wpAny_standAt (wpAny_pure ?_))
  obtain ⟨_, hsP, vp, rp, dp⟩ := dk_of I2.hok hp
  obtain ⟨_, hsA, va, ra, da⟩ := dk_of I2.hok ha
  cases rp
  have la : va.length ≤ 1000 := by rw [← ra.length]; exact hl
  refine wpAny_bind (wpAny_onRaise (wpAny_tryCatch (wpAny_onRaise (wpAny_holding (wpAny_mergeMapping (mix_ref X.prog X.w) (Ne.symm hap) hsA dp da (fun h' dd' oo' hs => ?_) (by rw [sizeLine_eq, List.length_nil]; omega))))))
  refine wpAny_pure ?_
  have hm1 : (mergeK [] ks).length ≤ sizeLine := by
    have := length_mergeK ks []
    rw [List.length_nil] at this
    rw [sizeLine_eq]; omega
  have I3 : Inv X pins σ (upd H1 s.heap.objs.size (.dK (mergeK [] ks))) { s1 with heap := h' } := by
    have hex : ∃ q, h'.get? s.heap.objs.size = some q := let ⟨q, _, _, hq, _⟩ := dd'; ⟨q, hq⟩
    exact d_write (t' := s1.toks) I2 (by rw [hp]; exact True.intro) hs hex (dk_new hm1 hsP (KV.merge ra .nil) dd')
  dsimp only
  rw [List.forIn_cons]
  dsimp only
  rw [if_neg (by simp)]
  refine wpAny_bind (wpAny_bind (wpAny_pure ?_))
  refine wpAny_pure ?_
  dsimp only
  rw [List.forIn_nil]
  refine wpAny_pure ?_
  dsimp only
  rw [if_neg (by simp)]
  have hn2 := I3.hok.fresh (Nat.le_refl h'.objs.size)
  have I4 := I3.laid (a := h'.objs.size) (o := .dK []) (h' := h'.push { cls := .type "dict", data := .dict #[] }) (t' := s1.toks) (fun _ _ q => Heap.get?_push_of_some _ q) (Nat.le_refl _) (dk_empty h' I3.big)
  refine wpAny_bind (wpAny_bind (wpAny_holding (wpAny_subDict (knd := mixKind X.prog X.w) (by simp) ?_)))
  refine wpAny_mono ((pps_cons (pos := pos) hk hv pps_nil).run pins _ σ _ (fun ps H3 => match ps with
    | [(y, z)] => ∃ (kk : Key) (ks1 : List (Key × V)), y = kV kk ∧ H3 h'.objs.size = some (.dK []) ∧ H3 s.heap.objs.size = some (.dK ks1) ∧ ks1.length ≤ 1000 ∧
        Q (.ref s.heap.objs.size) (upd (upd H3 h'.objs.size (.dK [(kk, z)])) s.heap.objs.size (.dK (putK ks1 kk z)))
    | _ => False) I4 (q1 _ hn2)) (fun ws s3 ⟨ps, H3, I5, rel, q3⟩ => ?_) fun _ _ e => e
  match ps, rel, q3 with
  | [(y, z)], rel, ⟨kk, ks1, ey, hq3, hp3, hl3, q3⟩ =>
    subst ey
    obtain ⟨rs, c, rk⟩ := carries_of (P := X.prog) (w := X.w) (kvs := [(kk, z)]) rel
    obtain ⟨_, hsQ, vq, rq, dq⟩ := dk_of I5.hok hq3
    cases rq
    refine ⟨rs, c, dq, fun h2 dd2 hs2 => ?_⟩
    have hex2 : ∃ q, h2.get? h'.objs.size = some q := let ⟨q, _, _, hq, _⟩ := dd2; ⟨q, hq⟩
    have I6 := d_write (t' := s3.toks + ws.length) I5 (by rw [hq3]; exact True.intro) hs2 hex2 (dk_new (kvs := mergeK [] [(kk, z)]) (by show 1 ≤ sizeLine; decide) hsQ (KV.merge rk .nil) dd2)
    have eM : mergeK [] [(kk, z)] = [(kk, z)] := rfl
    rw [eM] at I6
    have hne : s.heap.objs.size ≠ h'.objs.size := fun e => by
      rw [← e, upd_same] at hn2
      exact nomatch hn2
    have hp4 : upd H3 h'.objs.size (.dK [(kk, z)]) s.heap.objs.size = some (.dK ks1) := by rw [upd_ne hne]; exact hp3
    have hq4 : upd H3 h'.objs.size (.dK [(kk, z)]) h'.objs.size = some (.dK [(kk, z)]) := upd_same
    obtain ⟨_, _, v1, r1, d1⟩ := dk_of I6.hok hp4
    obtain ⟨_, _, v2, r2, d2⟩ := dk_of I6.hok hq4
    have l1 : v1.length ≤ 1000 := by rw [← r1.length]; exact hl3
    have l2 : v2.length = 1 := by rw [← r2.length]; rfl
    refine wpAny_bind (wpAny_onRaise (wpAny_holding (wpAny_mergeMapping (mix_ref X.prog X.w) hne hsQ d1 d2 (fun h3 dd3 oo3 hs3 => ?_) (by rw [sizeLine_eq]; omega))))
    refine wpAny_pure ?_
    have hex3 : ∃ q, h3.get? s.heap.objs.size = some q := let ⟨q, _, _, hq, _⟩ := dd3; ⟨q, hq⟩
    have hm3 : (mergeK ks1 [(kk, z)]).length ≤ sizeLine := by
      have := length_mergeK [(kk, z)] ks1
      have e1 : [(kk, z)].length = 1 := rfl
      rw [sizeLine_eq]; omega
    have I7 := d_write (t' := s3.toks + ws.length) I6 (by rw [hp4]; exact True.intro) hs3 hex3 (dk_new hm3 hsP (KV.merge r2 r1) dd3)
    exact wpAny_pure ⟨.ref s.heap.objs.size, _, I7, rfl, q3⟩
  | [], _, q3 => exact q3.elim
  | _ :: _ :: _, _, q3 => exact q3.elim
/-- a local name that holds one of the text's defs, called -/
def tCallT (P : Program) (w : World) (K : PySem.W.Frag) (mg : Str → Option Value) (base : Heap) (j i : Nat) (t : TA) : TE := fun σ H Q => ∃ (x : Str) (k : Nat) (sp : Sp) (f : Addr), k ≤ j ∧ Cal P w K mg base k x sp ∧ mg x = some (.ref f) ∧
  σ[i]? = some (some (.ref f)) ∧ t σ H fun vs H1 => sp vs H1 Q E0
section
variable {X : Cx} {j i : Nat} {x : Str} {p pos : Pos} {e : Expr} {es : List Expr} {t : TA}
theorem pe_callT (hr : Room j X.A) (hN : X.N[i]? = some x) (hv : Vis X.env.scope x) (ha : PA X (e :: es) t)
    (hd : (x == ("__debug__" : Str)) = false := by decide) (hcd : (x == ("__classdict__" : Str)) = false := by decide)
    (he : starEach (e :: es) X.env = (false, eval e X.env) :: starEach es X.env := by rfl) (hpl : (backTo pos (starEach es X.env)).any (·.1) = false := by rfl) :
    PE X (.Call (.Name x p) (e :: es) [] pos) (tCallT X.prog X.w X.K X.mg X.base j i t) := by
  refine ⟨fun pins s σ H Q I h => ?_⟩
  obtain ⟨y, k, sp, f, hk, c, hm, hs, ht⟩ := h
  obtain ⟨f2, fd, ps, F, hm2, kp, b⟩ := c.ex
  obtain rfl : f = f2 := by
    rw [hm] at hm2
    injection hm2 with e1
    injection e1
  refine wpAny_Call_Name_kw (thn ((pe_var (pos := p) hN hv hd hcd).run pins s σ H (fun v H1 => v = .ref f ∧ H1 = H) I ⟨.ref f, hs, rfl, rfl⟩) fun u s1 ⟨v, H1, I1, r1, q1⟩ => ?_)
  obtain ⟨rfl, rfl⟩ := q1
  cases r1
  refine PySem.W.callWith_K (h₀ := X.base) I.ok.mod.kin kp (thn (ha.run pos pins s1 σ _ _ I1 ht) fun us s2 ⟨vs, H2, I2, r, q⟩ => ⟨I2.kIn, ?_⟩) he hpl
  exact run_fn F (hr.mono hk) b .nil pass0 I2 r (by rw [List.append_nil]; exact q)
end
/-- an entry of a dict of the module that holds a def -/
def EntT (K : PySem.W.Frag) (w : World) (mg : Str → Option Value) (a : Addr) (key x : Str) : Prop := ∃ f, mg x = some (.ref f) ∧ KDct K w a key (.ref f)
end VL

set_option Elab.async false
set_option linter.all false
set_option maxRecDepth 100000
set_option maxHeartbeats 4000000
/-! dict(pairs) of a tuple of pairs; tuple(list) whose answer is known to have no dict -/
namespace VL
open PySem PySem.Spec PyProof.Rows L2
variable {X : Cx}
/-- tuple(list): the new tuple stands as a raw object -/
theorem call_tupleF : CallR X (.type "tuple") (fun xs H Q => ∃ p ys, xs = [.ref p] ∧ SqL X.K H p ys ∧ ∀ l o, H l = none → o.dict = none → Q (.ref l) (upd H l (.frz o (.tup ys)))) := by
  intro pins s σ H xs us Q I r h
  obtain ⟨p, ys, rfl, hq, q⟩ := h
  obtain ⟨u, rfl, rx⟩ := vals1 r
  cases rx
  obtain ⟨its, r', pl, hz⟩ := I.list hq
  have hlen := r'.length
  refine call_tuple_list pl.isList (fun h' kp => ?_) (by simp only [List.size_toArray] <;> omega)
  have I1 : Inv X pins σ H { s with heap := h' } := I.kept (t' := s.toks) kp
  have I2 : Inv X pins σ (upd H h'.objs.size (.frz { cls := .type "tuple", data := .seq its.toArray } (.tup ys))) { s with heap := h'.push { cls := .type "tuple", data := .seq its.toArray } } :=
    I1.laid (t' := s.toks) (fun b o e => Heap.get?_push_of_some _ e) (Nat.le_refl _) (show ObjOk X.prog X.w _ _ _ (.frz _ (.tup ys)) from ⟨Heap.get?_push_size _ rfl, hz, its, r', IsTup.new _ _⟩)
  exact ⟨.ref h'.objs.size, _, I2, rfl, q _ _ (I1.hok.fresh (Nat.le_refl _)) rfl⟩
theorem pairs_ofU {pins : List (Addr × Obj)} {σ : L2.St} {H : Hp} {s : Shared} (I : Inv X pins σ H s) : ∀ {ps : List Addr} {kvs : List (Key × V)}, Paired (fun p kv => SqT X.K H p [kV kv.1, kv.2]) ps kvs →
    ∃ (prs : List (Key × Value)) (us : List (Value × Value)), KV kvs prs ∧ prs.length = ps.length ∧ us.length = ps.length ∧ ∀ (j : Nat) (k v : Value), us[j]? = some (k, v) → ∃ (b : Addr) (key : Key), ps[j]? = some b ∧ IsTup s.heap b #[k, v] ∧ prs[j]? = some (key, v) ∧ keyIs key k = true
  | _, _, .nil => ⟨[], [], .nil, rfl, rfl, fun j k v e => by simp at e⟩
  | _, _, .cons (a := p) (b := kv) h t => by
    obtain ⟨prs, us, r, hl, hu, hp⟩ := pairs_ofU I t
    obtain ⟨its, rv, ht, _⟩ := I.tuple h
    obtain ⟨u, y, ei, ru, ry⟩ := vals2 rv
    subst ei
    refine ⟨(kv.1, y) :: prs, (u, y) :: us, .cons ⟨rfl, ry⟩ r, by rw [List.length_cons, List.length_cons, hl], by rw [List.length_cons, List.length_cons, hu], fun j k v e => ?_⟩
    cases j with
    | zero =>
      have e' : (u, y) = (k, v) := Option.some.inj e
      cases e'
      exact ⟨p, kv.1, rfl, ht, rfl, kV_is (P := X.prog) (w := X.w) ru⟩
    | succ j =>
      obtain ⟨b, key, e1, e2, e3, e4⟩ := hp j k v (by simpa using e)
      exact ⟨b, key, by simpa using e1, e2, by simpa using e3, e4⟩
/-- dict(xs) of a tuple of pairs (key, value), the tuple's raw object being known -/
theorem call_dictT (hcalm : X.calm = true) : CallR X (.type "dict") (fun xs H Q => ∃ (a : Addr) (o : Obj) (ps : List Addr) (kvs : List (Key × V)), xs = [.ref a] ∧ H a = some (.frz o (.tup (ps.map V.ref))) ∧ o.dict = none ∧ Paired (fun p kv => SqT X.K H p [kV kv.1, kv.2]) ps kvs ∧
    ∀ p, H p = none → Q (.ref p) (upd H p (.dK (mergeK [] kvs)))) := by
  intro pins s σ H xs us Q I r q
  obtain ⟨a, o, ps, kvs, ex, hq, hod, hp, q⟩ := q
  subst ex
  obtain ⟨u, eu, rx⟩ := vals1 r
  subst eu
  cases rx
  obtain ⟨ho, hz, its, rv, o', ho', hc, n, hdat⟩ := (show ObjOk X.prog X.w H s.heap a (.frz o (.tup (ps.map V.ref))) from I.hok a _ hq)
  rw [ho] at ho'
  cases ho'
  have ei := refs_at rv
  subst ei
  rw [List.length_map] at hz
  obtain ⟨prs, us, rel, hl, hul, hpr⟩ := pairs_ofU I hp
  have hps : PairItems s.heap (ps.map Value.ref).toArray (fun j => ps[j]?.getD 0) us := by
    refine ⟨by simp [hul], fun j k v e => ?_⟩
    obtain ⟨b, key, e1, e2, e3, e4⟩ := hpr j k v e
    obtain ⟨o2, h2, h3, n2, h4⟩ := id e2
    exact ⟨by simp [e1], by simp only [e1, Option.getD_some]; exact .inl ⟨o2, h2, h3, n2, h4⟩⟩
  have hseq : PlainSeq "tuple" s.heap a (ps.map Value.ref).toArray := ⟨o, n, ho, hc, hod, hdat⟩
  refine PySem.call_dict_pairs (knd := mixKind X.prog X.w) (kvs := prs) (PairArg.tuple a _ _ us) (I.ok.hd hcalm) ⟨hseq, hps⟩ ⟨by rw [hl, hul], fun i key v e => ?_⟩ (by rw [hul]; exact hz) fun h' tk hd' k => ?_
  · obtain ⟨b, kk, e1, e2, e3, e4⟩ := hpr i key v e
    exact ⟨kk, e3, e4⟩
  · have hm : (s.heap.objs.size == sysModules) = false := beq_eq_false_iff_ne.mpr (Nat.ne_of_gt I.big)
    have hlen : (mergeK [] kvs).length ≤ sizeLine := by
      refine Nat.le_trans (length_mergeK kvs []) ?_
      rw [List.length_nil, Nat.zero_add, rel.length, hl]
      exact hz
    exact ⟨.ref s.heap.objs.size, upd H s.heap.objs.size (.dK (mergeK [] kvs)), I.laid (t' := tk) (fun b o e => k b o (fun z => nomatch z) e) (Nat.le_refl _) (show ObjOk X.prog X.w _ _ _ (.dK (mergeK [] kvs)) from ⟨hlen, hm, merged [] prs, KV.merge rel .nil, hd'⟩), rfl, q _ (I.hok.fresh (Nat.le_refl _))⟩
end VL

set_option Elab.async false
set_option linter.all false
set_option maxRecDepth 100000
set_option maxHeartbeats 4000000
/-! sorted of tuples (text, text); sorted(d.items()) of a dict of texts -/
namespace S2S
open PySem PyProof.Rows Srt SrtO
abbrev Pss := Str × Str
def ltL (x y : Str) : Bool := decide (x.cps.toList < y.cps.toList)
theorem ltL_asym {x y : Str} (h : ltL x y = true) : ltL y x = false := decide_eq_false fun z => List.lt_asymm (of_decide_eq_true h) z
theorem ltL_irr {x : Str} : ltL x x = false := decide_eq_false fun z => List.lt_irrefl _ z
theorem ltL_le {x y : Str} (h : ltL y x = false) : x.cps.toList ≤ y.cps.toList := List.not_lt.mp (of_decide_eq_false h)
theorem ltL_tr {x y z : Str} (h1 : ltL y x = false) (h2 : ltL z y = false) : ltL z x = false := decide_eq_false fun h => absurd h (List.not_lt.mpr (List.le_trans (ltL_le h1) (ltL_le h2)))
theorem ltL_anti {x y : Str} (h1 : ltL x y = false) (h2 : ltL y x = false) : x = y := by
  have e : x.cps.toList = y.cps.toList := List.le_antisymm (ltL_le h2) (ltL_le h1)
  obtain ⟨a⟩ := x
  obtain ⟨b⟩ := y
  obtain ⟨a⟩ := a
  obtain ⟨b⟩ := b
  have e : a = b := e
  rw [e]
def ltSS (p q : Pss) : Bool := if p.1 = q.1 then ltL p.2 q.2 else ltL p.1 q.1
theorem ltSS_anti {p q : Pss} (h1 : ltSS p q = false) (h2 : ltSS q p = false) : p = q := by
  unfold ltSS at h1 h2
  by_cases e : p.1 = q.1
  · rw [if_pos e] at h1
    rw [if_pos e.symm] at h2
    exact Prod.ext e (ltL_anti h1 h2)
  · rw [if_neg e] at h1
    rw [if_neg (fun z => e z.symm)] at h2
    exact absurd (ltL_anti h1 h2) e
theorem swo_SS {α : Type} (k : α → Pss) : Swo fun v u => ltSS (k v) (k u) := by
  refine ⟨fun x y h => ?_, fun x y z h1 h2 => ?_⟩
  · unfold ltSS at h ⊢
    by_cases e : (k x).1 = (k y).1
    · rw [if_pos e] at h
      rw [if_pos e.symm]
      exact ltL_asym h
    · rw [if_neg e] at h
      rw [if_neg (fun z => e z.symm)]
      exact ltL_asym h
  · unfold ltSS at h1 h2 ⊢
    by_cases e1 : (k y).1 = (k x).1
    · rw [if_pos e1] at h1
      by_cases e2 : (k z).1 = (k y).1
      · rw [if_pos e2] at h2
        rw [if_pos (e2.trans e1)]
        exact ltL_tr h1 h2
      · rw [if_neg e2] at h2
        rw [if_neg (fun q => e2 (q.trans e1.symm)), ← e1]
        exact h2
    · rw [if_neg e1] at h1
      by_cases e2 : (k z).1 = (k y).1
      · rw [if_neg (fun q => e1 (e2.symm.trans q)), e2]
        exact h1
      · rw [if_neg e2] at h2
        by_cases e3 : (k z).1 = (k x).1
        · rw [e3] at h2
          exact absurd (ltL_anti h1 h2) e1
        · rw [if_neg e3]
          exact ltL_tr h1 h2
/-- there is one sorted list of the same things -/
theorem one {α : Type} {lt : α → α → Bool} (anti : ∀ x y, lt x y = false → lt y x = false → x = y) : ∀ {l m : List α}, Srtd lt l → Srtd lt m → l.Perm m → l = m
  | [], m, _, _, h => h.nil_eq
  | x :: l, [], _, _, h => absurd h.length_eq (by simp)
  | x :: l, y :: m, hl, hm, h => by
    have hl' := List.pairwise_cons.mp hl
    have hm' := List.pairwise_cons.mp hm
    have e : x = y := by
      rcases List.mem_cons.mp (h.mem_iff.mp (List.mem_cons_self (a := x) (l := l))) with e | hx
      · exact e
      · rcases List.mem_cons.mp (h.mem_iff.mpr (List.mem_cons_self (a := y) (l := m))) with e | hy
        · exact e.symm
        · exact anti _ _ (hm'.1 _ hx) (hl'.1 _ hy)
    subst e
    rw [one anti hl'.2 hm'.2 h.cons_inv]
def IsPS (h : Heap) (v : Value) (k : Pss) : Prop := ∃ a o t u n, v = .ref a ∧ h.get? a = some o ∧ o.cls = .type "tuple" ∧ o.data = .seq #[.str k.1 t, .str k.2 u] n
theorem IsPS.keeps {h h' : Heap} {v : Value} {k : Pss} (p : IsPS h v k) (kp : ∀ b o, h.get? b = some o → o.cls = .type "tuple" → h'.get? b = some o) : IsPS h' v k := by
  obtain ⟨a, o, t, u, n, e, ho, hc, hd⟩ := p
  exact ⟨a, o, t, u, n, e, kp _ _ ho hc, hc, hd⟩
section
variable {prog : Program} {w : World} {A : Around} {E : Value → Shared → Prop} {s : Shared}
theorem ps_cmp {vs : List Value} {k : Value → Pss} (hp : ∀ v ∈ vs, IsPS s.heap v (k v)) : Cmp prog w A s (tuples' true) (fun p => p.1 ∈ vs) (lt2 fun v u => ltSS (k v) (k u)) := by
  intro p q hm hm'
  have h1 := hp _ hm
  have h2 := hp _ hm'
  show wpAny (model prog w) A (keyLt' (tuples' true) p.1 q.1) (fun r s' => s' = s ∧ r = ltSS (k p.1) (k q.1)) (fun _ _ => False) s
  unfold ltSS
  generalize k p.1 = K1 at h1 ⊢
  generalize k q.1 = K2 at h2 ⊢
  obtain ⟨x, y⟩ := K1
  obtain ⟨x', y'⟩ := K2
  obtain ⟨a, o, t, u, n, e, ho, hc, hd⟩ := h1
  obtain ⟨a', o', t', u', n', e', ho', hc', hd'⟩ := h2
  rw [e, e']
  refine PySem.W.kat_lt ho hd ho' hd' ?_
  show PySem.W.KatLex prog w A true (decide (2 < 2)) _ [(.str x t, .str x' t'), (.str y u, .str y' u')] 0 s
  dsimp only
  refine PySem.W.kat_cons (SeqAt.EqAt.str_str x t x' t' prog w _ _ ?_)
  refine PySem.W.kat_go (fun e1 => ?_) (fun e1 => ?_)
  · have ex : x = x' := by simpa using e1
    rw [if_pos ex]
    refine PySem.W.kat_yes (PySem.W.kat_cons (SeqAt.EqAt.str_str y u y' u' prog w _ _ ?_))
    refine PySem.W.kat_go (fun e2 => ?_) (fun e2 => ?_)
    · have ey : y = y' := by simpa using e2
      refine PySem.W.kat_yes (PySem.W.kat_nil ?_)
      exact ⟨rfl, by rw [ey]; exact ltL_irr.symm⟩
    · refine PySem.W.kat_no (PySem.W.kat_one _ _ (PyProof.Rows.lt_str ?_))
      exact (show s = s ∧ decide (y.cps.toList < y'.cps.toList) = ltL y y' from ⟨rfl, rfl⟩)
  · have ex : ¬ x = x' := by simpa using e1
    rw [if_neg ex]
    exact PySem.W.kat_no (PyProof.Rows.oneLt_any_str ⟨rfl, rfl⟩)
theorem firstsS {h : Heap} : ∀ {vs : List Value}, (∀ v ∈ vs, ∃ k, IsPS h v k) → ∃ fs : List Value, PySem.W.KatTups h vs fs ∧ fs.length = vs.length ∧ ∀ f ∈ fs, ∃ x t, f = Value.str x t
  | [], _ => ⟨[], PySem.W.KatTups.nil, rfl, fun _ hm => by simp at hm⟩
  | v :: vs, hp => by
    obtain ⟨fs, h1, h2, h3⟩ := firstsS (vs := vs) fun v' hm => hp v' (List.mem_cons_of_mem _ hm)
    obtain ⟨k, a, o, t, u, n, e, ho, hc, hd⟩ := hp v (List.mem_cons_self ..)
    subst e
    refine ⟨.str k.1 t :: fs, PySem.W.KatTups.cons ho hc hd rfl h1, by rw [List.length_cons, List.length_cons, h2], fun f hm => ?_⟩
    rcases List.mem_cons.mp hm with rfl | hm
    · exact ⟨k.1, t, rfl⟩
    · exact h3 f hm
theorem ps_sortable {a : Addr} {vs : List Value} {k : Value → Pss} (h0 : 0 < vs.length) (hp : ∀ v ∈ vs, IsPS s.heap v (k v)) (ha : ∀ o, s.heap.get? a = some o → o.cls ≠ .type "tuple") : SortableO prog w A s a vs fun v u => ltSS (k v) (k u) := by
  intro h' keep
  have hp' : ∀ v ∈ vs, IsPS h' v (k v) := fun v hm => (hp v hm).keeps fun b o e c => keep b o (fun z => by subst z; exact ha o e c) e
  obtain ⟨fs, h1, h2, h3⟩ := firstsS fun v hm => ⟨_, hp' v hm⟩
  refine ⟨tuples' true, fun Q E hq => ?_, ps_cmp hp'⟩
  refine PySem.W.kat_kind (T := .type "str") h1 (by omega) (fun f hm => ?_) (by rfl) ?_
  · obtain ⟨x, t, rfl⟩ := h3 f hm
    exact PySem.W.Looks.now
  · have e : (Value.type "str" != Value.type "tuple") = true := by first | decide +kernel | rfl | decide
    rw [e]
    exact hq
theorem not_tup {a : Addr} {vs : Array Value} {h : Heap} {n : Nat} (ha : h.get? a = some (seqObj "list" vs n)) : ∀ o, h.get? a = some o → o.cls ≠ .type "tuple" := fun o e => by
  have e' : some o = some (seqObj "list" vs n) := e.symm.trans ha
  cases e'
  intro c
  exact absurd (Value.type.inj c) (by decide)
theorem sorted_ps {l : Addr} {vs : List Value} {k : Value → Pss} {Q : Value → Shared → Prop} (hl : s.heap.IsList l vs.toArray) (hz : vs.length ≤ sizeLine) (hp : ∀ v ∈ vs, IsPS s.heap v (k v))
    (h : ∀ (h' : Heap) (d : Addr) (out : List Value), Srtd (fun v u => ltSS (k v) (k u)) out → Stb (fun v u => ltSS (k v) (k u)) out vs → (∀ b o, s.heap.get? b = some o → h'.get? b = some o) → s.heap.objs.size ≤ d → (∃ n, h'.get? d = some (seqObj "list" out.toArray n)) → Q (.ref d) { s with heap := h' }) :
    wpAny (model prog w) A (call (.builtin "sorted") [.ref l]) Q E s := by
  refine sorted_ord (swo_SS k) hl hz (fun h2 h₁ a ha kk => ?_) fun out hs hb => ?_
  · exact ps_sortable (s := { s with heap := h₁ }) (by omega) (fun v hm => (hp v hm).keeps fun b o e _ => (kk b o e).2) (not_tup ha)
  · exact h _ _ out hs hb (fun b o e => sortedAll_old e) (Nat.le_succ _) (sortedAll_at s.heap vs out.toArray)
end
end S2S
namespace VL
open PySem PySem.Spec PyProof.Rows L2 S2S
abbrev ltVS (k : V → Pss) (x y : V) : Bool := ltSS (k x) (k y)
/-- sorted(xs), xs a list of tuples (text, text) -/
def rSortedSS (K : PySem.W.Frag) : List V → Hp → VK → Prop := fun vs H Q => ∃ (a : Addr) (xs : List V) (k : V → Pss), vs = [V.ref a] ∧ SqL K H a xs ∧ (∀ x ∈ xs, ∃ t, x = V.ref t ∧ H t = some (.tup [.str (k x).1, .str (k x).2])) ∧
  ∀ ys p, SrtO.Srtd (ltVS k) ys → ys.Perm xs → H p = none → Q (.ref p) (upd H p (.lst ys))
section
variable {X : Cx}
theorem ps_of {P : Program} {w : World} {H : Hp} {h : Heap} (ok : HOk P w H h) {t : Addr} {k : Pss} (ht : H t = some (.tup [.str k.1, .str k.2])) : IsPS h (.ref t) k := by
  obtain ⟨_, its2, r2, o, ho, hc, n, hd⟩ := ok _ _ ht
  obtain ⟨u1, u2, rfl, ri, rj⟩ := vals2 r2
  obtain ⟨t1, rfl⟩ := ri
  obtain ⟨t2, rfl⟩ := rj
  exact ⟨t, o, t1, t2, n, rfl, ho, hc, hd⟩
theorem cr_sortedSS : CallR X (.builtin "sorted") (rSortedSS X.K) := by
  intro pins s σ H vs us Q I r h
  obtain ⟨a, xs, k, rfl, hs, hx, q⟩ := h
  obtain ⟨its, rv, hl, hz⟩ := I.list hs
  obtain ⟨u, rfl, ru⟩ := vals1 r
  obtain rfl : u = Value.ref a := ru
  obtain ⟨e1, e2⟩ := refs_back rv fun x m => by
    obtain ⟨t, e, _⟩ := hx x m
    exact ⟨t, e⟩
  refine sorted_ps (k := fun u => k (backV u)) hl.isList (by rw [← rv.length]; exact hz) (fun v hv => ?_) fun h' d out h1 h2 kp hd hn => ?_
  · obtain ⟨t, rfl⟩ := e2 v hv
    have hm : V.ref t ∈ xs := by rw [e1]; exact List.mem_map.mpr ⟨_, hv, rfl⟩
    obtain ⟨t', e, ht⟩ := hx _ hm
    cases e
    exact ps_of I.hok ht
  · have h3 : ∀ u ∈ out, ∃ a, u = Value.ref a := fun u hu => e2 u (h2.perm.mem_iff.mp hu)
    obtain ⟨n, hn⟩ := hn
    have hb : (out.map backV).Perm xs := by
      rw [e1]
      exact h2.perm.map backV
    refine ⟨.ref d, upd H d (.lst (out.map backV)), I.laid (t' := s.toks) kp hd ⟨?_, out, n, vals_back h3, hn⟩, rfl, q _ d (SrtO.srtd_map h1) hb (I.hok.fresh hd)⟩
    rw [hb.length_eq]
    exact hz
def entS (e : Pss) : L2.Key × V := (Sum.inr e.1, V.str e.2)
def rItemsK : V → List V → Hp → VK → Prop := fun x xs H Q => ∃ (a : Addr) (kvs : List (L2.Key × V)), x = .ref a ∧ xs = [] ∧ H a = some (.dK kvs) ∧ ∀ p, H p = none → Q (.ref p) (upd H p (DX.itemsO p a))
theorem mt_itemsK : MtR X "dict.items" rItemsK := by
  intro pins s σ H x xs v us Q I rx rxs h
  obtain ⟨a, kvs, rfl, rfl, ha, q⟩ := h
  cases rx
  cases rxs
  obtain ⟨z, hd, xs', rel, o, es, ep, ho, hx, hdat, _⟩ := dk_of I.hok ha
  refine DT.callItems (es := es) (ep := ep) hd ⟨o, ho, hx, hdat⟩ ?_
  have hf : H s.heap.objs.size = none := I.hok.fresh (Nat.le_refl _)
  exact ⟨.ref s.heap.objs.size, upd H s.heap.objs.size (DX.itemsO s.heap.objs.size a), I.laid (t' := s.toks) (fun b u e => Heap.get?_push_of_some _ e) (Nat.le_refl _) (DX.itemsO_ok (Heap.get?_push_size _ rfl)), rfl, q _ hf⟩
theorem pairs_at {K : Type} [DecidableEq K] {prog : Program} {w : World} {knd : KeyKind prog w K} : ∀ {es : List DictEntry} {kvs : List (K × Value)}, Pairs knd es kvs → ∀ {j : Nat} {e : DictEntry}, es[j]? = some e → ∃ kv, kvs[j]? = some kv ∧ knd.is kv.1 e.key = true ∧ e.val = kv.2
  | _, _, .nil, j, e, h => by cases h
  | _, _, .cons h1 h2 t, 0, e, h => by
    have e' := Option.some.inj h
    subst e'
    exact ⟨_, rfl, h1, h2⟩
  | _, _, .cons _ _ t, j + 1, e, h => pairs_at t h
/-- sorted(d.items()), d a dict of texts -/
def rSortIS : List V → Hp → VK → Prop := fun vs H Q => ∃ (p a : Addr) (as : List Pss), vs = [.ref p] ∧ H p = some (DX.itemsO p a) ∧ H a = some (.dK (as.map entS)) ∧
  ∀ (H' : Hp) (l : Addr) (ps : List (Addr × Pss)), (∀ b o, H b = some o → H' b = some o) → H l = none → (∀ z ∈ ps, H z.1 = none) → (ps.map (·.2)).Perm as → SrtO.Srtd ltSS (ps.map (·.2)) → H' l = some (.lst (ps.map fun z => V.ref z.1)) →
    (∀ z ∈ ps, H' z.1 = some (.tup [.str z.2.1, .str z.2.2])) → Q (.ref l) H'
def keyPS (h : Heap) : Value → Pss
  | .ref a => (match h.get? a with
    | some o => (match o.data with
      | .seq xs _ => (match xs.toList with
        | [.str x _, .str y _] => (x, y)
        | _ => (⟨#[]⟩, ⟨#[]⟩))
      | _ => (⟨#[]⟩, ⟨#[]⟩))
    | none => (⟨#[]⟩, ⟨#[]⟩))
  | _ => (⟨#[]⟩, ⟨#[]⟩)
theorem keyPS_of {h : Heap} {v : Value} {k : Pss} (x : IsPS h v k) : keyPS h v = k := by
  obtain ⟨a, o, t, u, n, rfl, ho, hc, hd⟩ := x
  simp only [keyPS, ho, hd]
def adOf : Value → Addr
  | .ref a => a
  | _ => 0
theorem cr_sortedIS (hc : X.calm = true) : CallR X (.builtin "sorted") rSortIS := by
  intro pins s σ H vs us Q I r h
  obtain ⟨p, a, as0, rfl, hp, ha, q⟩ := h
  obtain ⟨u, rfl, ru⟩ := vals1 r
  obtain rfl : u = Value.ref p := ru
  have view : s.heap.IsItemsView p a := (show ObjOk X.prog X.w H s.heap p (DX.itemsO p a) from I.hok p _ hp).1
  obtain ⟨z, hd, xs', rel, o, es, ep, ho, hx, hdat, hks, hps, hn⟩ := dk_of I.hok ha
  have l1 : (as0.map entS).length = xs'.length := Paired.length rel
  rw [List.length_map] at l1 z
  have l2 : es.size = xs'.length := by rw [← Array.length_toList]; exact hps.length
  have hh : X.A.handled = none := I.ok.hd hc
  refine DT.sortedI (es := es) (ep := ep) hh view ⟨o, ho, hx, hdat⟩ (by omega) fun h' tk as hk hlt hl hG => ?_
  have lak : as.length = as0.length := by omega
  have nd : as.Nodup := List.Pairwise.imp (fun h => Nat.ne_of_lt h) hG.rise
  have pr : ∀ (j : Nat) (b : Addr), as[j]? = some b → ∃ e : Pss, as0[j]? = some e ∧ ∃ t u, h'.get? b = some { cls := .type "tuple", data := .seq #[Value.str e.1 t, Value.str e.2 u] } := by
    intro j b hj
    obtain ⟨en, he, hg⟩ := hG.pairs j b hj
    have he' : es.toList[j]? = some en := by rw [Array.getElem?_toList]; exact he
    obtain ⟨kv, hkv, hk1, hk2⟩ := pairs_at hps he'
    obtain ⟨y, hy, f1, f2⟩ := DX.pget rel hkv
    rw [List.getElem?_map] at hy
    cases he0 : as0[j]? with
    | none =>
      rw [he0] at hy
      cases hy
    | some e =>
      rw [he0] at hy
      have ey : entS e = y := Option.some.inj hy
      subst ey
      obtain ⟨u, hu⟩ : ∃ u, kv.2 = Value.str e.2 u := f2
      have hk1' : keyIs (Sum.inr e.1) en.key = true := by
        have f1' : Sum.inr e.1 = kv.1 := f1
        rw [f1']
        exact hk1
      obtain ⟨t, ht⟩ : ∃ t, en.key = Value.str e.1 t := relV_key hk1'
      refine ⟨e, rfl, t, u, ?_⟩
      rw [hg, hk2, hu, ht]
  have hob : (h'.push { cls := .type "list", data := .seq (as.map Value.ref).toArray }).get? h'.objs.size = some (seqObj "list" (as.map Value.ref).toArray 0) := Heap.get?_push_size _ rfl
  have kb : ∀ b o, s.heap.get? b = some o → (h'.push { cls := .type "list", data := .seq (as.map Value.ref).toArray }).get? b = some o := fun b o e => Heap.get?_push_of_some _ (hk b o e)
  have ne0 : ∀ b o, h'.get? b = some o → b ≠ h'.objs.size := fun b o e => Nat.ne_of_lt (Heap.lt_size e)
  generalize hh2 : h'.push { cls := .type "list", data := .seq (as.map Value.ref).toArray } = h2 at hob kb ⊢
  have ka : ∀ b o, h'.get? b = some o → h2.get? b = some o := fun b o e => by rw [← hh2]; exact Heap.get?_push_of_some _ e
  have isp : ∀ (j : Nat) (b : Addr) (e : Pss), as[j]? = some b → as0[j]? = some e → IsPS h2 (.ref b) e := fun j b e hj he => by
    obtain ⟨e', he', t, u, hg⟩ := pr j b hj
    rw [he] at he'
    cases he'
    exact ⟨b, _, t, u, _, rfl, ka _ _ hg, rfl, rfl⟩
  have all : ∀ v ∈ as.map Value.ref, IsPS h2 v (keyPS h2 v) := fun v hv => by
    obtain ⟨b, hb, rfl⟩ := List.mem_map.mp hv
    obtain ⟨j, hj⟩ := List.mem_iff_getElem?.mp hb
    obtain ⟨e, he, _⟩ := pr j b hj
    have i := isp j b e hj he
    rw [keyPS_of i]
    exact i
  have keys : (as.map Value.ref).map (keyPS h2) = as0 := by
    refine List.ext_getElem? fun j => ?_
    rw [List.getElem?_map, List.getElem?_map]
    cases hj : as[j]? with
    | none =>
      have := List.getElem?_eq_none_iff.mp hj
      rw [List.getElem?_eq_none_iff.mpr (by omega)]
      rfl
    | some b =>
      obtain ⟨e, he, _⟩ := pr j b hj
      rw [he]
      show some (keyPS h2 (.ref b)) = some e
      rw [keyPS_of (isp j b e hj he)]
  refine wpAny_call_entry PyProof.Rows.slot_list_sort ⟨_, hob, rfl⟩ PyProof.Rows.entry_list_sort
    (SrtO.list_sort_ord (s := { s with heap := h2, toks := tk }) (swo_SS (keyPS h2)) hob (by rw [List.length_map]; omega) (fun h2' => ps_sortable (by omega) all (not_tup hob)) fun out hs hb => ⟨.none, rfl, ?_⟩) (PyProof.Rows.args_list_sort _)
  show EP X pins σ Q (.ref h'.objs.size) { s with heap := sortedHeap h2 h'.objs.size (as.map Value.ref) out.toArray, toks := tk }
  have isr : ∀ v ∈ out, ∃ b, b ∈ as ∧ v = Value.ref b := fun v hv => by
    obtain ⟨b, hb', rfl⟩ := List.mem_map.mp (hb.perm.mem_iff.mp hv)
    exact ⟨b, hb', rfl⟩
  have kF : ∀ b o, b ≠ h'.objs.size → h2.get? b = some o → (sortedHeap h2 h'.objs.size (as.map Value.ref) out.toArray).get? b = some o := fun b o hb e => (PyProof.Rows.sortedHeap_old hb (Heap.lt_size e)).trans e
  have kS : ∀ b o, s.heap.get? b = some o → (sortedHeap h2 h'.objs.size (as.map Value.ref) out.toArray).get? b = some o := fun b o e => kF b o (ne0 _ _ (hk b o e)) (kb b o e)
  obtain ⟨eF, heF⟩ := PyProof.Rows.sortedHeap_at (vs := as.map Value.ref) (out := out.toArray) hob
  have I1 : Inv X pins σ H { s with heap := sortedHeap h2 h'.objs.size (as.map Value.ref) out.toArray, toks := tk } := I.kept (t' := tk) kS
  have hn0 : H h'.objs.size = none := I.hok.fresh (Nat.le_of_lt hlt)
  have epm : (out.map fun v => (adOf v, keyPS h2 v)).map (fun z => V.ref z.1) = out.map backV := by
    rw [List.map_map]
    refine List.map_congr_left fun v hv => ?_
    obtain ⟨b, _, rfl⟩ := isr v hv
    rfl
  have hlen : (out.map backV).length ≤ sizeLine := by
    rw [List.length_map, hb.perm.length_eq, List.length_map]
    omega
  have I2 : Inv X pins σ (upd H h'.objs.size (.lst (out.map backV))) { s with heap := sortedHeap h2 h'.objs.size (as.map Value.ref) out.toArray, toks := tk } :=
    I1.take (h' := sortedHeap h2 h'.objs.size (as.map Value.ref) out.toArray) (t' := tk) (fun b ob _ e => e) (I.fpOk (Nat.le_of_lt hlt) hn0) ⟨hlen, out, eF, vals_back (fun u hu => by obtain ⟨b, _, e⟩ := isr u hu; exact ⟨b, e⟩), heF⟩
  obtain ⟨H2, I3, g, qt⟩ := DX.takeT (P := fun b vs => ∃ (j : Nat) (e : Pss), as[j]? = some b ∧ as0[j]? = some e ∧ vs = [.str e.1, .str e.2]) I as _ I2 nd fun b hb => by
    obtain ⟨j, hj⟩ := List.mem_iff_getElem?.mp hb
    obtain ⟨e, he, t, u, hg⟩ := pr j b hj
    have hbl : s.heap.objs.size ≤ b := Nat.le_of_lt (hG.above b hb)
    refine ⟨hbl, ?_, [.str e.1, .str e.2], ⟨j, e, hj, he, rfl⟩, fun H3 => ⟨(by show 2 ≤ sizeLine; decide), [Value.str e.1 t, Value.str e.2 u], .cons ⟨_, rfl⟩ (.cons ⟨_, rfl⟩ .nil), ⟨_, kF _ _ (ne0 _ _ hg) (ka _ _ hg), rfl, 0, rfl⟩⟩⟩
    rw [upd_ne (ne0 _ _ hg)]
    exact I.hok.fresh hbl
  have gr : ∀ b o, H b = some o → H2 b = some o := fun b o e => g b o (by rw [upd_ne (ne_of_none e hn0)]; exact e)
  refine ⟨.ref h'.objs.size, H2, I3, rfl, q H2 h'.objs.size (out.map fun v => (adOf v, keyPS h2 v)) gr hn0 (fun z hz => ?_) ?_ ?_ (by rw [epm]; exact g _ _ upd_same) fun z hz => ?_⟩
  · obtain ⟨v, hv, rfl⟩ := List.mem_map.mp hz
    obtain ⟨b, hb', rfl⟩ := isr v hv
    exact I.hok.fresh (Nat.le_of_lt (hG.above b hb'))
  · rw [List.map_map]
    have := hb.perm.map (keyPS h2)
    rw [keys] at this
    exact this
  · rw [List.map_map]
    exact List.pairwise_map.mpr hs
  · obtain ⟨v, hv, rfl⟩ := List.mem_map.mp hz
    obtain ⟨b, hb', rfl⟩ := isr v hv
    obtain ⟨vs, ⟨j, e, hj, he, ev⟩, hH⟩ := qt b hb'
    show H2 b = some (.tup [.str (keyPS h2 (.ref b)).1, .str (keyPS h2 (.ref b)).2])
    rw [keyPS_of (isp j b e hj he), hH, ev]
end
end VL

set_option Elab.async false
set_option linter.all false
set_option maxRecDepth 100000
set_option maxHeartbeats 4000000
namespace VL
open PySem PySem.Spec PyProof.Rows L2

/-! ### defs and methods that may raise -/
structure CalX (P : Program) (w : World) (K : PySem.W.Frag) (mg : Str → Option Value) (base : Heap) (k : Nat) (x : Str) (sp : Sp) : Prop where
  ex : ∃ (f : Addr) (fd : FuncData) (ps : List Str), FnOk P w K mg base (L2.CX P w) k f fd ps sp ∧ mg x = some (.ref f) ∧ PySem.W.keepIn K (.ref f) = true ∧ Binds K fd ps []
structure MetX (P : Program) (w : World) (K : PySem.W.Frag) (mg : Str → Option Value) (base : Heap) (k : Nat) (C : Addr) (m : Str) (sp : Sp) : Prop where
  ex : ∃ (f : Addr) (fd : FuncData) (ps : List Str), Cls K C ∧ Meth K C m f ∧ FnOk P w K mg base (L2.CX P w) k f fd ps sp ∧ Binds K fd ps []
structure MakX (P : Program) (w : World) (K : PySem.W.Frag) (mg : Str → Option Value) (base : Heap) (k : Nat) (x : Str) (C : Addr) (sp : Sp) : Prop where
  ex : ∃ (f : Addr) (fd : FuncData) (ps : List Str), Mk K C f ∧ FnOk P w K mg base (L2.CX P w) k f fd ps sp ∧ mg x = some (.ref C) ∧ Binds K fd ps []
section
variable {X : Cx} {k j : Nat} {C : Addr} {x m : Str} {sp : Sp} {E : XK} {p pos apos : Pos} {e o : Expr} {es : List Expr} {ta : TE} {t : TA}
theorem pe_cX (hx : Passes (L2.CX X.prog X.w) X E) (c : CalX X.prog X.w X.K X.mg X.base k x sp) (hr : Room j X.A) (hk : k ≤ j) (hg : Gl X x) (ha : PA X (e :: es) t)
    (hdb : (x == ("__debug__" : Str)) = false := by decide) (he : starEach (e :: es) X.env = (false, eval e X.env) :: starEach es X.env := by rfl) (hpl : (backTo pos (starEach es X.env)).any (·.1) = false := by rfl) :
    PE X (.Call (.Name x p) (e :: es) [] pos) (tCall sp [] E t) := by
  obtain ⟨f, fd, ps, F, hm, kp, b⟩ := c.ex
  exact pe_call F (hr.mono hk) hg hm kp b .nil hx ha hdb he hpl
theorem pe_mkX (hx : Passes (L2.CX X.prog X.w) X E) (c : MakX X.prog X.w X.K X.mg X.base k x C sp) (hr : Room j X.A) (hk : k + 1 ≤ j) (hg : Gl X x) (ha : PA X (e :: es) t)
    (hdb : (x == ("__debug__" : Str)) = false := by decide) (he : starEach (e :: es) X.env = (false, eval e X.env) :: starEach es X.env := by rfl) (hpl : (backTo pos (starEach es X.env)).any (·.1) = false := by rfl) :
    PE X (.Call (.Name x p) (e :: es) [] pos) (tMake C sp [] E t) := by
  obtain ⟨f, fd, ps, M, F, hm, b⟩ := c.ex
  exact pe_make M F (hr.mono hk) hg hm b .nil hx ha hdb he hpl
theorem pe_mtX {pl : Sem Bool} (hx : Passes (L2.CX X.prog X.w) X E) (c : MetX X.prog X.w X.K X.mg X.base k C m sp) (hr : Room j X.A) (hk : k ≤ j) (he : PE X o ta) (ha : PA X (e :: es) t)
    (hst : starEach (e :: es) X.env = (false, eval e X.env) :: starEach es X.env := by rfl) (hpl : (backTo pos (starEach es X.env)).any (·.1) = false := by rfl)
    (ht : eval (.Call (.Attribute o m apos) (e :: es) [] pos) X.env = (do
      let ov ← eval o X.env
      standAt apos.atName
      let (f, first) ← holding [ov] (getMethod ov m pl)
      callWith pos f first (backTo pos (starEach (e :: es) X.env)) (backToKw pos (keywordEach [] X.env))) := by rfl) :
    PE X (.Call (.Attribute o m apos) (e :: es) [] pos) (tMeth C m sp [] E ta t) := by
  obtain ⟨f, fd, ps, hc, hm, F, b⟩ := c.ex
  exact pe_meth (pl := pl) he hc hm F (hr.mono hk) b .nil hx ha hst hpl ht
theorem pe_mtX0 {pl : Sem Bool} (hx : Passes (L2.CX X.prog X.w) X E) (c : MetX X.prog X.w X.K X.mg X.base k C m sp) (hr : Room j X.A) (hk : k ≤ j) (he : PE X o ta)
    (ht : eval (.Call (.Attribute o m apos) [] [] pos) X.env = (do
      let ov ← eval o X.env
      standAt apos.atName
      let (f, first) ← holding [ov] (getMethod ov m pl)
      callWith pos f first (backTo pos (starEach [] X.env)) (backToKw pos (keywordEach [] X.env))) := by rfl) :
    PE X (.Call (.Attribute o m apos) [] [] pos) (tMeth C m sp [] E ta tNil) := by
  obtain ⟨f, fd, ps, hc, hm, F, b⟩ := c.ex
  exact pe_meth0 (pl := pl) he hc hm F (hr.mono hk) b .nil hx ht
end
section
variable {P : Program} {w : World} {K : PySem.W.Frag} {mg : Str → Option Value} {base : Heap}
theorem okX_of {x qual : Str} {st : Stmt} {ps N : List Str} {f : Addr} {fd : FuncData} {k : Nat} {sp : Sp} (F : Fun K x qual st f fd) (S : FnScope N ps (defScope st)) (len : ∀ vs H Q E, sp vs H Q E → vs.length = ps.length)
    (hbody : ∀ (f : Addr) (cdv : Value) (A : Around) (outer : List Env) (s : Shared) (H : Hp) (vs : List V) (Q : VK) (E : XK), Room k (A.deeper (envOfC qual (defScope st) s.heap.objs.size f cdv)) → sp vs H Q E →
      ∃ t, PSs (cxOf (L2.CX P w) P w K mg base N qual (defScope st) f cdv A outer s H E) (defBody st) t ∧ t { nx := fun _ H' => Q .non H', rt := Q } (start N vs) H) : FnOk P w K mg base (L2.CX P w) (k + 1) f fd ps sp :=
  F.okX S len (hbody f)
theorem calX_of {x : Str} {st : Stmt} {ps N : List Str} {k : Nat} {sp : Sp} (D : DefE K mg x st ps) (S : FnScope N ps (defScope st)) (len : ∀ vs H Q E, sp vs H Q E → vs.length = ps.length)
    (hbody : ∀ (f : Addr) (cdv : Value) (A : Around) (outer : List Env) (s : Shared) (H : Hp) (vs : List V) (Q : VK) (E : XK), Room k (A.deeper (envOfC x (defScope st) s.heap.objs.size f cdv)) → sp vs H Q E →
      ∃ t, PSs (cxOf (L2.CX P w) P w K mg base N x (defScope st) f cdv A outer s H E) (defBody st) t ∧ t { nx := fun _ H' => Q .non H', rt := Q } (start N vs) H) : CalX P w K mg base (k + 1) x sp := by
  obtain ⟨f, fd, F, hm, b⟩ := D
  exact ⟨f, fd, ps, okX_of F S len hbody, hm, F.kp, b⟩
theorem metX_of {C : Addr} {x qual : Str} {st : Stmt} {ps N : List Str} {k : Nat} {sp : Sp} (D : MethE K C x qual st ps) (c : Cls K C) (S : FnScope N ps (defScope st)) (len : ∀ vs H Q E, sp vs H Q E → vs.length = ps.length)
    (hbody : ∀ (f : Addr) (cdv : Value) (A : Around) (outer : List Env) (s : Shared) (H : Hp) (vs : List V) (Q : VK) (E : XK), Room k (A.deeper (envOfC qual (defScope st) s.heap.objs.size f cdv)) → sp vs H Q E →
      ∃ t, PSs (cxOf (L2.CX P w) P w K mg base N qual (defScope st) f cdv A outer s H E) (defBody st) t ∧ t { nx := fun _ H' => Q .non H', rt := Q } (start N vs) H) : MetX P w K mg base (k + 1) C x sp := by
  obtain ⟨f, fd, F, hm, b⟩ := D
  exact ⟨f, fd, ps, c, hm, okX_of F S len hbody, b⟩
theorem makX_of {C : Addr} {cn qual : Str} {st : Stmt} {ps N : List Str} {k : Nat} {sp : Sp} (D : InitE K mg cn C qual st ps) (S : FnScope N ps (defScope st)) (len : ∀ vs H Q E, sp vs H Q E → vs.length = ps.length)
    (hbody : ∀ (f : Addr) (cdv : Value) (A : Around) (outer : List Env) (s : Shared) (H : Hp) (vs : List V) (Q : VK) (E : XK), Room k (A.deeper (envOfC qual (defScope st) s.heap.objs.size f cdv)) → sp vs H Q E →
      ∃ t, PSs (cxOf (L2.CX P w) P w K mg base N qual (defScope st) f cdv A outer s H E) (defBody st) t ∧ t { nx := fun _ H' => Q .non H', rt := Q } (start N vs) H) : MakX P w K mg base (k + 1) cn C sp := by
  obtain ⟨f, fd, F, M, hm, b⟩ := D
  exact ⟨f, fd, ps, M, okX_of F S len hbody, hm, b⟩
end
/-- what leaves a def that may raise -/
abbrev thruX {P : Program} {w : World} {K : PySem.W.Frag} {mg : Str → Option Value} {base : Heap} {N : List Str} {qual : Str} {scope : Scope} {f : Addr} {cdv : Value} {A : Around} {outer : List Env} {s : Shared} {H : Hp} {E : XK} :
    Passes (L2.CX P w) (cxOf (L2.CX P w) P w K mg base N qual scope f cdv A outer s H E) E := passes_call (W := fun cls d _ H => E cls d H) (takes_of rfl rfl rfl rfl) fun _ _ _ _ h => h
abbrev takeX {P : Program} {w : World} {K : PySem.W.Frag} {mg : Str → Option Value} {base : Heap} {N : List Str} {qual : Str} {scope : Scope} {f : Addr} {cdv : Value} {A : Around} {outer : List Env} {s : Shared} {H : Hp} {E : XK} :
    Takes (cxOf (L2.CX P w) P w K mg base N qual scope f cdv A outer s H E) (fun cls d _ H => E cls d H) := takes_of rfl rfl rfl rfl
end VL

set_option Elab.async false
set_option linter.all false
set_option maxRecDepth 100000
set_option maxHeartbeats 4000000
namespace VL
open PySem PySem.Spec PyProof.Rows L2
/-! ### isinstance of a caught own error without a dict, whatever was caught; a call in a try's body -/
theorem call_isEN {X : Cx} {a D : Addr} {oe : Obj} {cls : Value} {d : Option Addr} {pn : List (Addr × Obj)} (C : ExcC X.K D) (hz : Zc cls d oe) (hf : ∃ vs, oe.data = .fields vs) :
    CallR (X.suite a ((a, oe) :: pn)) (.builtin "isinstance") (fun xs H Q => cls = .ref D ∧ d = none ∧ ∃ (c : V) (cv : Value) (b : Bool), xs = [.ref a, c] ∧ (∀ u, RelV c u → u = cv) ∧ PySem.W.kitOne X.K (.ref D) cv = some b ∧ Q (.bl b) H) := by
  intro pins s σ H xs us Q I r h
  obtain ⟨ec, ed, h⟩ := h
  subst ec ed
  exact call_isE C hz hf pins s σ H xs us Q I r h
section
variable {X : Cx} {k j : Nat} {x : Str} {sp : Sp} {E : L2.St → XK} {p pos : Pos} {e : Expr} {es : List Expr} {t : TA}
theorem pe_cXS (c : CalX X.prog X.w X.K X.mg X.base k x sp) (hr : Room j X.A) (hk : k ≤ j) (hg : Gl X x) (hx : ∀ σ, PassesAt (L2.CX X.prog X.w) X σ (E σ)) (ha : PA X (e :: es) t)
    (hdb : (x == ("__debug__" : Str)) = false := by decide) (he : starEach (e :: es) X.env = (false, eval e X.env) :: starEach es X.env := by rfl) (hpl : (backTo pos (starEach es X.env)).any (·.1) = false := by rfl) :
    PE X (.Call (.Name x p) (e :: es) [] pos) (tCallS sp E t) := by
  obtain ⟨f, fd, ps, F, hm, kp, b⟩ := c.ex
  exact pe_callS F (hr.mono hk) hg hm kp b hx ha hdb he hpl
end
end VL

set_option Elab.async false
set_option linter.all false
set_option maxRecDepth 100000
set_option maxHeartbeats 4000000
namespace VL
open PySem PySem.Spec PyProof.Rows L2

/-! ### x is True, x is False: whatever x is -/
theorem op_isBl {X : Cx} : OpR X (compareOp .Is) (fun x y H Q => ∃ b, y = .bl b ∧ Q (.bl (decide (x = .bl b))) H) := by
  intro pins s σ H x y v u Q I rx ry h
  obtain ⟨b, rfl, q⟩ := h
  cases (show u = Value.bool b from ry)
  have same : v = Value.bool b → x = .bl b → wpAny (model X.prog X.w) X.A (compareOp .Is v (.bool b)) (EP X pins σ Q) X.xe s := fun e1 e2 => by
    subst e1
    refine wpAny_is_self rfl ⟨.bl true, H, I, rfl, ?_⟩
    rw [decide_eq_true e2] at q
    exact q
  have diff : v ≠ Value.bool b → x ≠ .bl b → plainIs v (.bool b) = true → (v == Value.bool b) = false → wpAny (model X.prog X.w) X.A (compareOp .Is v (.bool b)) (EP X pins σ Q) X.xe s := fun e1 e2 e3 e4 => by
    rw [decide_eq_false e2] at q
    show wpAny _ _ ((isSame v (Value.bool b)) >>= fun z => pure (Value.bool z)) _ _ s
    exact wpAny_bind (wpAny_isSame_plain e3 (by rw [e4]; exact wpAny_pure ⟨.bl false, H, I, rfl, q⟩))
  cases x with
  | ref a => cases rx; exact diff (fun h => nomatch h) (fun h => nomatch h) rfl rfl
  | non => cases rx; exact diff (fun h => nomatch h) (fun h => nomatch h) rfl rfl
  | bl c =>
    cases (show v = Value.bool c from rx)
    by_cases e : c = b
    · subst e
      exact same rfl rfl
    · exact diff (fun h => e (by injection h)) (fun h => e (by injection h)) rfl (by cases c <;> cases b <;> first | rfl | exact absurd rfl e)
  | int i => obtain ⟨t, rfl⟩ := rx; exact diff (fun h => nomatch h) (fun h => nomatch h) rfl rfl
  | str x => obtain ⟨t, rfl⟩ := rx; exact diff (fun h => nomatch h) (fun h => nomatch h) rfl rfl
  | byt x => obtain ⟨t, rfl⟩ := rx; exact diff (fun h => nomatch h) (fun h => nomatch h) rfl rfl
  | flt x => obtain ⟨t, rfl⟩ := rx; exact diff (fun h => nomatch h) (fun h => nomatch h) rfl rfl
  | ty n => cases rx; exact diff (fun h => nomatch h) (fun h => nomatch h) rfl rfl

/-! ### a dict of the module whose keys are texts: what is not in it -/
def keysT (es : Array DictEntry) : List Str := es.toList.map fun e => match e.key with | .str x _ => x | _ => Str.empty
structure KdT (K : PySem.W.Frag) (w : World) (d : Addr) (es : Array DictEntry) (n : Nat) (ks : List Str) : Prop where
  kd : KDict K w d es n
  keys : keysT es = ks
theorem KdT.none {K : PySem.W.Frag} {w : World} {d : Addr} {es : Array DictEntry} {n : Nat} {ks : List Str} (D : KdT K w d es n ks) {z : Str} (h : z ∉ ks) : PySem.W.nsIn K d z = some Option.none := by
  have lit := D.kd.lit
  have keys := D.keys
  unfold PySem.W.nsIn
  rw [D.kd.at_]
  have key : ∀ l : List DictEntry, PySem.W.KeysLit w.params l → (∀ e ∈ l, ∀ x t, e.key = .str x t → x ≠ z) → l.find? (·.key.isStr z) = Option.none ∧ l.any (·.refKey) = false := by
    intro l
    induction l with
    | nil => intro _ _; exact ⟨rfl, rfl⟩
    | cons e l ih =>
      intro hl hz
      obtain ⟨⟨x, t, hk, _⟩, hl⟩ := hl
      obtain ⟨h1, h2⟩ := ih hl fun e he => hz e (List.mem_cons_of_mem _ he)
      have hx := hz e List.mem_cons_self x t hk
      have e1 : e.key.isStr z = false := by
        rw [hk, PySem.W.isStr_of]
        simpa [Value.isStrOf] using hx
      have e2 : e.refKey = false := by
        unfold DictEntry.refKey
        rw [hk]
      refine ⟨?_, ?_⟩
      · rw [List.find?_cons_of_neg (by rw [e1]; decide)]
        exact h1
      · rw [List.any_cons, e2, h2]
        rfl
  have hne : ∀ e ∈ es.toList, ∀ x t, e.key = .str x t → x ≠ z := fun e he x t hk hx => h (by
    rw [← keys]
    unfold keysT
    refine List.mem_map.mpr ⟨e, he, ?_⟩
    rw [hk]
    exact hx)
  obtain ⟨h1, h2⟩ := key es.toList lit hne
  simp only [h1, h2]
  rfl

/-! ### a method that may raise, called in a try's body -/
def tMethS (C : Addr) (m : Str) (sp : Sp) (E : L2.St → XK) (ta : TE) (t : TA) : TE := fun σ H Q => ta σ H fun x H1 => ∃ a dx fs, x = .ref a ∧ H1 a = some (.ins C dx fs) ∧ fs.lookup m = none ∧ t σ H1 fun vs H2 => sp (x :: vs) H2 Q (E σ)
section
variable {X : Cx} {k j : Nat} {C : Addr} {m : Str} {sp : Sp} {E : L2.St → XK} {pos apos : Pos} {e o : Expr} {es : List Expr} {ta : TE} {t : TA}
theorem pe_mtXS {pl : Sem Bool} (c : MetX X.prog X.w X.K X.mg X.base k C m sp) (hr : Room j X.A) (hk : k ≤ j) (hx : ∀ σ, PassesAt (L2.CX X.prog X.w) X σ (E σ)) (he : PE X o ta) (ha : PA X (e :: es) t)
    (hst : starEach (e :: es) X.env = (false, eval e X.env) :: starEach es X.env := by rfl) (hpl : (backTo pos (starEach es X.env)).any (·.1) = false := by rfl)
    (ht : eval (.Call (.Attribute o m apos) (e :: es) [] pos) X.env = (do
      let ov ← eval o X.env
      standAt apos.atName
      let (f, first) ← holding [ov] (getMethod ov m pl)
      callWith pos f first (backTo pos (starEach (e :: es) X.env)) (backToKw pos (keywordEach [] X.env))) := by rfl) :
    PE X (.Call (.Attribute o m apos) (e :: es) [] pos) (tMethS C m sp E ta t) := by
  obtain ⟨f, fd, ps, hc, hm, F, b⟩ := c.ex
  refine ⟨fun pins s σ H Q I h => PySem.W.methodCall_KW (pl := pl) (thn (he.run pins s σ H _ I h) fun u s1 z => ?_) ht⟩
  obtain ⟨x, H1, I1, rx, a, dx, fs, ex, ea, l, q⟩ := z
  subst ex
  cases (show u = Value.ref a from rx)
  refine getmeth_ok I1 ea hc hm l (PySem.W.callWith_K (first := [.ref a]) (h₀ := X.base) I.ok.mod.kin hm.kp (thn (ha.run pos pins s1 σ H1 _ I1 q) fun us s2 z => ?_) hst hpl)
  obtain ⟨vs, H2, I2, r, q2⟩ := z
  exact ⟨I2.kIn, run_fnS (us := .ref a :: us) (vs := .ref a :: vs) F (hr.mono hk) b (hx σ) I2 (.cons rfl r) q2⟩
end
end VL

set_option Elab.async false
set_option linter.all false
set_option maxRecDepth 100000
set_option maxHeartbeats 4000000
namespace VL
open PySem PySem.Spec PyProof.Rows L2
/-! ### max(xs, default=d), xs < ys, of numbers -/
theorem maxOf_int : ∀ (y : Int) (ys : List Int), PySem.W.maxOf y ys ∈ y :: ys ∧ ∀ z ∈ y :: ys, z ≤ PySem.W.maxOf y ys
  | y, [] => ⟨List.mem_cons_self, fun z hz => by rw [List.mem_singleton.mp hz]; exact Int.le_refl _⟩
  | y, x :: ys => by
    obtain ⟨h1, h2⟩ := maxOf_int (if decide (y < x) = true then x else y) ys
    have e : PySem.W.maxOf y (x :: ys) = PySem.W.maxOf (if decide (y < x) = true then x else y) ys := rfl
    rw [e]
    by_cases q : y < x
    · rw [if_pos (decide_eq_true q)] at h1 h2 ⊢
      refine ⟨List.mem_cons_of_mem _ h1, fun z hz => ?_⟩
      rcases List.mem_cons.mp hz with rfl | hz
      · have := h2 x List.mem_cons_self
        omega
      · exact h2 z hz
    · rw [if_neg (by simpa using q)] at h1 h2 ⊢
      refine ⟨?_, fun z hz => ?_⟩
      · rcases List.mem_cons.mp h1 with h | h
        · rw [h]; exact List.mem_cons_self
        · exact List.mem_cons_of_mem _ (List.mem_cons_of_mem _ h)
      · rcases List.mem_cons.mp hz with rfl | hz
        · exact h2 _ List.mem_cons_self
        · rcases List.mem_cons.mp hz with rfl | hz
          · have := h2 y List.mem_cons_self
            omega
          · exact h2 z (List.mem_cons_of_mem _ hz)
theorem holdAll_ints {h : Heap} : ∀ {us : List Value} {ns : List Int}, IntsAre us ns → PySem.W.HoldAll h us ns
  | _, _, .nil => ⟨[], .nil⟩
  | _, _, .cons n t r => by
    obtain ⟨as, q⟩ := holdAll_ints (h := h) r
    exact ⟨[] ++ as, .cons (.int n t) q⟩
def rMaxD (K : PySem.W.Frag) : List V → List V → Hp → VK → Prop := fun vs zs H Q => ∃ (a : Addr) (ns : List Int) (d : Int), vs = [V.ref a] ∧ zs = [.int d] ∧ SqL K H a (ns.map V.int) ∧ (ns = [] → Q (.int d) H) ∧ ∀ m, m ∈ ns → (∀ y, y ∈ ns → y ≤ m) → Q (.int m) H
def rLtL (K : PySem.W.Frag) : R2 := fun x y H Q => ∃ (a b : Addr) (ns ms : List Int), x = .ref a ∧ y = .ref b ∧ SqL K H a (ns.map V.int) ∧ SqL K H b (ms.map V.int) ∧ Q (.bl (PySem.W.listLt ns ms)) H
section
variable {X : Cx}
theorem cr_maxDef (hc : X.calm = true) (hu : X.A.units + 1 < cLine) : CallRK X (.builtin "max") [Str.ofString "default"] (rMaxD X.K) := by
  intro pins s σ H vs zs us ws Q I r rz h
  obtain ⟨a, ns, d, rfl, rfl, hs, q0, q⟩ := h
  obtain ⟨its, rv, hl, _⟩ := I.list hs
  obtain rfl := Vals.ref1 r
  obtain ⟨w1, rfl, t, rfl⟩ := vals1 rz
  refine PySem.W.max_list_datum_default (vs := its.toArray) (xs := ns) (I.ok.hd hc) hl.isList (holdAll_ints rv.ints) (by show X.A.units + 1 + 0 < cLine; omega) (fun e h' tk hk => ?_) (fun y ys i v h' tk e hi hv hk => ?_)
  · exact ⟨.int d, H, I.kept hk, ⟨_, rfl⟩, q0 e⟩
  · obtain ⟨as, rd⟩ := hv
    obtain ⟨h1, h2⟩ := maxOf_int y ys
    generalize PySem.W.maxOf y ys = m at rd h1 h2
    have rd' : Reads h' v (.int m) as := rd
    cases rd' with
    | int i t => exact ⟨.int m, H, I.kept hk, ⟨_, rfl⟩, q m (by rw [e]; exact h1) (by rw [e]; exact h2)⟩
theorem op_ltL (hu : X.A.units + 1 < cLine) : OpR X (compareOp .Lt) (rLtL X.K) := by
  intro pins s σ H x y v u Q I rx ry h
  obtain ⟨a, b, ns, ms, rfl, rfl, ha, hb, q⟩ := h
  cases rx
  cases ry
  obtain ⟨ia, ra, hla, _⟩ := I.list ha
  obtain ⟨ib, rb, hlb, _⟩ := I.list hb
  obtain ⟨as, pa⟩ := holdAll_ints (h := s.heap) ra.ints
  obtain ⟨bs, pb⟩ := holdAll_ints (h := s.heap) rb.ints
  obtain ⟨oa, na, ga, ca, _, da⟩ := hla
  obtain ⟨ob, nb, gb, cb, _, db⟩ := hlb
  refine PySem.W.lt_datum (x := ns) (y := ms) ⟨a :: as, .list ga ca da pa⟩ ⟨b :: bs, .list gb cb db pb⟩ (by show X.A.units + (0 + 1) < cLine; omega) ?_
  exact ⟨.bl _, H, I, rfl, q⟩
end
end VL

set_option linter.all false
namespace VL
inductive Nd where
  | tx (x : List Nat)
  | el (t : List Nat) (as : List (List Nat × List Nat)) (ks : List Nd)
  | aw (n : Option Int) (ks : List Nd)
/-- each c of a text becomes z -/
def esc1 (c : Nat) (z l : List Nat) : List Nat := l.flatMap fun d => if d = c then z else [d]
theorem esc1_app (c : Nat) (z a b : List Nat) : esc1 c z (a ++ b) = esc1 c z a ++ esc1 c z b := by simp [esc1]
theorem esc1_len {c k : Nat} {z : List Nat} (h : z.length ≤ k) (hk : 1 ≤ k) : ∀ l : List Nat, (esc1 c z l).length ≤ k * l.length
  | [] => by simp [esc1]
  | d :: l => by
    have ih := esc1_len (c := c) h hk l
    have e : esc1 c z (d :: l) = (if d = c then z else [d]) ++ esc1 c z l := by simp [esc1]
    rw [e, List.length_append, List.length_cons, Nat.mul_succ]
    have : (if d = c then z else [d]).length ≤ k := by
      split
      · exact h
      · exact hk
    omega
abbrev zAmp : List Nat := [38, 97, 109, 112, 59]
abbrev zLt : List Nat := [38, 108, 116, 59]
abbrev zGt : List Nat := [38, 103, 116, 59]
abbrev zQuot : List Nat := [38, 113, 117, 111, 116, 59]
def escT (l : List Nat) : List Nat := esc1 62 zGt (esc1 60 zLt (esc1 38 zAmp l))
def escV (l : List Nat) : List Nat := esc1 34 zQuot (esc1 60 zLt (esc1 38 zAmp l))
theorem escT_app (a b : List Nat) : escT (a ++ b) = escT a ++ escT b := by simp [escT, esc1_app]
theorem escT_nil : escT [] = [] := rfl
theorem escT_len (l : List Nat) : (escT l).length ≤ 80 * l.length := by
  have h1 := esc1_len (c := 38) (z := zAmp) (k := 5) (by decide) (by decide) l
  have h2 := esc1_len (c := 60) (z := zLt) (k := 4) (by decide) (by decide) (esc1 38 zAmp l)
  have h3 := esc1_len (c := 62) (z := zGt) (k := 4) (by decide) (by decide) (esc1 60 zLt (esc1 38 zAmp l))
  unfold escT
  omega
theorem escV_len (l : List Nat) : (escV l).length ≤ 120 * l.length := by
  have h1 := esc1_len (c := 38) (z := zAmp) (k := 5) (by decide) (by decide) l
  have h2 := esc1_len (c := 60) (z := zLt) (k := 4) (by decide) (by decide) (esc1 38 zAmp l)
  have h3 := esc1_len (c := 34) (z := zQuot) (k := 6) (by decide) (by decide) (esc1 60 zLt (esc1 38 zAmp l))
  unfold escV
  omega
/-- ' name="value"' of each -/
def pairL (a : List Nat × List Nat) : List Nat := [32] ++ a.1 ++ [61, 34] ++ escV a.2 ++ [34]
def elemL (t : List Nat) (as : List (List Nat × List Nat)) (inner : List Nat) : List Nat := [60] ++ t ++ as.flatMap pairL ++ [62] ++ inner ++ [60, 47] ++ t ++ [62]
def wA (as : List (List Nat × List Nat)) : Nat := (as.map fun a => a.1.length + 120 * a.2.length + 20).sum
mutual
def wN : Nd → Nat
  | .tx x => 80 * x.length + 20
  | .el t as ks => 2 * t.length + 50 + wA as + wS ks
  | .aw _ ks => 100 + wS ks
def wS : List Nd → Nat
  | [] => 0
  | d :: r => wN d + wS r
end
mutual
def dpN : Nd → Nat
  | .tx _ => 0
  | .el _ _ ks => dpS ks + 1
  | .aw _ ks => dpS ks + 1
def dpS : List Nd → Nat
  | [] => 0
  | d :: r => max (dpN d) (dpS r)
end
mutual
def pieceP : Nd → List Nat
  | .tx x => escT x
  | .el t as ks => elemL t as (catP ks)
  | .aw _ ks => catP ks
def catP : List Nd → List Nat
  | [] => []
  | d :: r => pieceP d ++ catP r
end
abbrev zE : List Nat := [60, 33, 45, 45, 101, 45, 45, 62]
abbrev zT : List Nat := [60, 33, 45, 45, 116, 45, 45, 62]
abbrev zA : List Nat := [60, 33, 45, 45, 91]
abbrev zB : List Nat := [45, 45, 62]
abbrev zC : List Nat := [60, 33, 45, 45, 93, 45, 45, 62]
def isT : Nd → Bool
  | .tx x => decide (x ≠ [])
  | _ => false
/-- the text of a number -/
def numL (f : Int → List Nat) : Option Int → List Nat
  | none => []
  | some i => f i
section
variable (f : Int → List Nat)
mutual
def pieceW : Nd → List Nat
  | .tx x => if x = [] then zE else escT x
  | .el t as ks => elemL t as (catW false ks)
  | .aw n ks => zA ++ numL f n ++ zB ++ catW false ks ++ zC
def catW : Bool → List Nd → List Nat
  | _, [] => []
  | b, d :: r => (if b && isT d then zT else []) ++ pieceW d ++ catW (isT d) r
end
end
/-! what the law makes of it -/
def jnS (acc : List Nd) (d : Nd) : List Nd := match d, acc.getLast? with
  | .tx y, some (.tx x) => acc.dropLast ++ [.tx (x ++ y)]
  | d, _ => acc ++ [d]
def jn (l : List Nd) : List Nd := l.foldl jnS []
mutual
def flN : Nd → List Nd
  | .tx x => if x = [] then [] else [.tx x]
  | .el t as ks => [.el t as (jn (flS ks))]
  | .aw _ ks => flS ks
def flS : List Nd → List Nd
  | [] => []
  | d :: r => flN d ++ flS r
end
theorem wS_app (a b : List Nd) : wS (a ++ b) = wS a + wS b := by
  induction a with
  | nil => simp [wS]
  | cons d a ih => simp [wS, ih]; omega
theorem catP_app (a b : List Nd) : catP (a ++ b) = catP a ++ catP b := by
  induction a with
  | nil => simp [catP]
  | cons d a ih => simp [catP, ih]
theorem flS_app (a b : List Nd) : flS (a ++ b) = flS a ++ flS b := by
  induction a with
  | nil => simp [flS]
  | cons d a ih => simp [flS, ih]
theorem dpS_app (a b : List Nd) : dpS (a ++ b) = max (dpS a) (dpS b) := by
  induction a with
  | nil => simp [dpS]
  | cons d a ih => simp [dpS, ih]
theorem dp_mem {d : Nd} : ∀ {ks : List Nd}, d ∈ ks → dpN d ≤ dpS ks
  | e :: ks, h => by
    simp only [dpS]
    rcases List.mem_cons.mp h with rfl | h
    · omega
    · have := dp_mem h
      omega
theorem w_mem {d : Nd} : ∀ {ks : List Nd}, d ∈ ks → wN d ≤ wS ks
  | e :: ks, h => by
    simp only [wS]
    rcases List.mem_cons.mp h with rfl | h
    · omega
    · have := w_mem h
      omega
theorem wN_pos : ∀ d : Nd, 20 ≤ wN d
  | .tx x => by simp [wN]
  | .el t as ks => by simp only [wN]; omega
  | .aw n ks => by simp only [wN]; omega
theorem len_wS : ∀ ks : List Nd, 20 * ks.length ≤ wS ks
  | [] => by simp [wS]
  | d :: r => by
    have := wN_pos d
    have := len_wS r
    simp only [wS, List.length_cons]
    omega
theorem pair_len (a : List Nat × List Nat) : (pairL a).length ≤ a.1.length + 120 * a.2.length + 20 := by
  have := escV_len a.2
  simp only [pairL, List.length_append, List.length_cons, List.length_nil]
  omega
theorem pairs_len : ∀ as : List (List Nat × List Nat), (as.flatMap pairL).length ≤ wA as
  | [] => by simp [wA]
  | a :: as => by
    have := pair_len a
    have ih := pairs_len as
    simp only [wA, List.map_cons, List.sum_cons, List.flatMap_cons, List.length_append] at ih ⊢
    omega
theorem elem_len (t : List Nat) (as : List (List Nat × List Nat)) (i : List Nat) : (elemL t as i).length ≤ 2 * t.length + 10 + wA as + i.length := by
  have := pairs_len as
  simp only [elemL, List.length_append, List.length_cons, List.length_nil]
  omega
mutual
theorem pieceP_len : ∀ d : Nd, (pieceP d).length ≤ wN d
  | .tx x => by have := escT_len x; simp only [pieceP, wN]; omega
  | .el t as ks => by have := elem_len t as (catP ks); have := catP_len ks; simp only [pieceP, wN]; omega
  | .aw n ks => by have := catP_len ks; simp only [pieceP, wN]; omega
theorem catP_len : ∀ ks : List Nd, (catP ks).length ≤ wS ks
  | [] => by simp [catP, wS]
  | d :: r => by have := pieceP_len d; have := catP_len r; simp only [catP, wS, List.length_append]; omega
end
/-! joined -/
theorem jnS_nt {acc : List Nd} {d : Nd} (h : ∀ y, d ≠ .tx y) : jnS acc d = acc ++ [d] := by
  cases d with
  | tx y => exact absurd rfl (h y)
  | el t as ks => unfold jnS; rfl
  | aw n ks => unfold jnS; rfl
theorem jnS_nil (d : Nd) : jnS [] d = [d] := by
  cases d <;> rfl
theorem jnS_sn {a : List Nd} {e d : Nd} : jnS (a ++ [e]) d = match d, e with | .tx y, .tx x => a ++ [.tx (x ++ y)] | _, _ => a ++ [e] ++ [d] := by
  unfold jnS
  rw [List.getLast?_concat]
  cases d with
  | tx y => cases e <;> simp
  | el t as ks => cases e <;> simp
  | aw n ks => cases e <;> simp
theorem snoc_cases (l : List Nd) : l = [] ∨ ∃ a e, l = a ++ [e] := by
  rcases List.eq_nil_or_concat l with h | ⟨a, e, h⟩
  · exact .inl h
  · exact .inr ⟨a, e, by simpa using h⟩
theorem catP_jnS (acc : List Nd) (d : Nd) : catP (jnS acc d) = catP acc ++ pieceP d := by
  rcases snoc_cases acc with rfl | ⟨a, e, rfl⟩
  · rw [jnS_nil]; simp [catP]
  · rw [jnS_sn]
    cases d with
    | tx y => cases e <;> simp [catP_app, catP, pieceP, escT_app]
    | el t as ks => cases e <;> simp [catP_app, catP]
    | aw n ks => cases e <;> simp [catP_app, catP]
theorem catP_fold : ∀ (l acc : List Nd), catP (l.foldl jnS acc) = catP acc ++ catP l
  | [], acc => by simp [catP]
  | d :: l, acc => by
    rw [List.foldl_cons, catP_fold l, catP_jnS]
    simp [catP]
theorem catP_jn (l : List Nd) : catP (jn l) = catP l := by
  unfold jn
  rw [catP_fold]
  simp [catP]
mutual
theorem catP_flN : ∀ d : Nd, catP (flN d) = pieceP d
  | .tx x => by
    by_cases h : x = []
    · subst h; simp [flN, catP, pieceP, escT_nil]
    · simp [flN, h, catP]
  | .el t as ks => by simp only [flN, catP, pieceP, catP_jn, catP_flS ks, List.append_nil]
  | .aw n ks => by simp only [flN, pieceP, catP_flS ks]
theorem catP_flS : ∀ ks : List Nd, catP (flS ks) = catP ks
  | [] => by simp [flS]
  | d :: r => by simp only [flS, catP_app, catP, catP_flN d, catP_flS r]
end
theorem wS_jnS (acc : List Nd) (d : Nd) : wS (jnS acc d) ≤ wS acc + wN d := by
  rcases snoc_cases acc with rfl | ⟨a, e, rfl⟩
  · rw [jnS_nil]; simp [wS]
  · rw [jnS_sn]
    cases d with
    | tx y => cases e with
      | tx x => simp only [wS_app, wS, wN, List.length_append]; omega
      | el t as ks => simp only [wS_app, wS]; omega
      | aw n ks => simp only [wS_app, wS]; omega
    | el t as ks => cases e <;> (simp only [wS_app, wS]; omega)
    | aw n ks => cases e <;> (simp only [wS_app, wS]; omega)
theorem wS_fold : ∀ (l acc : List Nd), wS (l.foldl jnS acc) ≤ wS acc + wS l
  | [], acc => by simp [wS]
  | d :: l, acc => by
    have h1 := wS_fold l (jnS acc d)
    have h2 := wS_jnS acc d
    simp only [List.foldl_cons, wS]
    omega
theorem wS_jn (l : List Nd) : wS (jn l) ≤ wS l := by
  have := wS_fold l []
  simp only [wS] at this
  unfold jn
  omega
mutual
theorem wS_flN : ∀ d : Nd, wS (flN d) ≤ wN d
  | .tx x => by
    by_cases h : x = []
    · simp [flN, h, wS]
    · simp [flN, h, wS]
  | .el t as ks => by have := wS_flS ks; have := wS_jn (flS ks); simp only [flN, wS, wN]; omega
  | .aw n ks => by have := wS_flS ks; simp only [flN, wN]; omega
theorem wS_flS : ∀ ks : List Nd, wS (flS ks) ≤ wS ks
  | [] => by simp [flS]
  | d :: r => by have := wS_flN d; have := wS_flS r; simp only [flS, wS_app, wS]; omega
end
theorem dpS_jnS (acc : List Nd) (d : Nd) : dpS (jnS acc d) ≤ max (dpS acc) (dpN d) := by
  rcases snoc_cases acc with rfl | ⟨a, e, rfl⟩
  · rw [jnS_nil]; simp [dpS]
  · rw [jnS_sn]
    cases d with
    | tx y => cases e <;> simp [dpS_app, dpS, dpN] <;> omega
    | el t as ks => cases e <;> simp [dpS_app, dpS] <;> omega
    | aw n ks => cases e <;> simp [dpS_app, dpS] <;> omega
theorem dpS_fold : ∀ (l acc : List Nd), dpS (l.foldl jnS acc) ≤ max (dpS acc) (dpS l)
  | [], acc => by simp [dpS]
  | d :: l, acc => by
    have h1 := dpS_fold l (jnS acc d)
    have h2 := dpS_jnS acc d
    simp only [List.foldl_cons, dpS]
    omega
theorem dpS_jn (l : List Nd) : dpS (jn l) ≤ dpS l := by
  have := dpS_fold l []
  simp only [dpS] at this
  unfold jn
  omega
mutual
theorem dpS_flN : ∀ d : Nd, dpS (flN d) ≤ dpN d
  | .tx x => by
    by_cases h : x = []
    · simp [flN, h, dpS]
    · simp [flN, h, dpS]
  | .el t as ks => by have := dpS_flS ks; have := dpS_jn (flS ks); simp only [flN, dpS, dpN]; omega
  | .aw n ks => by have := dpS_flS ks; simp only [flN, dpN]; omega
theorem dpS_flS : ∀ ks : List Nd, dpS (flS ks) ≤ dpS ks
  | [] => by simp [flS]
  | d :: r => by have := dpS_flN d; have := dpS_flS r; simp only [flS, dpS_app, dpS]; omega
end
/-! neat trees: no awaits, no empty texts, no two texts in a row -/
mutual
def ntN : Nd → Prop
  | .tx x => x ≠ []
  | .el _ _ ks => ntS false ks
  | .aw _ _ => False
def ntS : Bool → List Nd → Prop
  | _, [] => True
  | b, d :: r => ntN d ∧ (b = true → isT d = false) ∧ ntS (isT d) r
end
section
variable (f : Int → List Nat)
mutual
theorem neatN : ∀ d : Nd, ntN d → pieceW f d = pieceP d
  | .tx x, h => by
    have h : x ≠ [] := h
    simp only [pieceW, pieceP]
    rw [if_neg h]
  | .el t as ks, h => by
    have := neatS false ks (by simpa only [ntN] using h)
    simp only [pieceW, pieceP, this]
  | .aw n ks, h => h.elim
theorem neatS : ∀ (b : Bool) (ks : List Nd), ntS b ks → catW f b ks = catP ks
  | b, [], _ => by simp [catW, catP]
  | b, d :: r, h => by
    obtain ⟨h1, h2, h3⟩ : ntN d ∧ (b = true → isT d = false) ∧ ntS (isT d) r := by simpa only [ntS] using h
    have e : (b && isT d) = false := by
      cases b with
      | false => rfl
      | true => simpa using h2 rfl
    simp only [catW, catP, neatN d h1, neatS _ r h3, e]
    rfl
end
end
def lastT (acc : List Nd) : Bool := match acc.getLast? with | some d => isT d | none => false
theorem ntS_app : ∀ (a : List Nd) (b : Bool) (d : Nd), ntS b a → ntN d → ((if a = [] then b else lastT a) = true → isT d = false) → ntS b (a ++ [d])
  | [], b, d, _, h2, h3 => by
    simp only [List.nil_append, ntS]
    exact ⟨h2, fun z => h3 (by simpa using z), trivial⟩
  | e :: a, b, d, h1, h2, h3 => by
    obtain ⟨g1, g2, g3⟩ : ntN e ∧ (b = true → isT e = false) ∧ ntS (isT e) a := by simpa only [ntS] using h1
    rw [List.cons_append]
    simp only [ntS]
    refine ⟨g1, g2, ntS_app a _ d g3 h2 fun z => h3 ?_⟩
    rw [if_neg (by simp)]
    cases a with
    | nil => simpa [lastT] using z
    | cons x xs =>
      rw [if_neg (by simp)] at z
      unfold lastT at z ⊢
      rw [List.getLast?_cons_cons]
      exact z
theorem ntS_dl : ∀ (a : List Nd) (b : Bool) (d : Nd), ntS b (a ++ [d]) → ntS b a ∧ ntN d ∧ ((if a = [] then b else lastT a) = true → isT d = false)
  | [], b, d, h => by
    obtain ⟨h1, h2, _⟩ : ntN d ∧ (b = true → isT d = false) ∧ ntS (isT d) [] := by simpa only [List.nil_append, ntS] using h
    exact ⟨by simp only [ntS], h1, fun z => h2 (by simpa using z)⟩
  | e :: a, b, d, h => by
    obtain ⟨h1, h2, h3⟩ : ntN e ∧ (b = true → isT e = false) ∧ ntS (isT e) (a ++ [d]) := by simpa only [List.cons_append, ntS] using h
    obtain ⟨i1, i2, i3⟩ := ntS_dl a _ d h3
    refine ⟨by simp only [ntS]; exact ⟨h1, h2, i1⟩, i2, fun z => i3 ?_⟩
    rw [if_neg (by simp)] at z
    cases a with
    | nil => simpa [lastT] using z
    | cons x xs =>
      rw [if_neg (by simp)]
      unfold lastT at z ⊢
      rw [List.getLast?_cons_cons] at z
      exact z
theorem nt_jnS {acc : List Nd} {d : Nd} (h : ntS false acc) (hd : ntN d) : ntS false (jnS acc d) := by
  rcases snoc_cases acc with rfl | ⟨a, e, rfl⟩
  · rw [jnS_nil]
    exact ntS_app [] false d h hd (fun z => by simp at z)
  · rw [jnS_sn]
    obtain ⟨i1, i2, i3⟩ := ntS_dl a false e h
    have app : ∀ d, ntN d → (isT e = true → isT d = false) → ntS false (a ++ [e] ++ [d]) := fun d hd hh =>
      ntS_app (a ++ [e]) false d h hd fun z => by
        rw [if_neg (by simp)] at z
        unfold lastT at z
        rw [List.getLast?_concat] at z
        exact hh (by simpa using z)
    cases d with
    | tx y =>
      have hy : y ≠ [] := hd
      cases e with
      | tx x =>
        have hx : x ≠ [] := i2
        refine ntS_app a false _ i1 (by simp [ntN, hx]) fun z => ?_
        have := i3 z
        simp [isT, hx] at this
      | el t as ks => exact app _ hd fun z => by simp [isT] at z
      | aw n ks => exact absurd i2 id
    | el t as ks =>
      cases e with
      | tx x => exact app _ hd fun _ => rfl
      | el t as ks => exact app _ hd fun _ => rfl
      | aw n ks => exact absurd i2 id
    | aw n ks => exact absurd hd id
theorem nt_fold : ∀ (l acc : List Nd), ntS false acc → (∀ d ∈ l, ntN d) → ntS false (l.foldl jnS acc)
  | [], acc, h, _ => h
  | d :: l, acc, h, hl => nt_fold l _ (nt_jnS h (hl d List.mem_cons_self)) fun x hx => hl x (List.mem_cons_of_mem _ hx)
theorem nt_jn {l : List Nd} (h : ∀ d ∈ l, ntN d) : ntS false (jn l) := nt_fold l [] (by simp only [ntS]) h
mutual
theorem nt_flN : ∀ d : Nd, ∀ e ∈ flN d, ntN e
  | .tx x => fun e he => by
    by_cases h : x = []
    · simp [flN, h] at he
    · simp only [flN, if_neg h, List.mem_singleton] at he
      subst he
      exact h
  | .el t as ks => fun e he => by
    simp only [flN, List.mem_singleton] at he
    subst he
    simp only [ntN]
    exact nt_jn (nt_flS ks)
  | .aw n ks => fun e he => by
    simp only [flN] at he
    exact nt_flS ks e he
theorem nt_flS : ∀ ks : List Nd, ∀ e ∈ flS ks, ntN e
  | [] => fun e he => by simp [flS] at he
  | d :: r => fun e he => by
    simp only [flS, List.mem_append] at he
    rcases he with he | he
    · exact nt_flN d e he
    · exact nt_flS r e he
end
/-- the law -/
theorem law68 (f : Int → List Nat) (ks : List Nd) : catW f false (jn (flS ks)) = catP ks := by
  rw [neatS f _ _ (nt_jn (nt_flS ks)), catP_jn, catP_flS]
end VL
namespace VL
/-! writing any tree -/
mutual
def nuN : Nd → Prop
  | .tx _ => True
  | .el _ _ ks => nuS ks
  | .aw n ks => (∀ i, n = some i → 0 ≤ i ∧ i < 10 ^ 30) ∧ nuS ks
def nuS : List Nd → Prop
  | [] => True
  | d :: r => nuN d ∧ nuS r
end
theorem nu_mem {d : Nd} : ∀ {ks : List Nd}, nuS ks → d ∈ ks → nuN d
  | e :: ks, h, m => by
    obtain ⟨h1, h2⟩ : nuN e ∧ nuS ks := by simpa only [nuS] using h
    rcases List.mem_cons.mp m with rfl | m
    · exact h1
    · exact nu_mem h2 m
mutual
theorem nt_nuN : ∀ d : Nd, ntN d → nuN d
  | .tx _, _ => trivial
  | .el _ _ ks, h => by simp only [nuN]; exact nt_nuS false ks (by simpa only [ntN] using h)
  | .aw _ _, h => h.elim
theorem nt_nuS : ∀ (b : Bool) (ks : List Nd), ntS b ks → nuS ks
  | _, [], _ => by simp only [nuS]
  | b, d :: r, h => by
    obtain ⟨h1, _, h3⟩ : ntN d ∧ (b = true → isT d = false) ∧ ntS (isT d) r := by simpa only [ntS] using h
    simp only [nuS]
    exact ⟨nt_nuN d h1, nt_nuS _ r h3⟩
end
section
variable (f : Int → List Nat)
theorem catW_sn : ∀ (a : List Nd) (b : Bool) (d : Nd), catW f b (a ++ [d]) = catW f b a ++ ((if (if a = [] then b else lastT a) && isT d then zT else []) ++ pieceW f d)
  | [], b, d => by simp [catW]
  | e :: a, b, d => by
    rw [List.cons_append]
    simp only [catW]
    rw [catW_sn a (isT e) d, if_neg (by simp : ¬ (e :: a = []))]
    have : (if a = [] then isT e else lastT a) = lastT (e :: a) := by
      cases a with
      | nil => simp [lastT]
      | cons x xs =>
        rw [if_neg (by simp)]
        unfold lastT
        rw [List.getLast?_cons_cons]
    rw [this]
    simp
theorem catW_sn0 (a : List Nd) (d : Nd) : catW f false (a ++ [d]) = catW f false a ++ ((if lastT a && isT d then zT else []) ++ pieceW f d) := by
  rw [catW_sn]
  cases a with
  | nil => simp [lastT]
  | cons x xs =>
    have e : (if (x :: xs) = [] then false else lastT (x :: xs)) = lastT (x :: xs) := if_neg (by simp)
    rw [e]
theorem lastT_sn (a : List Nd) (d : Nd) : lastT (a ++ [d]) = isT d := by
  unfold lastT
  rw [List.getLast?_concat]
mutual
theorem pieceW_len (hf : ∀ i, 0 ≤ i → i < 10 ^ 30 → (f i).length ≤ 30) : ∀ d : Nd, nuN d → (pieceW f d).length + 8 ≤ wN d
  | .tx x, _ => by
    have := escT_len x
    simp only [pieceW, wN]
    split <;> simp <;> omega
  | .el t as ks, h => by
    have := elem_len t as (catW f false ks)
    have := catW_len hf false ks (by simpa only [nuN] using h)
    simp only [pieceW, wN]
    omega
  | .aw n ks, h => by
    obtain ⟨h1, h2⟩ : (∀ i, n = some i → 0 ≤ i ∧ i < 10 ^ 30) ∧ nuS ks := by simpa only [nuN] using h
    have := catW_len hf false ks h2
    have : (numL f n).length ≤ 30 := by
      cases n with
      | none => simp [numL]
      | some i => exact hf i (h1 i rfl).1 (h1 i rfl).2
    simp only [pieceW, wN, List.length_append, List.length_cons, List.length_nil]
    omega
theorem catW_len (hf : ∀ i, 0 ≤ i → i < 10 ^ 30 → (f i).length ≤ 30) : ∀ (b : Bool) (ks : List Nd), nuS ks → (catW f b ks).length ≤ wS ks
  | _, [], _ => by simp [catW, wS]
  | b, d :: r, h => by
    obtain ⟨h1, h2⟩ : nuN d ∧ nuS r := by simpa only [nuS] using h
    have := pieceW_len hf d h1
    have := catW_len hf (isT d) r h2
    simp only [catW, wS, List.length_append]
    split <;> simp <;> omega
end
end
end VL
namespace VL
theorem len_jnS (acc : List Nd) (d : Nd) : (jnS acc d).length ≤ acc.length + 1 := by
  rcases snoc_cases acc with rfl | ⟨a, e, rfl⟩
  · rw [jnS_nil]; simp
  · rw [jnS_sn]
    cases d with
    | tx y => cases e <;> simp
    | el t as ks => cases e <;> simp
    | aw n ks => cases e <;> simp
theorem len_fold : ∀ (l acc : List Nd), (l.foldl jnS acc).length ≤ acc.length + l.length
  | [], acc => by simp
  | d :: l, acc => by
    have h1 := len_fold l (jnS acc d)
    have h2 := len_jnS acc d
    simp only [List.foldl_cons, List.length_cons]
    omega
theorem jn_snoc (l : List Nd) (d : Nd) : jn (l ++ [d]) = jnS (jn l) d := by
  unfold jn
  rw [List.foldl_append]
  rfl
end VL

set_option linter.all false
set_option maxRecDepth 100000
namespace VL
open PySem PySem.Spec PyProof.Rows L2
/-! ### the reader of written trees -/
inductive Hd where
  | el (t : List Nat) (as : List (List Nat × List Nat))
  | aw (n : Option Int)
def Hd.close : Hd → List Nd → Nd
  | .el t as, ks => .el t as ks
  | .aw n, ks => .aw n ks
structure RS where
  R : List Nat
  ls : List (List Nd)
  ar : List Hd
  ns : List (List Nat)
  bh : Bool
/-- whether a mark stands there; none: the text ends within it -/
def sd (m R : List Nat) : Option Bool := if R.take m.length = m then some true else if (R.take m.length).isPrefixOf m then none else some false
def marks4 : List (List Nat × Nat) := [(zAmp, 38), (zLt, 60), (zGt, 62), (zQuot, 34)]
def escR (R : List Nat) : List (List Nat × Nat) → Except Nat (Nat × List Nat)
  | [] => .error R.length
  | p :: r => match sd p.1 R with
    | none => .error 0
    | some true => .ok (p.2, R.drop p.1.length)
    | some false => escR R r
def takeS (e : Nat) : Nat → List Nat → Except Nat (List Nat × List Nat)
  | 0, R => .ok ([], R)
  | _ + 1, [] => .ok ([], [])
  | f + 1, c :: r => if c = e then .ok ([], c :: r) else
    if c = 38 then match escR (c :: r) marks4 with
      | .error k => .error k
      | .ok (s, R') => match takeS e f R' with
        | .error k => .error k
        | .ok (l, R2) => .ok (s :: l, R2)
    else match takeS e f r with
      | .error k => .error k
      | .ok (l, R2) => .ok (c :: l, R2)
def isSm (c : Nat) : Bool := decide (97 ≤ c) && decide (c ≤ 122)
def isDi (c : Nat) : Bool := decide (48 ≤ c) && decide (c ≤ 57)
def isWd (c : Nat) : Bool := isSm c || isDi c || decide (c = 45)
def wordR : List Nat → List Nat × List Nat
  | [] => ([], [])
  | c :: r => if isSm c then ((c :: r).takeWhile isWd, (c :: r).dropWhile isWd) else ([], c :: r)
def attR (names : List (List Nat)) (R : List Nat) : Except Nat ((List Nat × List Nat) × List Nat) :=
  if R.head? ≠ some 32 then .error R.length else
  if (wordR R.tail).1 = [] ∧ (wordR R.tail).2 ≠ [] then .error R.length else
  match sd [61, 34] (wordR R.tail).2 with
  | none => .error 0
  | some false => .error R.length
  | some true => if (wordR R.tail).1 ∈ names then .error R.tail.length else
    match takeS 34 ((wordR R.tail).2.drop 2).length ((wordR R.tail).2.drop 2) with
    | .error k => .error k
    | .ok (v, R2) => if R2 = [] then .error 0 else .ok (((wordR R.tail).1, v), R2.tail)
def attsR : Nat → List (List Nat × List Nat) → List Nat → Except Nat (List (List Nat × List Nat) × List Nat)
  | 0, _, _ => .error 0
  | f + 1, acc, R => match sd [62] R with
    | none => .error 0
    | some true => .ok (acc, R.tail)
    | some false => match attR (acc.map (·.1)) R with
      | .error k => .error k
      | .ok (a, R') => attsR f (acc ++ [a]) R'
def push (d : Nd) : List (List Nd) → List (List Nd)
  | [] => []
  | l :: r => (l ++ [d]) :: r
/-- the innermost node ends -/
def popN (s : RS) (R : List Nat) : RS := match s.ls, s.ar with
  | ks :: ls, h :: ar => ⟨R, push (h.close ks) ls, ar, s.ns, false⟩
  | ls, ar => ⟨R, ls, ar, s.ns, false⟩
abbrev zA0 : List Nat := [60, 33, 45, 45, 91, 45, 45, 62]
def waitR (s : RS) : Except Nat RS := match sd zA s.R with
  | none => .error 0
  | some false => .error s.R.length
  | some true => if (s.R.drop 5).takeWhile isDi = [] then .error s.R.length else
    match sd zB ((s.R.drop 5).dropWhile isDi) with
    | none => .error 0
    | some false => .error s.R.length
    | some true => if ((s.R.drop 5).takeWhile isDi).head? = some 48 ∨ 9 < ((s.R.drop 5).takeWhile isDi).length ∨ (s.R.drop 5).takeWhile isDi ∈ s.ns then .error s.R.length else
      if 40 < s.ls.length then .error s.R.length else
      .ok ⟨((s.R.drop 5).dropWhile isDi).drop 3, [] :: s.ls, .aw (some ((NumText.digitsVal ((s.R.drop 5).takeWhile isDi) : Nat) : Int)) :: s.ar, s.ns ++ [(s.R.drop 5).takeWhile isDi], false⟩
def commR (s : RS) : Except Nat RS := match sd zE s.R with
  | none => .error 0
  | some true => if 40 < s.ls.length then .error s.R.length else .ok ⟨s.R.drop 8, push (.tx []) s.ls, s.ar, s.ns, false⟩
  | some false => match sd zT s.R with
    | none => .error 0
    | some true => if s.bh = false ∨ (s.R.drop 8).head? = none ∨ (s.R.drop 8).head? = some 60 then .error s.R.length else .ok ⟨s.R.drop 8, s.ls, s.ar, s.ns, false⟩
    | some false => match sd zA0 s.R with
      | none => .error 0
      | some true => if 40 < s.ls.length then .error s.R.length else .ok ⟨s.R.drop 8, [] :: s.ls, .aw none :: s.ar, s.ns, false⟩
      | some false => match sd zC s.R with
        | none => .error 0
        | some true => match s.ar with
          | .aw _ :: _ => .ok (popN s (s.R.drop 8))
          | _ => .error s.R.length
        | some false => waitR s
def endR (s : RS) : Except Nat RS := match s.ar with
  | .el t _ :: _ => match sd ([60, 47] ++ t ++ [62]) s.R with
    | none => .error 0
    | some false => .error s.R.length
    | some true => .ok (popN s (s.R.drop (t.length + 3)))
  | _ => .error s.R.length
def startR (s : RS) : Except Nat RS := if 40 < s.ls.length then .error s.R.length else
  match attsR s.R.length [] (wordR s.R.tail).2 with
  | .error k => .error k
  | .ok (as, R') => .ok ⟨R', [] :: s.ls, .el (wordR s.R.tail).1 as :: s.ar, s.ns, false⟩
def hdSm : List Nat → Bool
  | [] => false
  | c :: _ => isSm c
def piece (s : RS) : Except Nat RS := if s.R.head? ≠ some 60 then
    (if 40 < s.ls.length then .error s.R.length else match takeS 60 s.R.length s.R with
      | .error k => .error k
      | .ok (l, R') => .ok ⟨R', push (.tx l) s.ls, s.ar, s.ns, true⟩)
  else if hdSm s.R.tail = true then startR s
  else match sd [60, 47] s.R with
    | none => .error 0
    | some true => endR s
    | some false => commR s
def runR : Nat → RS → Except Nat RS
  | 0, s => .ok s
  | f + 1, s => if s.R = [] then .ok s else match piece s with
    | .error k => .error k
    | .ok s' => runR f s'
def s0 (T : List Nat) : RS := ⟨T, [[]], [], [], false⟩
/-- the tree of a text, or how far from its end the fault is -/
def readT (T : List Nat) : Except Nat (List Nd) := match runR T.length (s0 T) with
  | .error k => .error k
  | .ok s => if s.ar = [] then .ok (s.ls.headD []) else .error 0
/-! ### what is written is read -/
inductive Steps : RS → RS → Prop
  | refl (s : RS) : Steps s s
  | step {s s' t : RS} : s.R ≠ [] → s'.R.length < s.R.length → piece s = .ok s' → Steps s' t → Steps s t
theorem Steps.trans {a b c : RS} (h : Steps a b) (k : Steps b c) : Steps a c := by
  induction h with
  | refl => exact k
  | step h1 h2 h3 _ ih => exact .step h1 h2 h3 (ih k)
theorem Steps.run {s t : RS} (h : Steps s t) (ht : t.R = []) : ∀ f, s.R.length ≤ f → runR f s = .ok t := by
  induction h with
  | refl s =>
    intro f _
    cases f with
    | zero => rfl
    | succ f => simp [runR, ht]
  | step h1 h2 h3 _ ih =>
    intro f hf
    cases f with
    | zero => exact absurd (List.length_eq_zero_iff.mp (by omega)) h1
    | succ f =>
      simp only [runR]
      rw [if_neg h1, h3]
      exact ih ht f (by omega)
theorem sd_yes {m r : List Nat} : sd m (m ++ r) = some true := by
  unfold sd
  rw [List.take_left]
  simp
theorem sd_no {m R : List Nat} {i : Nat} {a b : Nat} (hm : m[i]? = some a) (hR : R[i]? = some b) (h : a ≠ b) : sd m R = some false := by
  have him := (List.getElem?_eq_some_iff.mp hm).1
  have hT : (R.take m.length)[i]? = some b := by rw [List.getElem?_take, if_pos him, hR]
  unfold sd
  rw [if_neg (fun e => by rw [e, hm] at hT; exact h (Option.some.inj hT)), if_neg]
  intro hp
  obtain ⟨t, ht⟩ := List.isPrefixOf_iff_prefix.mp hp
  have : m[i]? = some b := by
    rw [← ht, List.getElem?_append_left (List.getElem?_eq_some_iff.mp hT).1]
    exact hT
  rw [hm] at this
  exact h (Option.some.inj this)
/-- the marks of the text's signs -/
def escG (g : Nat → List Nat) (l : List Nat) : List Nat := l.flatMap g
def gT (d : Nat) : List Nat := if d = 38 then zAmp else if d = 60 then zLt else if d = 62 then zGt else [d]
def gV (d : Nat) : List Nat := if d = 38 then zAmp else if d = 60 then zLt else if d = 34 then zQuot else [d]
/-- the text with > left as it is -/
def gU (d : Nat) : List Nat := if d = 38 then zAmp else if d = 60 then zLt else [d]
theorem flat_id {α β γ : Type} (f : α → List β) (g : β → List γ) (h : α → List γ) (hh : ∀ a, (f a).flatMap g = h a) : ∀ l : List α, (l.flatMap f).flatMap g = l.flatMap h
  | [] => rfl
  | a :: l => by simp [List.flatMap_cons, List.flatMap_append, hh a, flat_id f g h hh l]
theorem esc_two (l : List Nat) : esc1 60 zLt (esc1 38 zAmp l) = l.flatMap gU := by
  unfold esc1
  refine flat_id _ _ _ (fun d => ?_) l
  unfold gU
  by_cases h1 : d = 38
  · rw [if_pos h1, if_pos h1]
    decide
  · rw [if_neg h1, if_neg h1]
    simp
theorem escT_g (l : List Nat) : escT l = l.flatMap gT := by
  unfold escT
  rw [esc_two]
  unfold esc1
  refine flat_id _ _ _ (fun d => ?_) l
  unfold gT gU
  by_cases h1 : d = 38
  · rw [if_pos h1, if_pos h1]
    decide
  · by_cases h2 : d = 60
    · rw [if_neg h1, if_neg h1, if_pos h2, if_pos h2]
      decide
    · rw [if_neg h1, if_neg h1, if_neg h2, if_neg h2]
      simp
theorem escV_g (l : List Nat) : escV l = l.flatMap gV := by
  unfold escV
  rw [esc_two]
  unfold esc1
  refine flat_id _ _ _ (fun d => ?_) l
  unfold gV gU
  by_cases h1 : d = 38
  · rw [if_pos h1, if_pos h1]
    decide
  · by_cases h2 : d = 60
    · rw [if_neg h1, if_neg h1, if_pos h2, if_pos h2]
      decide
    · rw [if_neg h1, if_neg h1, if_neg h2, if_neg h2]
      simp
/-- a way of writing signs that the reader takes back, up to e -/
def Back (e : Nat) (g : Nat → List Nat) : Prop := ∀ d, (d ≠ e ∧ d ≠ 38 ∧ g d = [d]) ∨ (g d = zAmp ∧ d = 38) ∨ (g d = zLt ∧ d = 60) ∨ (g d = zGt ∧ d = 62) ∨ (g d = zQuot ∧ d = 34)
theorem esc_amp {r : List Nat} : escR (zAmp ++ r) marks4 = .ok (38, r) := by
  unfold marks4 escR
  rw [sd_yes]
  rfl
theorem esc_lt {r : List Nat} : escR (zLt ++ r) marks4 = .ok (60, r) := by
  unfold marks4 escR
  rw [sd_no (i := 1) (a := 97) (b := 108) rfl rfl (by decide)]
  show escR (zLt ++ r) [(zLt, 60), (zGt, 62), (zQuot, 34)] = _
  unfold escR
  rw [sd_yes]
  rfl
theorem esc_gt {r : List Nat} : escR (zGt ++ r) marks4 = .ok (62, r) := by
  unfold marks4 escR
  rw [sd_no (i := 1) (a := 97) (b := 103) rfl rfl (by decide)]
  show escR (zGt ++ r) [(zLt, 60), (zGt, 62), (zQuot, 34)] = _
  unfold escR
  rw [sd_no (i := 1) (a := 108) (b := 103) rfl rfl (by decide)]
  show escR (zGt ++ r) [(zGt, 62), (zQuot, 34)] = _
  unfold escR
  rw [sd_yes]
  rfl
theorem esc_quot {r : List Nat} : escR (zQuot ++ r) marks4 = .ok (34, r) := by
  unfold marks4 escR
  rw [sd_no (i := 1) (a := 97) (b := 113) rfl rfl (by decide)]
  show escR (zQuot ++ r) [(zLt, 60), (zGt, 62), (zQuot, 34)] = _
  unfold escR
  rw [sd_no (i := 1) (a := 108) (b := 113) rfl rfl (by decide)]
  show escR (zQuot ++ r) [(zGt, 62), (zQuot, 34)] = _
  unfold escR
  rw [sd_no (i := 1) (a := 103) (b := 113) rfl rfl (by decide)]
  show escR (zQuot ++ r) [(zQuot, 34)] = _
  unfold escR
  rw [sd_yes]
  rfl
theorem take_read {e : Nat} {g : Nat → List Nat} (he : e ≠ 38) (hg : Back e g) : ∀ (l : List Nat) (Z : List Nat) (f : Nat), (Z = [] ∨ Z.head? = some e) → (l.flatMap g ++ Z).length ≤ f → takeS e f (l.flatMap g ++ Z) = .ok (l, Z)
  | [], Z, f, hZ, hf => by
    cases f with
    | zero =>
      have : Z = [] := List.length_eq_zero_iff.mp (by simpa using hf)
      subst this
      rfl
    | succ f =>
      rcases hZ with rfl | hZ
      · rfl
      · cases Z with
        | nil => cases hZ
        | cons c r =>
          cases hZ
          simp [takeS]
  | d :: l, Z, f, hZ, hf => by
    have esc : ∀ (z : List Nat) (t : List Nat), z = 38 :: t → g d = z → (∀ r, escR (z ++ r) marks4 = .ok (d, r)) → takeS e f ((d :: l).flatMap g ++ Z) = .ok (d :: l, Z) := fun z t hz hgd hes => by
      have e1 : (d :: l).flatMap g ++ Z = z ++ (l.flatMap g ++ Z) := by rw [List.flatMap_cons, hgd, List.append_assoc]
      rw [e1] at hf ⊢
      subst hz
      cases f with
      | zero => simp at hf
      | succ f =>
        have ih := take_read he hg l Z f hZ (by simp only [List.cons_append, List.length_cons, List.length_append] at hf ⊢; omega)
        have h2 := hes (l.flatMap g ++ Z)
        simp only [List.cons_append] at h2 ⊢
        simp only [takeS]
        rw [if_neg (Ne.symm he), if_pos trivial, h2]
        simp only
        rw [ih]
    rcases hg d with ⟨h1, h2, h3⟩ | ⟨h1, h2⟩ | ⟨h1, h2⟩ | ⟨h1, h2⟩ | ⟨h1, h2⟩
    · have e1 : (d :: l).flatMap g ++ Z = d :: (l.flatMap g ++ Z) := by rw [List.flatMap_cons, h3]; rfl
      rw [e1] at hf ⊢
      cases f with
      | zero => simp at hf
      | succ f =>
        have ih := take_read he hg l Z f hZ (by simpa using hf)
        simp only [takeS]
        rw [if_neg h1, if_neg h2, ih]
    · exact esc zAmp _ rfl h1 (fun r => by rw [h2]; exact esc_amp)
    · exact esc zLt _ rfl h1 (fun r => by rw [h2]; exact esc_lt)
    · exact esc zGt _ rfl h1 (fun r => by rw [h2]; exact esc_gt)
    · exact esc zQuot _ rfl h1 (fun r => by rw [h2]; exact esc_quot)
theorem back_T : Back 60 gT := fun d => by
  unfold gT
  by_cases h1 : d = 38
  · exact .inr (.inl ⟨if_pos h1, h1⟩)
  by_cases h2 : d = 60
  · exact .inr (.inr (.inl ⟨by rw [if_neg h1, if_pos h2], h2⟩))
  by_cases h3 : d = 62
  · exact .inr (.inr (.inr (.inl ⟨by rw [if_neg h1, if_neg h2, if_pos h3], h3⟩)))
  · exact .inl ⟨h2, h1, by rw [if_neg h1, if_neg h2, if_neg h3]⟩
theorem back_U : Back 60 gU := fun d => by
  unfold gU
  by_cases h1 : d = 38
  · exact .inr (.inl ⟨if_pos h1, h1⟩)
  by_cases h2 : d = 60
  · exact .inr (.inr (.inl ⟨by rw [if_neg h1, if_pos h2], h2⟩))
  · exact .inl ⟨h2, h1, by rw [if_neg h1, if_neg h2]⟩
theorem back_V : Back 34 gV := fun d => by
  unfold gV
  by_cases h1 : d = 38
  · exact .inr (.inl ⟨if_pos h1, h1⟩)
  by_cases h2 : d = 60
  · exact .inr (.inr (.inl ⟨by rw [if_neg h1, if_pos h2], h2⟩))
  by_cases h3 : d = 34
  · exact .inr (.inr (.inr (.inr ⟨by rw [if_neg h1, if_neg h2, if_pos h3], h3⟩)))
  · exact .inl ⟨h3, h1, by rw [if_neg h1, if_neg h2, if_neg h3]⟩
end VL

set_option linter.all false
set_option maxRecDepth 100000
namespace VL
open PySem PySem.Spec PyProof.Rows L2
def wOk (t : List Nat) : Prop := (∃ c r, t = c :: r ∧ isSm c = true) ∧ ∀ c ∈ t, isWd c = true
def stop (Z : List Nat) : Prop := ∀ c, Z.head? = some c → isWd c = false
theorem tw_all {p : Nat → Bool} {t Z : List Nat} (h : ∀ c ∈ t, p c = true) (hZ : ∀ c, Z.head? = some c → p c = false) : (t ++ Z).takeWhile p = t ∧ (t ++ Z).dropWhile p = Z := by
  induction t with
  | nil =>
    cases Z with
    | nil => exact ⟨rfl, rfl⟩
    | cons c r =>
      have := hZ c rfl
      simp [this]
  | cons c t ih =>
    have h1 := h c List.mem_cons_self
    have := ih fun d hd => h d (List.mem_cons_of_mem _ hd)
    simp [h1, this.1, this.2]
theorem word_read {t Z : List Nat} (h : wOk t) (hZ : stop Z) : wordR (t ++ Z) = (t, Z) := by
  obtain ⟨⟨c, r, rfl, hc⟩, ha⟩ := h
  have := tw_all ha hZ
  show (if isSm c then ((c :: (r ++ Z)).takeWhile isWd, (c :: (r ++ Z)).dropWhile isWd) else _) = _
  rw [if_pos hc]
  exact Prod.ext this.1 this.2
theorem stop_cons {c : Nat} {Z : List Nat} (h : isWd c = false) : stop (c :: Z) := fun d hd => by cases hd; exact h
theorem pair_eq (a : List Nat × List Nat) (Z : List Nat) : pairL a ++ Z = 32 :: (a.1 ++ ([61, 34] ++ (a.2.flatMap gV ++ 34 :: Z))) := by
  unfold pairL
  rw [escV_g]
  simp
theorem att_read {names : List (List Nat)} {a : List Nat × List Nat} {Z : List Nat} (h : wOk a.1) (hn : a.1 ∉ names) : attR names (pairL a ++ Z) = .ok (a, Z) := by
  rw [pair_eq]
  have hw := word_read h (stop_cons (Z := 34 :: (a.2.flatMap gV ++ 34 :: Z)) (c := 61) (by decide))
  have hw : wordR (a.1 ++ ([61, 34] ++ (a.2.flatMap gV ++ 34 :: Z))) = (a.1, [61, 34] ++ (a.2.flatMap gV ++ 34 :: Z)) := hw
  have ne : a.1 ≠ [] := by
    obtain ⟨⟨c, r, e, _⟩, _⟩ := h
    rw [e]
    exact List.cons_ne_nil _ _
  unfold attR
  rw [if_neg (by simp), List.tail_cons, hw]
  simp only
  rw [if_neg (fun z => ne z.1), sd_yes]
  simp only
  rw [if_neg hn]
  have e2 : ([61, 34] ++ (a.2.flatMap gV ++ 34 :: Z)).drop 2 = a.2.flatMap gV ++ 34 :: Z := rfl
  rw [e2, take_read (by decide) back_V a.2 (34 :: Z) _ (.inr rfl) (Nat.le_refl _)]
  simp
theorem atts_read : ∀ (as acc : List (List Nat × List Nat)) (Z : List Nat) (f : Nat), ((acc ++ as).map (·.1)).Nodup → (∀ a ∈ as, wOk a.1) → as.length < f → attsR f acc (as.flatMap pairL ++ 62 :: Z) = .ok (acc ++ as, Z)
  | [], acc, Z, f, hn, hw, hf => by
    cases f with
    | zero => exact absurd hf (Nat.not_lt_zero _)
    | succ f =>
      show attsR (f + 1) acc ([62] ++ Z) = _
      simp only [attsR]
      rw [sd_yes]
      simp
  | a :: as, acc, Z, f, hn, hw, hf => by
    cases f with
    | zero => exact absurd hf (Nat.not_lt_zero _)
    | succ f =>
      have e1 : (a :: as).flatMap pairL ++ 62 :: Z = pairL a ++ (as.flatMap pairL ++ 62 :: Z) := by rw [List.flatMap_cons, List.append_assoc]
      rw [e1]
      simp only [attsR]
      have e2 : sd [62] (pairL a ++ (as.flatMap pairL ++ 62 :: Z)) = some false := sd_no (i := 0) (a := 62) (b := 32) rfl (by rw [pair_eq]; rfl) (by decide)
      have hn1 : a.1 ∉ acc.map (·.1) := by
        rw [List.map_append, List.map_cons, List.nodup_append] at hn
        intro z
        exact hn.2.2 _ z _ List.mem_cons_self rfl
      rw [e2, att_read (hw a List.mem_cons_self) hn1]
      simp only
      rw [atts_read as (acc ++ [a]) Z f (by rw [List.append_assoc]; exact hn) (fun b hb => hw b (List.mem_cons_of_mem _ hb)) (by simpa using hf), List.append_assoc]
      rfl
/-! ### trees -/
section
variable (f : Int → List Nat) (g : Nat → List Nat)
mutual
def pieceG : Nd → List Nat
  | .tx x => if x = [] then zE else x.flatMap g
  | .el t as ks => elemL t as (ctG false ks)
  | .aw n ks => zA ++ numL f n ++ zB ++ ctG false ks ++ zC
def ctG : Bool → List Nd → List Nat
  | _, [] => []
  | b, d :: r => (if b && isT d then zT else []) ++ pieceG d ++ ctG (isT d) r
end
end
mutual
theorem pieceG_W (f : Int → List Nat) : ∀ d : Nd, pieceG f gT d = pieceW f d
  | .tx x => by simp only [pieceG, pieceW, escT_g]
  | .el t as ks => by simp only [pieceG, pieceW, ctG_W f false ks]
  | .aw n ks => by simp only [pieceG, pieceW, ctG_W f false ks]
theorem ctG_W (f : Int → List Nat) : ∀ (b : Bool) (ks : List Nd), ctG f gT b ks = catW f b ks
  | b, [] => by simp only [ctG, catW]
  | b, d :: r => by simp only [ctG, catW, pieceG_W f d, ctG_W f (isT d) r]
end
mutual
def okN : Nd → Prop
  | .tx _ => True
  | .el t as ks => wOk t ∧ (as.map (·.1)).Nodup ∧ (∀ a ∈ as, wOk a.1) ∧ okS ks
  | .aw n ks => (∀ i, n = some i → 1 ≤ i ∧ i < 10 ^ 9) ∧ okS ks
def okS : List Nd → Prop
  | [] => True
  | d :: r => okN d ∧ okS r
end
mutual
def dN : Nd → Nat
  | .tx _ => 1
  | .el _ _ ks => 1 + dS ks
  | .aw _ ks => 1 + dS ks
def dS : List Nd → Nat
  | [] => 0
  | d :: r => max (dN d) (dS r)
end
mutual
/-- the numbers, in their order -/
def nmN : Nd → List Int
  | .tx _ => []
  | .el _ _ ks => nmS ks
  | .aw n ks => n.toList ++ nmS ks
def nmS : List Nd → List Int
  | [] => []
  | d :: r => nmN d ++ nmS r
end
def lastG : Bool → List Nd → Bool
  | b, [] => b
  | _, d :: r => lastG (isT d) r
def endsOk (Z : List Nat) : Prop := Z = [] ∨ Z.head? = some 60
section
variable {f : Int → List Nat} {g : Nat → List Nat}
structure Esc (g : Nat → List Nat) : Prop where
  b : Back 60 g
  h : ∀ d, ∃ c r, g d = c :: r ∧ c ≠ 60
theorem tx_hd (hg : Esc g) {x : List Nat} (hx : x ≠ []) : ∃ c r, x.flatMap g = c :: r ∧ c ≠ 60 := by
  cases x with
  | nil => exact absurd rfl hx
  | cons d x =>
    obtain ⟨c, r, e, hc⟩ := hg.h d
    exact ⟨c, r ++ x.flatMap g, by rw [List.flatMap_cons, e]; rfl, hc⟩
theorem head_G {r : List Nd} {Z : List Nat} (hZ : endsOk Z) : endsOk (ctG f g true r ++ Z) := by
  cases r with
  | nil => simpa only [ctG, List.nil_append] using hZ
  | cons d r =>
    right
    simp only [ctG, Bool.true_and]
    cases d with
    | tx x =>
      by_cases hx : x = []
      · subst hx
        simp [isT, pieceG]
      · simp [isT, hx]
    | el t as ks => simp [isT, pieceG, elemL]
    | aw n ks => simp [isT, pieceG]
end
end VL

set_option linter.all false
set_option maxRecDepth 100000
namespace VL
open PySem PySem.Spec PyProof.Rows L2
theorem Steps.one {s s' : RS} (h1 : s.R ≠ []) (h2 : s'.R.length < s.R.length) (h3 : piece s = .ok s') : Steps s s' := .step h1 h2 h3 (.refl _)
theorem num_hd {n c : Nat} {r : List Nat} (h : TL.numL n = c :: r) (hc : c = 48) : n = 0 := by
  induction n using Nat.strongRecOn generalizing c r with
  | _ n ih =>
    by_cases hn : n < 10
    · rw [TL.numL_lt hn] at h
      injection h with h1 _
      omega
    · rw [TL.numL_step (by omega)] at h
      cases hd : TL.numL (n / 10) with
      | nil => exact absurd hd (TL.numL_ne _)
      | cons c' r' =>
        rw [hd] at h
        injection h with h1 _
        have := ih (n / 10) (by omega) hd (by omega)
        omega
section
variable {f : Int → List Nat} {g : Nat → List Nat} {L : List Nd} {ls : List (List Nd)} {ar : List Hd} {ns : List (List Nat)} {b : Bool} {Z : List Nat}
theorem piece_lt {R : List Nat} {s : RS} (hs : s.R = 60 :: R) (h : hdSm R = false) : piece s = match sd [60, 47] s.R with
    | none => .error 0
    | some true => endR s
    | some false => commR s := by
  unfold piece
  rw [if_neg (by rw [hs]; simp), if_neg (by rw [hs, List.tail_cons, h]; simp)] <;> (cases sd [60, 47] s.R with | none => rfl | some b => cases b <;> rfl)
theorem step_text (hg : Esc g) {x : List Nat} (hx : x ≠ []) (hZ : endsOk Z) (hl : ls.length + 1 ≤ 40) : Steps ⟨x.flatMap g ++ Z, L :: ls, ar, ns, b⟩ ⟨Z, (L ++ [.tx x]) :: ls, ar, ns, true⟩ := by
  obtain ⟨c, r, e, hc⟩ := tx_hd hg hx
  refine .one (by rw [e]; simp) (by rw [e]; simp only [List.cons_append, List.length_cons, List.length_append]; omega) ?_
  unfold piece
  rw [if_pos (by rw [e]; simp [hc]), if_neg (by simp only [List.length_cons]; omega), take_read (by decide) hg.b x Z _ hZ (Nat.le_refl _)]
  rfl
theorem step_empty (hl : ls.length + 1 ≤ 40) : Steps ⟨zE ++ Z, L :: ls, ar, ns, b⟩ ⟨Z, (L ++ [.tx []]) :: ls, ar, ns, false⟩ := by
  refine .one (by simp) (by simp only [List.length_append]; simp) ?_
  rw [piece_lt (R := [33, 45, 45, 101, 45, 45, 62] ++ Z) rfl rfl, sd_no (i := 1) (a := 47) (b := 33) rfl rfl (by decide)]
  simp only
  unfold commR
  rw [sd_yes]
  simp only
  rw [if_neg (by simp only [List.length_cons]; omega)]
  rfl
theorem step_between (h : ∃ c r, Z = c :: r ∧ c ≠ 60) : Steps ⟨zT ++ Z, ls, ar, ns, true⟩ ⟨Z, ls, ar, ns, false⟩ := by
  obtain ⟨c, r, e, hc⟩ := h
  refine .one (by simp) (by simp only [List.length_append]; simp) ?_
  rw [piece_lt (R := [33, 45, 45, 116, 45, 45, 62] ++ Z) rfl rfl, sd_no (i := 1) (a := 47) (b := 33) rfl rfl (by decide)]
  simp only
  unfold commR
  rw [sd_no (i := 4) (a := 101) (b := 116) rfl rfl (by decide), sd_yes]
  simp only
  have e2 : (zT ++ Z).drop 8 = Z := rfl
  rw [e2, if_neg (by rw [e]; simp [hc])]
theorem step_aw0 (hl : ls.length ≤ 40) : Steps ⟨zA0 ++ Z, ls, ar, ns, b⟩ ⟨Z, [] :: ls, .aw none :: ar, ns, false⟩ := by
  refine .one (by simp) (by simp only [List.length_append]; simp) ?_
  rw [piece_lt (R := [33, 45, 45, 91, 45, 45, 62] ++ Z) rfl rfl, sd_no (i := 1) (a := 47) (b := 33) rfl rfl (by decide)]
  simp only
  unfold commR
  rw [sd_no (i := 4) (a := 101) (b := 91) rfl rfl (by decide), sd_no (i := 4) (a := 116) (b := 91) rfl rfl (by decide), sd_yes]
  simp only
  rw [if_neg (by omega)]
  rfl
theorem step_awE {n : Option Int} {K : List Nd} : Steps ⟨zC ++ Z, K :: L :: ls, .aw n :: ar, ns, b⟩ ⟨Z, (L ++ [.aw n K]) :: ls, ar, ns, false⟩ := by
  refine .one (by simp) (by simp only [List.length_append]; simp) ?_
  rw [piece_lt (R := [33, 45, 45, 93, 45, 45, 62] ++ Z) rfl rfl, sd_no (i := 1) (a := 47) (b := 33) rfl rfl (by decide)]
  simp only
  unfold commR
  rw [sd_no (i := 4) (a := 101) (b := 93) rfl rfl (by decide), sd_no (i := 4) (a := 116) (b := 93) rfl rfl (by decide), sd_no (i := 4) (a := 91) (b := 93) rfl rfl (by decide), sd_yes]
  rfl
theorem step_awN {i : Int} (h1 : 1 ≤ i) (h9 : i < 10 ^ 9) (hn : TL.numL i.toNat ∉ ns) (hl : ls.length ≤ 40) : Steps ⟨zA ++ TL.numL i.toNat ++ zB ++ Z, ls, ar, ns, b⟩ ⟨Z, [] :: ls, .aw (some i) :: ar, ns ++ [TL.numL i.toNat], false⟩ := by
  have ad := TL.numL_digits i.toNat
  have ad : ∀ c ∈ TL.numL i.toNat, isDi c = true := fun c hc => by
    have := ad c hc
    unfold isDi
    simpa using this
  have nz := TL.numL_ne i.toNat
  have hv := TL.numL_val i.toNat
  have hlen := TL.numL_len (n := i.toNat) (k := 9) (by decide) (by omega)
  have h0 : (TL.numL i.toNat).head? ≠ some 48 := fun z => by
    cases e : TL.numL i.toNat with
    | nil => exact nz e
    | cons c r =>
      rw [e] at z
      have := num_hd e (Option.some.inj z)
      omega
  generalize TL.numL i.toNat = D at ad nz hv hlen hn h0 ⊢
  have e1 : zA ++ D ++ zB ++ Z = zA ++ (D ++ (zB ++ Z)) := by simp
  rw [e1]
  obtain ⟨c, r, eD⟩ : ∃ c r, D = c :: r := by cases D with | nil => exact absurd rfl nz | cons c r => exact ⟨c, r, rfl⟩
  have hc : isDi c = true := ad c (by rw [eD]; exact List.mem_cons_self)
  have c45 : c ≠ 45 := fun z => by rw [z] at hc; exact absurd hc (by decide)
  have tw := tw_all (Z := zB ++ Z) ad (fun c hc => by cases hc; decide)
  refine .one (by simp) (by simp only [List.length_append]; simp; omega) ?_
  rw [piece_lt (R := [33, 45, 45, 91] ++ (D ++ (zB ++ Z))) rfl rfl, sd_no (i := 1) (a := 47) (b := 33) rfl rfl (by decide)]
  simp only
  unfold commR
  rw [sd_no (i := 4) (a := 101) (b := 91) rfl rfl (by decide), sd_no (i := 4) (a := 116) (b := 91) rfl rfl (by decide), sd_no (i := 5) (a := 45) (b := c) rfl (by rw [eD]; rfl) (Ne.symm c45), sd_no (i := 4) (a := 93) (b := 91) rfl rfl (by decide)]
  simp only
  unfold waitR
  rw [sd_yes]
  simp only
  have e2 : (zA ++ (D ++ (zB ++ Z))).drop 5 = D ++ (zB ++ Z) := rfl
  rw [e2, tw.1, tw.2, if_neg nz, sd_yes]
  simp only
  rw [if_neg (fun z => z.elim h0 (fun z => z.elim (fun z => absurd z (by omega)) hn)), if_neg (by omega), hv]
  have : ((i.toNat : Nat) : Int) = i := by omega
  rw [this]
  rfl
theorem step_el {t : List Nat} {as : List (List Nat × List Nat)} (ht : wOk t) (hn : (as.map (·.1)).Nodup) (hw : ∀ a ∈ as, wOk a.1) (hl : ls.length ≤ 40) : Steps ⟨60 :: (t ++ (as.flatMap pairL ++ 62 :: Z)), ls, ar, ns, b⟩ ⟨Z, [] :: ls, .el t as :: ar, ns, false⟩ := by
  have hst : stop (as.flatMap pairL ++ 62 :: Z) := by
    cases as with
    | nil => exact stop_cons (by decide)
    | cons a as =>
      rw [List.flatMap_cons, List.append_assoc, pair_eq]
      exact stop_cons (by decide)
  have hwd := word_read ht hst
  obtain ⟨⟨c, r, rfl, hc⟩, ha⟩ := ht
  refine .one (by simp) (by simp; omega) ?_
  unfold piece
  rw [if_neg (by simp)]
  refine (if_pos hc).trans ?_
  unfold startR
  rw [if_neg (by show ¬ 40 < ls.length; omega)]
  show (match attsR _ [] (wordR ((c :: r) ++ (as.flatMap pairL ++ 62 :: Z))).2 with | .error k => _ | .ok (as, R') => _) = _
  rw [hwd]
  have hlen : as.length ≤ (as.flatMap pairL).length := by
    clear hst hwd hn hw
    induction as with
    | nil => exact Nat.zero_le _
    | cons a as ih =>
      rw [List.flatMap_cons, List.length_append, List.length_cons]
      have : 1 ≤ (pairL a).length := by unfold pairL; simp
      omega
  rw [atts_read as [] Z _ (by simpa using hn) hw (by simp only [List.length_cons, List.length_append]; omega)]
  show Except.ok (RS.mk Z ([] :: ls) (.el (wordR ((c :: r) ++ (as.flatMap pairL ++ 62 :: Z))).1 ([] ++ as) :: ar) ns false) = _
  rw [hwd]
  rfl
theorem step_elE {t : List Nat} {as : List (List Nat × List Nat)} {K : List Nd} : Steps ⟨[60, 47] ++ t ++ [62] ++ Z, K :: L :: ls, .el t as :: ar, ns, b⟩ ⟨Z, (L ++ [.el t as K]) :: ls, ar, ns, false⟩ := by
  have e1 : [60, 47] ++ t ++ [62] ++ Z = 60 :: 47 :: (t ++ 62 :: Z) := by simp
  have hsd : sd [60, 47] ([60, 47] ++ t ++ [62] ++ Z) = some true := by
    rw [show [60, 47] ++ t ++ [62] ++ Z = [60, 47] ++ (t ++ [62] ++ Z) by simp, sd_yes]
  refine .one (by simp) (by simp only [List.length_append]; simp) ?_
  rw [piece_lt (R := 47 :: (t ++ 62 :: Z)) e1 rfl, hsd]
  simp only
  unfold endR
  simp only
  rw [sd_yes]
  simp only
  have : (([60, 47] ++ t ++ [62]) ++ Z).drop (t.length + 3) = Z := by
    rw [List.drop_append_of_le_length (by simp)]
    rw [List.drop_eq_nil_of_le (by simp)]
    rfl
  rw [this]
  rfl
/-- how the numbers are written -/
def NumF (f : Int → List Nat) : Prop := ∀ i, 1 ≤ i → i < 10 ^ 9 → f i = TL.numL i.toNat
theorem num_ne (hf : NumF f) {i : Int} {ms : List Int} (hi : 1 ≤ i ∧ i < 10 ^ 9) (hms : ∀ m ∈ ms, 1 ≤ m ∧ m < 10 ^ 9) (h : i ∉ ms) : TL.numL i.toNat ∉ ms.map f := fun z => by
  obtain ⟨m, hm, e⟩ := List.mem_map.mp z
  have hm' := hms m hm
  rw [hf m hm'.1 hm'.2] at e
  have := TL.numL_inj e
  exact h (by rw [show i = m by omega]; exact hm)
mutual
theorem readN (hf : NumF f) (hg : Esc g) : ∀ (d : Nd) (Z : List Nat) (L : List Nd) (ls : List (List Nd)) (ar : List Hd) (ms : List Int) (b : Bool), okN d → ls.length + dN d ≤ 40 → (∀ m ∈ ms ++ nmN d, 1 ≤ m ∧ m < 10 ^ 9) → (ms ++ nmN d).Nodup → (isT d = true → endsOk Z) →
    Steps ⟨pieceG f g d ++ Z, L :: ls, ar, ms.map f, b⟩ ⟨Z, (L ++ [d]) :: ls, ar, (ms ++ nmN d).map f, isT d⟩
  | .tx x, Z, L, ls, ar, ms, b, _, hl, hm, hn, hZ => by
    simp only [pieceG, nmN, List.append_nil, dN] at hl ⊢
    by_cases hx : x = []
    · subst hx
      exact step_empty (by omega)
    · rw [if_neg hx]
      have e : isT (.tx x) = true := by simp [isT, hx]
      rw [e]
      exact step_text hg hx (hZ e) (by omega)
  | .el t as ks, Z, L, ls, ar, ms, b, ho, hl, hm, hn, hZ => by
    simp only [okN] at ho
    simp only [pieceG, nmN, dN] at hl hm hn ⊢
    obtain ⟨h1, h2, h3, h4⟩ := ho
    have e1 : elemL t as (ctG f g false ks) ++ Z = 60 :: (t ++ (as.flatMap pairL ++ 62 :: (ctG f g false ks ++ ([60, 47] ++ t ++ [62] ++ Z)))) := by
      unfold elemL
      simp
    rw [e1]
    refine (step_el h1 h2 h3 (by simp only [List.length_cons]; omega)).trans ?_
    refine (readS hf hg ks false ([60, 47] ++ t ++ [62] ++ Z) [] (L :: ls) (.el t as :: ar) ms h4 (by simp only [List.length_cons]; omega) hm hn (.inr rfl)).trans ?_
    rw [List.nil_append]
    exact step_elE
  | .aw n ks, Z, L, ls, ar, ms, b, ho, hl, hm, hn, hZ => by
    simp only [okN] at ho
    simp only [pieceG, nmN, dN] at hl hm hn ⊢
    cases n with
    | none =>
      simp only [Option.toList_none, List.nil_append] at hm hn ⊢
      have e1 : zA ++ numL f none ++ zB ++ ctG f g false ks ++ zC ++ Z = zA0 ++ (ctG f g false ks ++ (zC ++ Z)) := by simp [numL]
      rw [e1]
      refine (step_aw0 (by simp only [List.length_cons]; omega)).trans ?_
      refine (readS hf hg ks false (zC ++ Z) [] (L :: ls) (.aw none :: ar) ms ho.2 (by simp only [List.length_cons]; omega) hm hn (.inr rfl)).trans ?_
      rw [List.nil_append]
      exact step_awE
    | some i =>
      simp only [Option.toList_some] at hm hn ⊢
      have hi := ho.1 i rfl
      have e1 : zA ++ numL f (some i) ++ zB ++ ctG f g false ks ++ zC ++ Z = zA ++ TL.numL i.toNat ++ zB ++ (ctG f g false ks ++ (zC ++ Z)) := by
        simp [numL, hf i hi.1 hi.2]
      rw [e1]
      have hni : i ∉ ms := fun z => by
        rw [List.nodup_append] at hn
        exact hn.2.2 i z i (by simp) rfl
      have hmm : ∀ m ∈ ms, 1 ≤ m ∧ m < 10 ^ 9 := fun m h => hm m (List.mem_append_left _ h)
      refine (step_awN hi.1 hi.2 (num_ne hf hi hmm hni) (by simp only [List.length_cons]; omega)).trans ?_
      have e2 : ms.map f ++ [TL.numL i.toNat] = (ms ++ [i]).map f := by simp [hf i hi.1 hi.2]
      have e3 : ms ++ ([i] ++ nmS ks) = (ms ++ [i]) ++ nmS ks := by simp
      rw [e3] at hm hn ⊢
      rw [e2]
      refine (readS hf hg ks false (zC ++ Z) [] (L :: ls) (.aw (some i) :: ar) (ms ++ [i]) ho.2 (by simp only [List.length_cons]; omega) hm hn (.inr rfl)).trans ?_
      rw [List.nil_append]
      exact step_awE
theorem readS (hf : NumF f) (hg : Esc g) : ∀ (ks : List Nd) (b : Bool) (Z : List Nat) (L : List Nd) (ls : List (List Nd)) (ar : List Hd) (ms : List Int), okS ks → ls.length + dS ks ≤ 40 → (∀ m ∈ ms ++ nmS ks, 1 ≤ m ∧ m < 10 ^ 9) → (ms ++ nmS ks).Nodup → endsOk Z →
    Steps ⟨ctG f g b ks ++ Z, L :: ls, ar, ms.map f, b⟩ ⟨Z, (L ++ ks) :: ls, ar, (ms ++ nmS ks).map f, lastG b ks⟩
  | [], b, Z, L, ls, ar, ms, _, _, _, _, _ => by
    simp only [ctG, nmS, List.nil_append, List.append_nil, lastG]
    exact .refl _
  | d :: r, b, Z, L, ls, ar, ms, ho, hl, hm, hn, hZ => by
    simp only [okS] at ho
    simp only [nmS, dS] at hl hm hn ⊢
    have e3 : ms ++ (nmN d ++ nmS r) = (ms ++ nmN d) ++ nmS r := by simp
    rw [e3] at hm hn ⊢
    have hm1 : ∀ m ∈ ms ++ nmN d, 1 ≤ m ∧ m < 10 ^ 9 := fun m h => hm m (List.mem_append_left _ h)
    have hn1 : (ms ++ nmN d).Nodup := (List.nodup_append.mp hn).1
    have hZ2 : isT d = true → endsOk (ctG f g (isT d) r ++ Z) := fun e => by rw [e]; exact head_G hZ
    have main : ∀ b', Steps ⟨pieceG f g d ++ (ctG f g (isT d) r ++ Z), L :: ls, ar, ms.map f, b'⟩ ⟨Z, (L ++ (d :: r)) :: ls, ar, ((ms ++ nmN d) ++ nmS r).map f, lastG (isT d) r⟩ := fun b' => by
      refine (readN hf hg d (ctG f g (isT d) r ++ Z) L ls ar ms b' ho.1 (by omega) hm1 hn1 hZ2).trans ?_
      have := readS hf hg r (isT d) Z (L ++ [d]) ls ar (ms ++ nmN d) ho.2 (by omega) hm hn hZ
      rw [List.append_assoc] at this
      exact this
    show Steps ⟨(if b && isT d then zT else []) ++ pieceG f g d ++ ctG f g (isT d) r ++ Z, L :: ls, ar, ms.map f, b⟩ _
    by_cases hb : (b && isT d) = true
    · rw [if_pos hb]
      have e4 : zT ++ pieceG f g d ++ ctG f g (isT d) r ++ Z = zT ++ (pieceG f g d ++ (ctG f g (isT d) r ++ Z)) := by simp
      rw [e4]
      obtain ⟨hb1, hd⟩ := Bool.and_eq_true_iff.mp hb
      subst hb1
      refine (step_between ?_).trans (main false)
      cases d with
      | tx x =>
        have hx : x ≠ [] := by simpa [isT] using hd
        obtain ⟨c, r', e, hc⟩ := tx_hd hg hx
        refine ⟨c, r' ++ (ctG f g (isT (.tx x)) r ++ Z), ?_, hc⟩
        simp only [pieceG]
        rw [if_neg hx, e]
        rfl
      | el t as ks => cases hd
      | aw n ks => cases hd
    · rw [if_neg hb]
      have e4 : [] ++ pieceG f g d ++ ctG f g (isT d) r ++ Z = pieceG f g d ++ (ctG f g (isT d) r ++ Z) := by simp
      rw [e4]
      exact main b
end
theorem read_tree (hf : NumF f) (hg : Esc g) {ks : List Nd} (ho : okS ks) (hl : dS ks ≤ 40) (hm : ∀ m ∈ nmS ks, 1 ≤ m ∧ m < 10 ^ 9) (hn : (nmS ks).Nodup) : readT (ctG f g false ks) = .ok ks := by
  have h := readS hf hg ks false [] [] [] [] [] ho (by simpa using hl) (by simpa using hm) (by simpa using hn) (.inl rfl)
  rw [List.append_nil, List.nil_append, List.nil_append] at h
  have := h.run rfl _ (Nat.le_refl _)
  unfold readT s0
  show (match runR (ctG f g false ks).length ⟨ctG f g false ks, [[]], [], [], false⟩ with | .error k => _ | .ok s => _) = _
  rw [show runR (ctG f g false ks).length ⟨ctG f g false ks, [[]], [], [], false⟩ = _ from this]
  rfl
end
end VL

set_option linter.all false
set_option maxRecDepth 100000
namespace VL
open PySem PySem.Spec PyProof.Rows L2
/-! ### &gt; written as > -/
abbrev rG (l : List Nat) : List Nat := StrLaws.replL zGt [62] l
theorem rG_c {c : Nat} {r : List Nat} (h : c ≠ 38) : rG (c :: r) = c :: rG r := by
  unfold rG
  rw [StrLaws.replL_miss (fun e => absurd e (by simp [h]))]
theorem rG_w : ∀ (w r : List Nat), 38 ∉ w → rG (w ++ r) = w ++ rG r
  | [], r, _ => rfl
  | c :: w, r, h => by
    rw [List.cons_append, rG_c (fun e => h (by rw [e]; exact List.mem_cons_self)), rG_w w r fun z => h (List.mem_cons_of_mem _ z)]
    rfl
theorem rG_hit (r : List Nat) : rG (zGt ++ r) = 62 :: rG r := by
  unfold rG
  show StrLaws.replL zGt [62] (38 :: ([103, 116, 59] ++ r)) = _
  rw [StrLaws.replL_hit (by simp) (by simp)]
  rfl
theorem rG_38 {c : Nat} {r : List Nat} (h : c ≠ 103) : rG (38 :: c :: r) = 38 :: rG (c :: r) := by
  unfold rG
  rw [StrLaws.replL_miss (fun e => absurd e (by simp [h]))]
theorem rG_esc {c : Nat} {w r : List Nat} (h : c ≠ 103) (hc : c ≠ 38) (hw : 38 ∉ w) : rG ((38 :: c :: w) ++ r) = (38 :: c :: w) ++ rG r := by
  show rG (38 :: c :: (w ++ r)) = _
  rw [rG_38 h, rG_c hc, rG_w w r hw]
  rfl
theorem rG_T : ∀ (x r : List Nat), rG (x.flatMap gT ++ r) = x.flatMap gU ++ rG r
  | [], r => rfl
  | d :: x, r => by
    rw [List.flatMap_cons, List.flatMap_cons, List.append_assoc, List.append_assoc, ← rG_T x r]
    unfold gT gU
    by_cases h1 : d = 38
    · rw [if_pos h1, if_pos h1]
      exact rG_esc (c := 97) (w := [109, 112, 59]) (by decide) (by decide) (by decide)
    by_cases h2 : d = 60
    · rw [if_neg h1, if_pos h2, if_neg h1, if_pos h2]
      exact rG_esc (c := 108) (w := [116, 59]) (by decide) (by decide) (by decide)
    by_cases h3 : d = 62
    · rw [if_neg h1, if_neg h2, if_pos h3, if_neg h1, if_neg h2, h3]
      exact rG_hit _
    · rw [if_neg h1, if_neg h2, if_neg h3, if_neg h1, if_neg h2]
      exact rG_c h1
theorem rG_V : ∀ (x r : List Nat), rG (x.flatMap gV ++ r) = x.flatMap gV ++ rG r
  | [], r => rfl
  | d :: x, r => by
    rw [List.flatMap_cons, List.append_assoc, List.append_assoc, ← rG_V x r]
    unfold gV
    by_cases h1 : d = 38
    · rw [if_pos h1]
      exact rG_esc (c := 97) (w := [109, 112, 59]) (by decide) (by decide) (by decide)
    by_cases h2 : d = 60
    · rw [if_neg h1, if_pos h2]
      exact rG_esc (c := 108) (w := [116, 59]) (by decide) (by decide) (by decide)
    by_cases h3 : d = 34
    · rw [if_neg h1, if_neg h2, if_pos h3]
      exact rG_esc (c := 113) (w := [117, 111, 116, 59]) (by decide) (by decide) (by decide)
    · rw [if_neg h1, if_neg h2, if_neg h3]
      exact rG_c h1
theorem w38 {t : List Nat} (h : wOk t) : 38 ∉ t := fun z => absurd (h.2 38 z) (by decide)
theorem rG_pairs : ∀ (as : List (List Nat × List Nat)) (r : List Nat), (∀ a ∈ as, wOk a.1) → rG (as.flatMap pairL ++ r) = as.flatMap pairL ++ rG r
  | [], r, _ => rfl
  | a :: as, r, h => by
    rw [List.flatMap_cons, List.append_assoc, List.append_assoc, ← rG_pairs as r fun b hb => h b (List.mem_cons_of_mem _ hb), pair_eq, pair_eq, rG_c (by decide), rG_w _ _ (w38 (h a List.mem_cons_self)), rG_w [61, 34] _ (by decide), rG_V, rG_c (by decide)]
section
variable {f : Int → List Nat}
mutual
theorem rG_N (hf : ∀ i, 1 ≤ i → i < 10 ^ 9 → 38 ∉ f i) : ∀ (d : Nd) (r : List Nat), okN d → rG (pieceG f gT d ++ r) = pieceG f gU d ++ rG r
  | .tx x, r, _ => by
    simp only [pieceG]
    by_cases h : x = []
    · rw [if_pos h, if_pos h]
      exact rG_w _ _ (by decide)
    · rw [if_neg h, if_neg h]
      exact rG_T x r
  | .el t as ks, r, ho => by
    simp only [okN] at ho
    obtain ⟨h1, h2, h3, h4⟩ := ho
    simp only [pieceG]
    have e1 : ∀ (i r : List Nat), elemL t as i ++ r = [60] ++ (t ++ (as.flatMap pairL ++ ([62] ++ (i ++ ([60, 47] ++ (t ++ ([62] ++ r))))))) := fun i r => by
      unfold elemL
      simp
    rw [e1, e1, rG_w _ _ (by decide), rG_w _ _ (w38 h1), rG_pairs _ _ h3, rG_w [62] _ (by decide), rG_S hf false ks _ h4, rG_w [60, 47] _ (by decide), rG_w _ _ (w38 h1), rG_w [62] _ (by decide)]
  | .aw n ks, r, ho => by
    simp only [okN] at ho
    simp only [pieceG]
    have hn : 38 ∉ numL f n := by
      cases n with
      | none => simp [numL]
      | some i => exact hf i (ho.1 i rfl).1 (ho.1 i rfl).2
    have e1 : ∀ (i r : List Nat), zA ++ numL f n ++ zB ++ i ++ zC ++ r = zA ++ (numL f n ++ (zB ++ (i ++ (zC ++ r)))) := fun i r => by simp
    rw [e1, e1, rG_w _ _ (by decide), rG_w _ _ hn, rG_w zB _ (by decide), rG_S hf false ks _ ho.2, rG_w zC _ (by decide)]
theorem rG_S (hf : ∀ i, 1 ≤ i → i < 10 ^ 9 → 38 ∉ f i) : ∀ (b : Bool) (ks : List Nd) (r : List Nat), okS ks → rG (ctG f gT b ks ++ r) = ctG f gU b ks ++ rG r
  | b, [], r, _ => by simp only [ctG, List.nil_append]
  | b, d :: ks, r, ho => by
    simp only [okS] at ho
    simp only [ctG]
    have e1 : ∀ (w p q r : List Nat), w ++ p ++ q ++ r = w ++ (p ++ (q ++ r)) := fun w p q r => by simp
    rw [e1, e1, rG_w _ _ (by split <;> decide), rG_N hf d _ ho.1, rG_S hf (isT d) ks r ho.2]
end
end
theorem repl_gt {f : Int → List Nat} (hf : ∀ i, 1 ≤ i → i < 10 ^ 9 → 38 ∉ f i) {ks : List Nd} (ho : okS ks) : Txt.replace (TX (ctG f gT false ks)) (TX zGt) (TX [62]) = TX (ctG f gU false ks) := by
  have h := StrLaws.replace_list (x := TX (ctG f gT false ks)) (y := TX zGt) (z := TX [62]) (by rw [TX_len]; decide)
  rw [TX_tl, TX_tl, TX_tl] at h
  have e : StrLaws.replL zGt [62] (ctG f gT false ks) = ctG f gU false ks := by
    have := rG_S hf false ks [] ho
    unfold rG at this
    rw [List.append_nil, StrLaws.replL_nil, List.append_nil] at this
    exact this
  rw [e] at h
  calc Txt.replace (TX (ctG f gT false ks)) (TX zGt) (TX [62]) = TX (Txt.replace (TX (ctG f gT false ks)) (TX zGt) (TX [62])).cps.toList := by simp
    _ = _ := by rw [h]
theorem esc_T : Esc gT := ⟨back_T, fun d => by
  unfold gT
  by_cases h1 : d = 38
  · exact ⟨38, _, by rw [if_pos h1], by decide⟩
  by_cases h2 : d = 60
  · exact ⟨38, _, by rw [if_neg h1, if_pos h2], by decide⟩
  by_cases h3 : d = 62
  · exact ⟨38, _, by rw [if_neg h1, if_neg h2, if_pos h3], by decide⟩
  · exact ⟨d, _, by rw [if_neg h1, if_neg h2, if_neg h3], h2⟩⟩
theorem esc_U : Esc gU := ⟨back_U, fun d => by
  unfold gU
  by_cases h1 : d = 38
  · exact ⟨38, _, by rw [if_pos h1], by decide⟩
  by_cases h2 : d = 60
  · exact ⟨38, _, by rw [if_neg h1, if_pos h2], by decide⟩
  · exact ⟨d, _, by rw [if_neg h1, if_neg h2], h2⟩⟩
end VL

set_option Elab.async false
set_option linter.all false
set_option maxRecDepth 100000
set_option maxHeartbeats 4000000
namespace VL
open PySem PySem.Spec PyProof.Rows L2
/-! dict(list of pairs); != of dicts of texts -/
variable {X : Cx}
theorem call_dictL (hcalm : X.calm = true) : CallR X (.type "dict") (fun xs H Q => ∃ (a : Addr) (ps : List Addr) (kvs : List (Key × V)), xs = [.ref a] ∧ SqL X.K H a (ps.map V.ref) ∧ Paired (fun p kv => SqT X.K H p [kV kv.1, kv.2]) ps kvs ∧
    ∀ p, H p = none → Q (.ref p) (upd H p (.dK (mergeK [] kvs)))) := by
  intro pins s σ H xs us Q I r q
  obtain ⟨a, ps, kvs, ex, hq, hp, q⟩ := q
  subst ex
  obtain ⟨u, eu, rx⟩ := vals1 r
  subst eu
  cases rx
  obtain ⟨its, rv, pl, hz⟩ := I.list hq
  have ei := refs_at rv
  subst ei
  rw [List.length_map] at hz
  obtain ⟨prs, us, rel, hl, hul, hpr⟩ := pairs_ofU I hp
  have hps : PairItems s.heap (ps.map Value.ref).toArray (fun j => ps[j]?.getD 0) us := by
    refine ⟨by simp [hul], fun j k v e => ?_⟩
    obtain ⟨b, key, e1, e2, e3, e4⟩ := hpr j k v e
    obtain ⟨o2, h2, h3, n2, h4⟩ := id e2
    exact ⟨by simp [e1], by simp only [e1, Option.getD_some]; exact .inl ⟨o2, h2, h3, n2, h4⟩⟩
  refine PySem.call_dict_pairs (knd := mixKind X.prog X.w) (kvs := prs) (PairArg.list a _ _ us) (I.ok.hd hcalm) ⟨pl, hps⟩ ⟨by rw [hl, hul], fun i key v e => ?_⟩ (by rw [hul]; exact hz) fun h' tk hd' k => ?_
  · obtain ⟨b, kk, e1, e2, e3, e4⟩ := hpr i key v e
    exact ⟨kk, e3, e4⟩
  · have hm : (s.heap.objs.size == sysModules) = false := beq_eq_false_iff_ne.mpr (Nat.ne_of_gt I.big)
    have hlen : (mergeK [] kvs).length ≤ sizeLine := by
      refine Nat.le_trans (length_mergeK kvs []) ?_
      rw [List.length_nil, Nat.zero_add, rel.length, hl]
      exact hz
    exact ⟨.ref s.heap.objs.size, upd H s.heap.objs.size (.dK (mergeK [] kvs)), I.laid (t' := tk) (fun b o e => k b o (fun z => nomatch z) e) (Nat.le_refl _) (show ObjOk X.prog X.w _ _ _ (.dK (mergeK [] kvs)) from ⟨hlen, hm, merged [] prs, KV.merge rel .nil, hd'⟩), rfl, q _ (I.hok.fresh (Nat.le_refl _))⟩
/-- the outcome for each key of the first -/
def hitB (ls : List (Key × V)) : List (Key × V) → Bool
  | [] => true
  | (k, x) :: r => match valV ls k with
    | none => false
    | some y => eqV x y && hitB ls r
def TxtV (v : V) : Prop := ∃ x : Str, v = .str x
theorem hits_str {A : Around} {s : Shared} {ls : List (Key × V)} {vb : List (Key × Value)} (rb : KV ls vb) (hb : ∀ k y, valV ls k = some y → TxtV y) : ∀ {ks : List (Key × V)} {va : List (Key × Value)}, (∀ p ∈ ks, TxtV p.2) → KV ks va → PySem.W.KeqHits A s vb va (hitB ls ks)
  | [], _, _, ra => by
    cases ra with
    | nil => exact .nil
  | (k, x) :: r, _, ht, ra => by
    cases ra with
    | @cons _ q _ qs h tl =>
      obtain ⟨key, v⟩ := q
      obtain ⟨h1, h2⟩ := h
      have h1' : k = key := h1
      subst h1'
      obtain ⟨sx, rfl⟩ := ht (k, x) List.mem_cons_self
      have rr : RelO (valV ls k) (valueAt vb k) := rb.val k
      unfold hitB
      cases hv : valV ls k with
      | none =>
        rw [hv] at rr
        exact .miss (by
          cases e : valueAt vb k with
          | none => rfl
          | some z => rw [e] at rr; cases rr)
      | some y =>
        rw [hv] at rr
        obtain ⟨sy, rfl⟩ := hb k y hv
        obtain ⟨y', hy, ry⟩ := rr.some_of
        exact .hit hy (eqAt_V h2 ry rfl rfl) (hits_str rb hb (fun p hp => ht p (List.mem_cons_of_mem _ hp)) tl)
/-- x != y of two dicts whose values are texts -/
def rNeD : R2 := fun x y H Q => ∃ (a b : Addr) (ks ls : List (Key × V)), x = .ref a ∧ y = .ref b ∧ H a = some (.dK ks) ∧ H b = some (.dK ls) ∧ (∀ p ∈ ks, TxtV p.2) ∧ (∀ k y, valV ls k = some y → TxtV y) ∧ Q (.bl (!(ks.length == ls.length && hitB ls ks))) H
theorem op_neD (hu : X.A.units < cLine) : OpR X (compareOp .NotEq) rNeD := by
  intro pins s σ H x y v u Q I rx ry h
  obtain ⟨a, b, ks, ls, rfl, rfl, ha, hb, h1, h2, q⟩ := h
  cases (show v = Value.ref a from rx)
  cases (show u = Value.ref b from ry)
  obtain ⟨_, ya, va, ra, da⟩ := (show ObjOk X.prog X.w H s.heap a (.dK ks) from I.hok a _ ha)
  obtain ⟨_, yb, vb, rb, db⟩ := (show ObjOk X.prog X.w H s.heap b (.dK ls) from I.hok b _ hb)
  refine PySem.W.keq_ne (knd := mixKind X.prog X.w) ya yb da db hu (fun _ => hits_str rb h2 h1 ra) ?_
  rw [← ra.length, ← rb.length]
  exact ⟨.bl (!(ks.length == ls.length && hitB ls ks)), H, I, rfl, q⟩
end VL

set_option Elab.async false
set_option linter.all false
set_option maxRecDepth 100000
set_option maxHeartbeats 4000000
namespace VL
open PySem PySem.Spec PyProof.Rows L2

def top (i : Nat) : Stmt := PySem.Challenge.pw_viewloom_k70_awaits_are_taken_over.main.body.getD i (.Pass ⟨0, 0, 0, 0⟩)
abbrev s_Comparison___init__ : Stmt := inClass (top 5) 0
abbrev s_Side___init__ : Stmt := inClass (top 6) 0
abbrev s_Side_word : Stmt := inClass (top 6) 1
abbrev s_Side_part : Stmt := inClass (top 6) 2
abbrev s_Side_place : Stmt := inClass (top 6) 3
abbrev s_Side_step : Stmt := inClass (top 6) 4
abbrev s_Side_step_over : Stmt := inClass (top 6) 5
abbrev s_Side_drop_marks : Stmt := inClass (top 6) 6
abbrev s_row_of : Stmt := top 7
abbrev s_compare_trees : Stmt := top 8
abbrev s_compare_rows : Stmt := top 9
abbrev s_compare_awaits : Stmt := top 10
abbrev s_compare_nodes : Stmt := top 11
abbrev s__law_rows : Stmt := top 13
abbrev s__law_text : Stmt := top 14
abbrev s__law_word : Stmt := top 15
abbrev s__law_tree : Stmt := top 16
abbrev s__law_drawn : Stmt := top 17
abbrev s__law_turned : Stmt := top 18
abbrev s__law_bare : Stmt := top 19
abbrev s__law_count : Stmt := top 20
abbrev s__law_partners : Stmt := top 21
abbrev s_law : Stmt := top 22
structure Ad where
  u0 : Unit
  Comparison : Addr
  Side : Addr
  MissingAnswer : Addr
  ViewError : Addr
structure Txt (K : PySem.W.Frag) (w : World) (mg : Str → Option Value) (C : Ad) : Prop where
  g_Comparison : GV mg "Comparison" (.ref C.Comparison)
  cl_Comparison : Cls K C.Comparison
  n_Comparison_differences : NoAttr K C.Comparison "differences"
  n_Comparison_late : NoAttr K C.Comparison "late"
  n_Comparison_partners : NoAttr K C.Comparison "partners"
  g_Side : GV mg "Side" (.ref C.Side)
  cl_Side : Cls K C.Side
  n_Side_row : NoAttr K C.Side "row"
  n_Side_at : NoAttr K C.Side "at"
  n_Side_path : NoAttr K C.Side "path"
  n_Side_index : NoAttr K C.Side "index"
  z_dict : mg "dict" = none
  z_int : mg "int" = none
  z_isinstance : mg "isinstance" = none
  z_len : mg "len" = none
  z_range : mg "range" = none
  k_TURNS : ∃ a es n, GV mg "TURNS" (.ref a) ∧ KdT K w a es n ["await", "end", "node"] ∧ (∃ u, PySem.W.nsIn K a "await" = some (some u) ∧ RelV (V.int 1) u) ∧ (∃ u, PySem.W.nsIn K a "end" = some (some u) ∧ RelV (V.int (-1)) u) ∧ (∃ u, PySem.W.nsIn K a "node" = some (some u) ∧ RelV (V.int 0) u)
  x_MissingAnswer : ExT K mg "MissingAnswer" C.MissingAnswer
  gx_ViewError : GV mg "ViewError" (.ref C.ViewError)
  k_MissingAnswer_ViewError : PySem.W.kitOne K (.ref C.MissingAnswer) (.ref C.ViewError) = some true
  i_Comparison : InitE K mg "Comparison" C.Comparison "Comparison.__init__" s_Comparison___init__ ["self"]
  i_Side : InitE K mg "Side" C.Side "Side.__init__" s_Side___init__ ["self", "nodes", "path"]
  m_Side_word : MethE K C.Side "word" "Side.word" s_Side_word ["self"]
  m_Side_part : MethE K C.Side "part" "Side.part" s_Side_part ["self"]
  m_Side_place : MethE K C.Side "place" "Side.place" s_Side_place ["self"]
  m_Side_step : MethE K C.Side "step" "Side.step" s_Side_step ["self"]
  m_Side_step_over : MethE K C.Side "step_over" "Side.step_over" s_Side_step_over ["self"]
  m_Side_drop_marks : MethE K C.Side "drop_marks" "Side.drop_marks" s_Side_drop_marks ["self"]
  d_row_of : DefE K mg "row_of" s_row_of ["nodes"]
  d_compare_trees : DefE K mg "compare_trees" s_compare_trees ["read", "now"]
  d_compare_rows : DefE K mg "compare_rows" s_compare_rows ["comparison", "read", "now"]
  d_compare_awaits : DefE K mg "compare_awaits" s_compare_awaits ["comparison", "read", "now"]
  d_compare_nodes : DefE K mg "compare_nodes" s_compare_nodes ["comparison", "read", "now"]
  d__law_rows : DefE K mg "_law_rows" s__law_rows ["script", "count"]
  d__law_text : DefE K mg "_law_text" s__law_text ["row"]
  d__law_word : DefE K mg "_law_word" s__law_word ["row"]
  d__law_tree : DefE K mg "_law_tree" s__law_tree ["rows", "world", "depth"]
  d__law_drawn : DefE K mg "_law_drawn" s__law_drawn ["rows", "at", "most"]
  d__law_turned : DefE K mg "_law_turned" s__law_turned ["nodes", "rows", "world"]
  d__law_bare : DefE K mg "_law_bare" s__law_bare ["nodes"]
  d__law_count : DefE K mg "_law_count" s__law_count ["nodes"]
  d__law_partners : DefE K mg "_law_partners" s__law_partners ["read", "now", "before", "after", "found"]
end VL

set_option Elab.async false
set_option linter.all false
set_option maxRecDepth 100000
set_option maxHeartbeats 4000000
namespace VL
open PySem PySem.Spec PyProof.Rows L2
theorem Sm.new {t : Addr} {o : HO} {H : Hp} (h : H t = none) : Same H (upd H t o) := fun b u e => by rw [upd_ne (ne_of_none e h)]; exact e
def spFalse : Sp := fun _ _ _ _ => False
/-! ### trees as data -/
def nV : Option Int → PyData
  | none => .none
  | some i => .int i
def pairD (a : List Nat × List Nat) : PyData := .tuple [.str (TX a.1), .str (TX a.2)]
mutual
def encN : Nd → PyData
  | .tx x => .tuple [.str "text", .str (TX x)]
  | .el t as ks => .tuple [.str "element", .str (TX t), .list (as.map pairD), .list (encS ks)]
  | .aw n ks => .tuple [.str "await", nV n, .list (encS ks)]
def encS : List Nd → List PyData
  | [] => []
  | d :: r => encN d :: encS r
end
theorem encS_map : ∀ ks : List Nd, encS ks = ks.map encN
  | [] => by simp [encS]
  | d :: r => by simp [encS, encS_map r]
abbrev TreeA (H : Hp) (a : Addr) (ks : List Nd) : Prop := Dq H (.ref a) (.list (encS ks))
theorem tree_mk {H : Hp} {a : Addr} {xs : List V} {ks : List Nd} (h : H a = some (.lst xs)) (d : DqAll H xs (encS ks)) : TreeA H a ks := .lst h d
theorem encS_len (ks : List Nd) : (encS ks).length = ks.length := by rw [encS_map, List.length_map]
theorem encS_app (a b : List Nd) : encS (a ++ b) = encS a ++ encS b := by simp [encS_map]
theorem tree_at {H : Hp} {a : Addr} {ks : List Nd} (h : TreeA H a ks) : ∃ xs, H a = some (.lst xs) ∧ xs.length = ks.length ∧ DqAll H xs (encS ks) := by
  obtain ⟨b, xs, e, h1, h2⟩ := dq_list h
  cases e
  exact ⟨xs, h1, by rw [h2.len, encS_len], h2⟩
theorem node_at {H : Hp} {xs : List V} {ks : List Nd} (h : DqAll H xs (encS ks)) {i : Nat} {x : V} (hx : xs[i]? = some x) : ∃ d, ks[i]? = some d ∧ Dq H x (encN d) := by
  have hl := h.len
  rw [encS_len] at hl
  have hi : i < ks.length := by
    have := (List.getElem?_eq_some_iff.mp hx).1
    omega
  refine ⟨ks[i], List.getElem?_eq_getElem hi, ?_⟩
  have e : (encS ks)[i]? = some (encN ks[i]) := by rw [encS_map, List.getElem?_map, List.getElem?_eq_getElem hi]; rfl
  obtain ⟨v, h1, h2⟩ := dqAll_at h e
  rw [hx] at h1
  cases h1
  exact h2
theorem dq_str {H : Hp} {v : V} {x : Str} (h : Dq H v (.str x)) : v = .str x := by cases h; rfl
theorem n_tx {H : Hp} {v : V} {x : List Nat} (h : Dq H v (encN (.tx x))) : ∃ q, v = .ref q ∧ H q = some (.tup [.str "text", .str (TX x)]) := by
  obtain ⟨q, xs, rfl, h1, h2⟩ := dq_tup h
  cases h2 with
  | cons a b => cases b with
    | cons b c => cases c; rw [dq_str a, dq_str b] at h1; exact ⟨q, rfl, h1⟩
theorem n_el {H : Hp} {v : V} {t : List Nat} {as : List (List Nat × List Nat)} {ks : List Nd} (h : Dq H v (encN (.el t as ks))) : ∃ q pa pk, v = .ref q ∧ H q = some (.tup [.str "element", .str (TX t), .ref pa, .ref pk]) ∧ Dq H (.ref pa) (.list (as.map pairD)) ∧ TreeA H pk ks := by
  obtain ⟨q, xs, rfl, h1, h2⟩ := dq_tup h
  cases h2 with
  | cons a b => cases b with
    | cons b c => cases c with
      | cons c d => cases d with
        | cons d e =>
          cases e
          obtain ⟨pa, _, rfl, _, _⟩ := dq_list c
          obtain ⟨pk, _, rfl, _, _⟩ := dq_list d
          rw [dq_str a, dq_str b] at h1
          exact ⟨q, pa, pk, rfl, h1, c, d⟩
def nVV : Option Int → V
  | none => .non
  | some i => .int i
theorem n_aw {H : Hp} {v : V} {n : Option Int} {ks : List Nd} (h : Dq H v (encN (.aw n ks))) : ∃ q pk, v = .ref q ∧ H q = some (.tup [.str "await", nVV n, .ref pk]) ∧ TreeA H pk ks := by
  obtain ⟨q, xs, rfl, h1, h2⟩ := dq_tup h
  cases h2 with
  | cons a b => cases b with
    | cons b c => cases c with
      | cons c d =>
          cases d
          obtain ⟨pk, _, rfl, _, _⟩ := dq_list c
          rw [dq_str a] at h1
          refine ⟨q, pk, rfl, ?_, c⟩
          cases n with
          | none => cases b; exact h1
          | some i => cases b; exact h1
theorem pairs_atT {H : Hp} {pa : Addr} {as : List (List Nat × List Nat)} (h : Dq H (.ref pa) (.list (as.map pairD))) : ∃ ps : List Addr, H pa = some (.lst (ps.map V.ref)) ∧ ps.length = as.length ∧ ∀ (i : Nat) (p : Addr), ps[i]? = some p → ∃ a, as[i]? = some a ∧ H p = some (.tup [.str (TX a.1), .str (TX a.2)]) := by
  obtain ⟨b, xs, e, h1, h2⟩ := dq_list h
  cases e
  have key : ∀ (as : List (List Nat × List Nat)) (xs : List V), DqAll H xs (as.map pairD) → ∃ ps : List Addr, xs = ps.map V.ref ∧ ps.length = as.length ∧ ∀ (i : Nat) (p : Addr), ps[i]? = some p → ∃ a, as[i]? = some a ∧ H p = some (.tup [.str (TX a.1), .str (TX a.2)]) := by
    intro as
    induction as with
    | nil => intro xs h; cases h; exact ⟨[], rfl, rfl, fun i p z => by simp at z⟩
    | cons a as ih =>
      intro xs h
      cases h with
      | cons g r =>
        obtain ⟨ps, rfl, hl, hp⟩ := ih _ r
        obtain ⟨q, ys, rfl, g1, g2⟩ := dq_tup g
        cases g2 with
        | cons u w => cases w with
          | cons w z =>
            cases z
            rw [dq_str u, dq_str w] at g1
            refine ⟨q :: ps, rfl, by simp [hl], fun i p hip => ?_⟩
            cases i with
            | zero => simp at hip; subst hip; exact ⟨a, rfl, g1⟩
            | succ i => exact hp i p (by simpa using hip)
  obtain ⟨ps, rfl, h3, h4⟩ := key as xs h2
  exact ⟨ps, h1, h3, h4⟩
/-! ### constants -/
theorem k_amp : ("&" : Str) = TX [38] := rfl
theorem k_lt : ("<" : Str) = TX [60] := rfl
theorem k_gt : (">" : Str) = TX [62] := rfl
theorem k_quot : ("\"" : Str) = TX [34] := rfl
theorem k_zamp : ("&amp;" : Str) = TX zAmp := rfl
theorem k_zlt : ("&lt;" : Str) = TX zLt := rfl
theorem k_zgt : ("&gt;" : Str) = TX zGt := rfl
theorem k_zquot : ("&quot;" : Str) = TX zQuot := rfl
theorem k_sp : (" " : Str) = TX [32] := rfl
theorem k_eq : ("=\"" : Str) = TX [61, 34] := rfl
theorem k_lts : ("</" : Str) = TX [60, 47] := rfl
theorem k_E : ("<!--e-->" : Str) = TX zE := rfl
theorem k_T : ("<!--t-->" : Str) = TX zT := rfl
theorem k_A : ("<!--[" : Str) = TX zA := rfl
theorem k_B : ("-->" : Str) = TX zB := rfl
theorem k_C : ("<!--]-->" : Str) = TX zC := rfl
theorem k_0 : Str.empty = TX [] := rfl
theorem k_00 : ("" : Str) = TX [] := rfl
theorem str_TX (x : Str) : x = TX x.cps.toList := by simp
theorem sne {a b : Str} (h : (a == b) = false) : ¬ (decide (V.str a = V.str b) = true) := fun c => by
  have e := V.str.inj (of_decide_eq_true c)
  subst e
  simp at h
/-! ### promises -/
section
variable {P : Program} {w : World} {K : PySem.W.Frag} {mg : Str → Option Value} {base : Heap} {C : Ad}
/-! plain_text -/
end
end VL

set_option Elab.async false
set_option linter.all false
set_option pp.maxSteps 700
set_option maxRecDepth 100000
set_option maxHeartbeats 4000000
namespace VL
open PySem PySem.Spec PyProof.Rows L2
/-- a number's text -/
def nL (i : Int) : List Nat := (Str.ofString (toString i)).cps.toList
theorem nL_TX (i : Int) : Str.ofString (toString i) = TX (nL i) := by simp [nL]
theorem nL_len : ∀ i : Int, 0 ≤ i → i < 10 ^ 30 → (nL i).length ≤ 30 := fun i h0 h1 => by
  have := toString_length_le (k := 30) h0 (by decide) h1
  rw [nL_TX, TX_len] at this
  exact this
theorem log_ok {i : Int} (h0 : 0 ≤ i) (h1 : i < 10 ^ 30) : i.natAbs.log2 < 1920 := by
  have h2 : i.natAbs < 2 ^ 1920 := by
    have : i.natAbs < 10 ^ 30 := by omega
    exact Nat.lt_trans this (by decide)
  by_cases hz : i.natAbs = 0
  · rw [hz]; decide
  · exact (Nat.log2_lt hz).mpr h2
end VL

set_option Elab.async false
set_option linter.all false
set_option pp.maxSteps 700
set_option maxRecDepth 100000
set_option maxHeartbeats 4000000
namespace VL
open PySem PySem.Spec PyProof.Rows L2
def spRows (K : PySem.W.Frag) : Sp := fun vs H Q _ => ∃ (s : Addr) (ns : List Int) (m : Nat), vs = [.ref s, .int m] ∧ SqL K H s (ns.map V.int) ∧ ns.length ≤ 63 ∧ m ≤ 100 ∧ ∀ r (zs : List Int) H', Same H H' → H r = none → H' r = some (.lst (zs.map V.int)) → zs.length = m → Q (.ref r) H'
theorem map_int_atR {ns : List Int} {j : Int} (h0 : 0 ≤ j) (h1 : j < (ns.length : Int)) : ∃ z, atI (ns.map V.int) j = some (.int z) := by
  have hj : j.toNat < ns.length := by omega
  refine ⟨ns[j.toNat], ?_⟩
  unfold atI ixN
  rw [if_pos h0, if_pos (by rw [List.length_map]; exact h1)]
  show (ns.map V.int)[j.toNat]? = _
  rw [List.getElem?_map, List.getElem?_eq_getElem hj]
  rfl
section
variable {P : Program} {w : World} {K : PySem.W.Frag} {mg : Str → Option Value} {base : Heap} {C : Ad}
theorem sc__law_rows : FnScope ["script", "count", "rows", "k", "cell"] ["script", "count"] (defScope s__law_rows) := ⟨rfl, rfl, rfl, by decide +kernel, rfl, by decide +kernel, by decide +kernel⟩
theorem ok_rows (T : Txt K w mg C) : Cal P w K mg base 1 "_law_rows" (spRows K) := by
  refine cal_of T.d__law_rows sc__law_rows (fun vs H Q E h => ?_) (fun f cdv A outer s H vs Q E hr h => ?_)
  · obtain ⟨a, ns, m, rfl, _⟩ := h
    rfl
  · obtain ⟨a, ns, m, rfl, ha, hn, hm, k⟩ := h
    have hu := hu_of hr
    have big : 100000 < sizeLine := by decide
    refine ⟨_, (pss_cons (ps_set (i := 2) sc__law_rows.nd rfl (Or.inl rfl) (pe_lst pa_nil)) (pss_cons (ps_for PassesOwn.never rfl (pi_range1 (by rfl) T.z_range (pa_cons (pv 1) pa_nil)) (pg_name (i := 3) sc__law_rows.nd rfl (Or.inl rfl)) (pss_cons (ps_set (i := 4) sc__law_rows.nd rfl (Or.inl rfl) pe_int) (C8.pss_cut (ps_if (pt_cmpR op_gt (pe_callB call_len_seq (by rfl) T.z_len PySem.boot_len (pa_cons (pv 0) pa_nil)) pe_int (nomark _)) (pss_one (ps_set (i := 4) sc__law_rows.nd rfl (Or.inl rfl) (pe_callTy call_int1 (by rfl) T.z_int (by decide +kernel) (pa_cons (pe_ix ix_list (pv 0) (pe_op op_mod (pe_callTy call_int1 (by rfl) T.z_int (by decide +kernel) (pa_cons (pv 3) pa_nil)) (pe_callB call_len_seq (by rfl) T.z_len PySem.boot_len (pa_cons (pv 0) pa_nil))) (fun _ _ => rfl)) pa_nil)))) pss_nil) (C8.pss_cut (ps_if (pt_cmpR op_lt (pv 4) pe_int (nomark _)) (pss_one (ps_set (i := 4) sc__law_rows.nd rfl (Or.inl rfl) (pe_op op_sub pe_int (pe_op op_mul pe_int (pv 4))))) pss_nil) (C8.pss_cut (ps_if (PW.pt (pw_or (pt_cmpR op_ge (pv 3) (pe_callB call_len_seq (by rfl) T.z_len PySem.boot_len (pa_cons (pv 0) pa_nil)) (nomark _)) (pw_or1 (pt_cmpR op_lt (pv 4) pe_int (nomark _))))) (pss_cons (ps_set (i := 4) sc__law_rows.nd rfl (Or.inl rfl) (pe_op op_mod (pe_callTy call_int1 (by rfl) T.z_int (by decide +kernel) (pa_cons (pe_op op_add (pe_op op_mul (pe_op op_add (pe_op op_add (pv 4) (pe_op op_mul pe_int (pv 3))) pe_int) pe_int) (pe_op op_mul (pe_op op_mul (pv 3) (pv 3)) pe_int)) pa_nil)) pe_int)) (pss_one (ps_set (i := 4) sc__law_rows.nd rfl (Or.inl rfl) (pe_op op_mod (pe_callTy call_int1 (by rfl) T.z_int (by decide +kernel) (pa_cons (pe_op op_mul (pe_op op_add (pe_op op_add (pv 4) (pe_op op_mul pe_int (pv 3))) pe_int) pe_int) pa_nil)) pe_int)))) pss_nil) (pss_one (ps_expr (pe_bm PySem.F.plainAttrs_list PySem.F.slot_list_append PySem.F.type_list_append mt_append (pv 2) (pa_cons (pv 4) pa_nil))))))))) (pss_one (ps_ret (pv 2))))), ?_⟩
    refine ⟨by show 0 ≤ sizeLine; decide, fun r hr0 => ?_⟩
    refine ⟨_, rfl, _, rfl, by omega, by omega, ?_⟩
    refine for_range (lo := 0) (n := ((m : Nat) : Int).toNat) (fun i σ H' => ∃ (zs : List Int) (y1 y2 : Option V), Same H H' ∧ H' r = some (.lst (zs.map V.int)) ∧ zs.length = i ∧ σ = [some (.ref a), some (.int m), some (.ref r), y1, y2]) ⟨[], none, none, Sm.new hr0, upd_same, rfl, rfl⟩ ?_ ?_
    · rintro i σ H1 hi ⟨zs, y1, y2, s1, h1, zl, rfl⟩
      have hi' : i < m := by omega
      have ha1 := Same.seq s1 ha
      have hL : ((ns.map V.int).length : Int) = (ns.length : Int) := by rw [List.length_map]
      refine ⟨fun σ' H' => H' = H1 ∧ ∃ c : Int, σ' = [some (.ref a), some (.int m), some (.ref r), some (.int (0 + (i : Int))), some (.int c)], ?_, ?_⟩
      · refine ⟨_, rfl, a, _, rfl, .inl ha1, _, _, rfl, rfl, _, rfl, ?_⟩
        rw [hL]
        refine ite2 (fun q => ?_) (fun q => ⟨rfl, 0, rfl⟩)
        have q' : (0 : Int) < ns.length := of_decide_eq_true q
        obtain ⟨z, hz⟩ := map_int_atR (ns := ns) (j := (0 + (i : Int)) % (ns.length : Int)) (Int.emod_nonneg _ (by omega)) (Int.emod_lt_of_pos _ q')
        refine ⟨_, rfl, _, rfl, .inl ⟨_, rfl, _, rfl, a, _, rfl, .inl ha1, _, _, rfl, rfl, by rw [hL]; exact q', a, _, _, .int z, rfl, rfl, ha1, by rw [hL]; exact hz, .inl ⟨_, rfl, rfl, z, rfl⟩⟩⟩
      · rintro σ' H' ⟨eH, c, rfl⟩
        rw [eH]
        refine ⟨fun σ' H' => H' = H1 ∧ ∃ c : Int, σ' = [some (.ref a), some (.int m), some (.ref r), some (.int (0 + (i : Int))), some (.int c)], ?_, ?_⟩
        · refine ⟨_, rfl, _, _, rfl, rfl, _, rfl, ?_⟩
          refine ite2 (fun q => ?_) (fun q => ⟨rfl, c, rfl⟩)
          exact ⟨_, rfl, _, _, rfl, rfl, .inl ⟨by decide, by decide⟩, _, _, rfl, rfl, rfl, _, rfl⟩
        · rintro σ' H' ⟨eH, c, rfl⟩
          rw [eH]
          refine ⟨fun σ' H' => H' = H1 ∧ ∃ c : Int, σ' = [some (.ref a), some (.int m), some (.ref r), some (.int (0 + (i : Int))), some (.int c)], ?_, ?_⟩
          · refine ⟨_, rfl, _, rfl, a, _, rfl, .inl ha1, _, _, rfl, rfl, _, rfl, ?_⟩
            refine ite2 (fun q => ?_) (fun q => ?_)
            · refine ⟨_, rfl, _, rfl, _, _, rfl, rfl, .inl ⟨by decide, by decide⟩, _, _, rfl, rfl, _, _, rfl, rfl, _, _, rfl, rfl, .inr ⟨by decide, by decide⟩, _, rfl, _, rfl, _, _, rfl, rfl, .inl ⟨by omega, by omega⟩, _, _, rfl, rfl, .inr ⟨by decide, by decide⟩, _, _, rfl, rfl, .inl ⟨_, rfl, _, _, rfl, rfl, (by show (0 : Int) < 1000000007; decide), ?_⟩⟩
              exact ⟨_, rfl, _, rfl, _, _, rfl, rfl, .inl ⟨by decide, by decide⟩, _, _, rfl, rfl, _, _, rfl, rfl, _, _, rfl, rfl, .inr ⟨by decide, by decide⟩, .inl ⟨_, rfl, _, _, rfl, rfl, (by show (0 : Int) < 18446744073709551557; decide), rfl, _, rfl⟩⟩
            · refine ⟨_, rfl, _, _, rfl, rfl, _, rfl, ?_⟩
              refine ite2 (fun q => ?_) (fun q => ⟨rfl, c, rfl⟩)
              refine ⟨_, rfl, _, rfl, _, _, rfl, rfl, .inl ⟨by decide, by decide⟩, _, _, rfl, rfl, _, _, rfl, rfl, _, _, rfl, rfl, .inr ⟨by decide, by decide⟩, _, rfl, _, rfl, _, _, rfl, rfl, .inl ⟨by omega, by omega⟩, _, _, rfl, rfl, .inr ⟨by decide, by decide⟩, _, _, rfl, rfl, .inl ⟨_, rfl, _, _, rfl, rfl, (by show (0 : Int) < 1000000007; decide), ?_⟩⟩
              exact ⟨_, rfl, _, rfl, _, _, rfl, rfl, .inl ⟨by decide, by decide⟩, _, _, rfl, rfl, _, _, rfl, rfl, _, _, rfl, rfl, .inr ⟨by decide, by decide⟩, .inl ⟨_, rfl, _, _, rfl, rfl, (by show (0 : Int) < 18446744073709551557; decide), rfl, _, rfl⟩⟩
          · rintro σ' H' ⟨eH, c, rfl⟩
            rw [eH]
            refine ⟨_, rfl, .inl ⟨rfl, _, SqL.of h1⟩, _, rfl, r, _, _, rfl, rfl, h1, ?_, ?_⟩
            · rw [List.length_map]
              omega
            · refine ⟨zs ++ [c], _, _, fun b o eb => ?_, ?_, by rw [List.length_append, zl]; rfl, rfl⟩
              · rw [upd_ne (ne_of_none eb hr0)]
                exact s1 _ _ eb
              · rw [upd_same, List.map_append]
                rfl
    · rintro σ H1 ⟨zs, y1, y2, s1, h1, zl, rfl⟩
      exact ⟨_, rfl, k r zs H1 s1 hr0 h1 (by omega)⟩
/-! texts and words -/
def okL (m : Nat) (l : List Nat) : Prop := l.length ≤ m ∧ ∀ c ∈ l, c < 200
def spLText : Sp := fun vs H Q _ => ∃ r : Int, vs = [.int r] ∧ ∀ l H', okL 5 l → Same H H' → Q (.str (TX l)) H'
def spWord : Sp := fun vs H Q _ => ∃ r : Int, vs = [.int r] ∧ ∀ l H', okL 5 l → wOk l → Same H H' → Q (.str (TX l)) H'
theorem wOk_mk {c : Nat} {r : List Nat} (h1 : isSm c = true) (h2 : (c :: r).all isWd = true) : wOk (c :: r) := ⟨⟨c, r, rfl, h1⟩, fun d hd => List.all_eq_true.mp h2 d hd⟩
theorem at_small {z : Str} {n : Nat} (h : (List.range n).all (fun i => match atI z.cps.toList (i : Nat) with | some c => decide (c < 200) | none => false) = true) {k : Int} (h0 : 0 ≤ k) (h1 : k < n) : ∃ c, atI z.cps.toList k = some c ∧ c < 200 := by
  obtain ⟨m, rfl⟩ := Int.eq_ofNat_of_zero_le h0
  have := List.all_eq_true.mp h m (List.mem_range.mpr (by omega))
  cases e : atI z.cps.toList (m : Int) with
  | none => rw [e] at this; exact nomatch this
  | some c => rw [e] at this; exact ⟨c, rfl, of_decide_eq_true this⟩
theorem atI_mem {α : Type} {xs : List α} {k : Int} (h0 : 0 ≤ k) (h1 : k < xs.length) : ∃ x, atI xs k = some x ∧ x ∈ xs := by
  obtain ⟨m, rfl⟩ := Int.eq_ofNat_of_zero_le h0
  refine ⟨xs[m]'(by omega), ?_, List.getElem_mem _⟩
  unfold atI ixN
  rw [if_pos h0, if_pos h1]
  show xs[(m : Int).toNat]? = _
  rw [Int.toNat_natCast, List.getElem?_eq_getElem]
theorem sc__law_text : FnScope ["row", "signs", "j"] ["row"] (defScope s__law_text) := ⟨rfl, rfl, rfl, by decide +kernel, rfl, by decide +kernel, by decide +kernel⟩
theorem ok_ltext (T : Txt K w mg C) : Cal P w K mg base 1 "_law_text" spLText := by
  refine cal_of T.d__law_text sc__law_text (fun vs H Q E h => ?_) (fun f cdv A outer s H vs Q E hr h => ?_)
  · obtain ⟨r, rfl, _⟩ := h
    rfl
  · obtain ⟨r, rfl, q⟩ := h
    have big : 100000 < sizeLine := by decide
    have r0 : 0 ≤ r % 6 := Int.emod_nonneg _ (by decide)
    have r1 : r % 6 < 6 := Int.emod_lt_of_pos _ (by decide)
    refine ⟨_, (pss_cons (ps_set (i := 1) sc__law_text.nd rfl (Or.inr rfl) pe_str) (pss_one (ps_ret (pe_join pe_str (pe_lc (own := [("j", 2)]) (g := gName 2) (tt := tYes) rfl sc__law_text.nd (pi_range1 (by rfl) T.z_range (pa_cons (pe_op op_mod (pe_callTy call_int1 (by rfl) T.z_int (by decide +kernel) (pa_cons (pv 0) pa_nil)) pe_int) pa_nil)) (blkOk_by (N := ["row", "signs", "j"]) (sc := (defScope s__law_text)) (by decide +kernel)) (fun _ _ _ _ _ => pg_name (i := 2) sc__law_text.nd rfl (Or.inl rfl)) (fun _ _ _ _ _ => pts_nil) (fun _ _ _ _ _ => (pe_ix ix_str (pv 1) (pe_op op_mod (pe_callTy call_int1 (by rfl) T.z_int (by decide +kernel) (pa_cons (pe_op op_fdiv (pv 0) (pe_op op_add pe_int (pe_op op_mul pe_int (pv 2)))) pa_nil)) pe_int) (fun _ _ => rfl)))))))), ?_⟩
    refine ⟨⟨_, rfl⟩, _, rfl, .inl ⟨_, rfl, _, _, rfl, rfl, (by show (0 : Int) < 6; decide), _, rfl, by omega, by omega, fun D hD => ?_⟩⟩
    refine lc_it (walk_range (lo := 0) (n := (r % 6).toNat)) (fun i H' => Same H H' ∧ ∃ cs : List Nat, cs.length = i ∧ (∀ c ∈ cs, c < 200) ∧ H' D = some (.lst (((cs.map fun c => [c]).map TX).map V.str))) ⟨Sm.new hD, [], rfl, by simp, upd_same⟩ (fun i H' _ z => trivial) ?_ ?_
    · rintro i x H1 H2 hi ⟨s1, cs, cl, cb, hc⟩ ⟨rfl, rfl⟩
      have hi' : (i : Int) < 6 := by omega
      have k0 : 0 ≤ (r / (3 + 5 * (0 + (i : Int)))) % 14 := Int.emod_nonneg _ (by decide)
      have k1 : (r / (3 + 5 * (0 + (i : Int)))) % 14 < 14 := Int.emod_lt_of_pos _ (by decide)
      obtain ⟨c, hcc, hcb⟩ := at_small (z := "ab<>&\"- ;!\n=/1") (n := 14) (by decide +kernel) k0 k1
      refine ⟨rfl, ?_⟩
      refine ⟨_, rfl, _, rfl, _, rfl, _, _, rfl, rfl, .inl ⟨by decide, by decide⟩, _, _, rfl, rfl, _, _, rfl, rfl, ⟨by omega, by omega⟩, .inl ⟨_, rfl, _, _, rfl, rfl, (by show (0 : Int) < 14; decide), _, _, c, rfl, rfl, (by decide +kernel), hcc, ?_⟩⟩
      refine ⟨_, hc, by simp only [List.length_map]; omega, fun b o e => ?_, cs ++ [c], by simp [cl], fun x hx => ?_, ?_⟩
      · rw [upd_ne (ne_of_none e hD)]
        exact s1 _ _ e
      · rcases List.mem_append.mp hx with hx | hx
        · exact cb x hx
        · rw [List.mem_singleton.mp hx]; exact hcb
      · rw [upd_same, List.map_append, List.map_append, List.map_append]
        rfl
    · rintro H1 ⟨s1, cs, cl, cb, hc⟩
      have fl : (cs.map fun c => [c]).flatten = cs := by
        clear q hc cl cb
        induction cs with
        | nil => rfl
        | cons c cs ih => simp [ih]
      refine ⟨_, D, _, rfl, rfl, .inl (SqL.of hc), ?_, ?_⟩
      · rw [sum_TX, fl]
        show _ + _ * 0 ≤ _
        omega
      · rw [k_00, join_TX, fl]
        exact q cs _ ⟨by omega, cb⟩ s1
theorem sc__law_word : FnScope ["row"] ["row"] (defScope s__law_word) := ⟨rfl, rfl, rfl, by decide +kernel, rfl, by decide +kernel, by decide +kernel⟩
theorem words_ok {x : V} (h : x ∈ [V.str "a", .str "p", .str "li", .str "x-1", .str "b2", .str "span"]) : ∃ l, x = .str (TX l) ∧ okL 5 l ∧ wOk l := by
  simp only [List.mem_cons, List.not_mem_nil, or_false] at h
  rcases h with rfl | rfl | rfl | rfl | rfl | rfl
  · exact ⟨[97], rfl, by unfold okL; decide, wOk_mk rfl rfl⟩
  · exact ⟨[112], rfl, by unfold okL; decide, wOk_mk rfl rfl⟩
  · exact ⟨[108, 105], rfl, by unfold okL; decide, wOk_mk rfl rfl⟩
  · exact ⟨[120, 45, 49], rfl, by unfold okL; decide, wOk_mk rfl rfl⟩
  · exact ⟨[98, 50], rfl, by unfold okL; decide, wOk_mk rfl rfl⟩
  · exact ⟨[115, 112, 97, 110], rfl, by unfold okL; decide, wOk_mk rfl rfl⟩
def nmL (k : Int) : List Nat := if k = 0 then [110] else if k = 1 then [118, 45, 50] else [100, 97, 116, 97]
theorem names_at {k : Int} (h0 : 0 ≤ k) (h1 : k < 3) : atI [V.str "n", .str "v-2", .str "data"] k = some (.str (TX (nmL k))) := by
  rcases (show k = 0 ∨ k = 1 ∨ k = 2 by omega) with rfl | rfl | rfl <;> rfl
theorem nmL_ok (k : Int) : okL 5 (nmL k) ∧ wOk (nmL k) := by
  unfold nmL okL
  split
  · exact ⟨by decide, wOk_mk rfl rfl⟩
  · split
    · exact ⟨by decide, wOk_mk rfl rfl⟩
    · exact ⟨by decide, wOk_mk rfl rfl⟩
theorem nmL_ne {a b : Int} (ha : 0 ≤ a ∧ a < 3) (hb : 0 ≤ b ∧ b < 3) (h : a ≠ b) : nmL a ≠ nmL b := by
  rcases (show a = 0 ∨ a = 1 ∨ a = 2 by omega) with rfl | rfl | rfl <;> rcases (show b = 0 ∨ b = 1 ∨ b = 2 by omega) with rfl | rfl | rfl <;> first | exact absurd rfl h | decide
theorem ok_word (T : Txt K w mg C) : Cal P w K mg base 1 "_law_word" spWord := by
  refine cal_of T.d__law_word sc__law_word (fun vs H Q E h => ?_) (fun f cdv A outer s H vs Q E hr h => ?_)
  · obtain ⟨r, rfl, _⟩ := h
    rfl
  · obtain ⟨r, rfl, q⟩ := h
    have r0 : 0 ≤ r % 6 := Int.emod_nonneg _ (by decide)
    have r1 : r % 6 < 6 := Int.emod_lt_of_pos _ (by decide)
    obtain ⟨x, hx, hm⟩ := atI_mem (xs := [V.str "a", .str "p", .str "li", .str "x-1", .str "b2", .str "span"]) r0 r1
    obtain ⟨l, rfl, hl, hw⟩ := words_ok hm
    refine ⟨_, (pss_one (ps_ret (pe_ix ix_list (pe_lst (pa_cons pe_str (pa_cons pe_str (pa_cons pe_str (pa_cons pe_str (pa_cons pe_str (pa_cons pe_str pa_nil))))))) (pe_op op_mod (pe_callTy call_int1 (by rfl) T.z_int (by decide +kernel) (pa_cons (pv 0) pa_nil)) pe_int) (fun _ _ => rfl)))), ?_⟩
    refine ⟨by show 6 ≤ sizeLine; decide, fun p hp => ⟨_, rfl, .inl ⟨_, rfl, _, _, rfl, rfl, (by show (0 : Int) < 6; decide), p, _, _, _, rfl, rfl, SqL.of upd_same, hx, q l _ hl hw (Sm.new hp)⟩⟩⟩
end
end VL

set_option Elab.async false
set_option linter.all false
set_option pp.maxSteps 700
set_option maxRecDepth 100000
set_option maxHeartbeats 4000000
namespace VL
open PySem PySem.Spec PyProof.Rows L2
/-! ### sizes -/
theorem lenC_append (a b : Str) : (a ++ b).length = a.length + b.length := strApp a b
theorem small_tx {m : Nat} {l : List Nat} (h : okL m l) : Small (10 * m + 2) 0 (.str (TX l)) := by
  refine ⟨rfl, Nat.le_refl _, ?_⟩
  have := fmt_piled [TX l] (fun y hy c hc => by
    rw [List.mem_singleton] at hy
    subst hy
    rw [TX_tl] at hc
    exact Nat.lt_trans (h.2 c hc) (by decide))
  have e1 : fmtCost [TX l] = 10 * l.length + 4 := by rw [fmtCost_cons, TX_len]; rfl
  have e2 : piled ([TX l].map reprText) = (reprText (TX l)).length + 2 := by simp [piled]
  have := h.1
  show (reprText (TX l)).length ≤ _
  omega
theorem small_str {x : Str} {c : Nat} (h : (reprText x).length ≤ c) : Small c 0 (.str x) := ⟨rfl, Nat.le_refl _, h⟩
theorem small_t {k : Nat} {ds : List PyData} {c : Nat} (h : ∀ d ∈ ds, PyData.showable d = true ∧ PyData.depth d ≤ k) (hl : piled (PyData.shownAll ds) ≤ c) : Small (3 + c) (k + 1) (.tuple ds) := by
  refine ⟨?_, ?_, ?_⟩
  · show PyData.showableAll ds = true
    exact shAll_mem fun d hd => (h d hd).1
  · show PyData.depthAll ds + 1 ≤ k + 1
    have := dpAll_mem fun d hd => (h d hd).2
    omega
  · show (tupleText (PyData.shownAll ds)).length ≤ _
    have h1 := tupText_le (PyData.shownAll ds)
    omega
theorem small_t2 {a b : PyData} {x y k : Nat} (ha : Small x k a) (hb : Small y k b) : Small (7 + x + y) (k + 1) (.tuple [a, b]) := by
  have := small_t (ds := [a, b]) (k := k) (c := x + 2 + (y + 2)) (fun d hd => by
    simp only [List.mem_cons, List.not_mem_nil, or_false] at hd
    rcases hd with rfl | rfl
    · exact ⟨ha.sh, ha.dp⟩
    · exact ⟨hb.sh, hb.dp⟩) (by
    have := ha.ln
    have := hb.ln
    simp only [PyData.shownAll, piled, List.map_cons, List.map_nil, List.sum_cons, List.sum_nil]
    omega)
  exact this.mono (by omega) (Nat.le_refl _)
theorem small_t3 {a b c : PyData} {x y z k : Nat} (ha : Small x k a) (hb : Small y k b) (hc : Small z k c) : Small (9 + x + y + z) (k + 1) (.tuple [a, b, c]) := by
  have := small_t (ds := [a, b, c]) (k := k) (c := x + 2 + (y + 2) + (z + 2)) (fun d hd => by
    simp only [List.mem_cons, List.not_mem_nil, or_false] at hd
    rcases hd with rfl | rfl | rfl
    · exact ⟨ha.sh, ha.dp⟩
    · exact ⟨hb.sh, hb.dp⟩
    · exact ⟨hc.sh, hc.dp⟩) (by
    have := ha.ln
    have := hb.ln
    have := hc.ln
    simp only [PyData.shownAll, piled, List.map_cons, List.map_nil, List.sum_cons, List.sum_nil]
    omega)
  exact this.mono (by omega) (Nat.le_refl _)
theorem small_t4 {a b c d : PyData} {x y z u k : Nat} (ha : Small x k a) (hb : Small y k b) (hc : Small z k c) (hd : Small u k d) : Small (11 + x + y + z + u) (k + 1) (.tuple [a, b, c, d]) := by
  have := small_t (ds := [a, b, c, d]) (k := k) (c := x + 2 + (y + 2) + (z + 2) + (u + 2)) (fun d hd => by
    simp only [List.mem_cons, List.not_mem_nil, or_false] at hd
    rcases hd with rfl | rfl | rfl | rfl
    · exact ⟨ha.sh, ha.dp⟩
    · exact ⟨hb.sh, hb.dp⟩
    · exact ⟨hc.sh, hc.dp⟩
    · exact ⟨hd.sh, hd.dp⟩) (by
    have := ha.ln
    have := hb.ln
    have := hc.ln
    have := hd.ln
    simp only [PyData.shownAll, piled, List.map_cons, List.map_nil, List.sum_cons, List.sum_nil]
    omega)
  exact this.mono (by omega) (Nat.le_refl _)
def nB : Nat → Nat
  | 0 => 1400
  | n + 1 => 1400 + 3 * nB n
def nP : Nat → Nat
  | 0 => 400
  | n + 1 => 400 + 3 * nP n
mutual
/-- short texts, names that differ -/
def shN : Nd → Prop
  | .tx x => okL 8 x
  | .el t as ks => okL 8 t ∧ as.length ≤ 2 ∧ (∀ p ∈ as, okL 8 p.1 ∧ okL 8 p.2) ∧ (as.map (·.1)).Nodup ∧ (∀ p ∈ as, p.1 ≠ [122]) ∧ shS ks
  | .aw _ ks => shS ks
def shS : List Nd → Prop
  | [] => True
  | d :: r => shN d ∧ shS r
end
mutual
def ndN : Nd → Nat
  | .tx _ => 1
  | .el _ _ ks => 1 + ndS ks
  | .aw _ ks => 1 + ndS ks
def ndS : List Nd → Nat
  | [] => 0
  | d :: r => ndN d + ndS r
end
def cB : Nat → Nat
  | 0 => 1
  | n + 1 => 1 + 3 * cB n
theorem okL_mono {m k : Nat} {l : List Nat} (h : okL m l) (hk : m ≤ k) : okL k l := ⟨Nat.le_trans h.1 hk, h.2⟩
structure GoodNd (n : Nat) (d : Nd) : Prop where
  dp : dpN d ≤ n + 1
  wt : wN d ≤ nB n
  nu : nuN d
  sm : Small (nP n) (2 * n + 4) (encN d)
  ok : okN d
  dn : dN d ≤ n + 1
  sh : shN d
  ct : ndN d ≤ cB n
structure GoodL (n : Nat) (ks : List Nd) : Prop where
  g : ∀ d ∈ ks, GoodNd n d
  l : ks.length ≤ 3
theorem GoodL.dp {n : Nat} : ∀ {ks : List Nd}, (∀ d ∈ ks, GoodNd n d) → dpS ks ≤ n + 1
  | [], _ => by simp [dpS]
  | d :: r, h => by
    have := (h d List.mem_cons_self).dp
    have := GoodL.dp fun x hx => h x (List.mem_cons_of_mem _ hx)
    simp only [dpS]
    omega
theorem GoodL.wt {n : Nat} : ∀ {ks : List Nd}, (∀ d ∈ ks, GoodNd n d) → wS ks ≤ ks.length * nB n
  | [], _ => by simp [wS]
  | d :: r, h => by
    have := (h d List.mem_cons_self).wt
    have := GoodL.wt fun x hx => h x (List.mem_cons_of_mem _ hx)
    simp only [wS, List.length_cons, Nat.succ_mul]
    omega
theorem GoodL.nu {n : Nat} : ∀ {ks : List Nd}, (∀ d ∈ ks, GoodNd n d) → nuS ks
  | [], _ => by simp only [nuS]
  | d :: r, h => by
    simp only [nuS]
    exact ⟨(h d List.mem_cons_self).nu, GoodL.nu fun x hx => h x (List.mem_cons_of_mem _ hx)⟩
theorem GoodL.wt3 {n : Nat} {ks : List Nd} (h : GoodL n ks) : wS ks ≤ 3 * nB n := by
  have := GoodL.wt h.g
  have := Nat.mul_le_mul_right (nB n) h.l
  omega
theorem GoodL.sm {n : Nat} {ks : List Nd} (h : GoodL n ks) : Small (8 + 3 * nP n) (2 * n + 5) (.list (encS ks)) := by
  have := small_list (c := nP n) (k := 2 * n + 4) (n := 3) (ds := encS ks) (fun d hd => by
    rw [encS_map] at hd
    obtain ⟨e, he, rfl⟩ := List.mem_map.mp hd
    exact (h.g e he).sm) (by rw [encS_len]; exact h.l)
  exact this.mono (by omega) (by omega)
theorem GoodL.ok {n : Nat} : ∀ {ks : List Nd}, (∀ d ∈ ks, GoodNd n d) → okS ks
  | [], _ => by simp only [okS]
  | d :: r, h => by
    simp only [okS]
    exact ⟨(h d List.mem_cons_self).ok, GoodL.ok fun x hx => h x (List.mem_cons_of_mem _ hx)⟩
theorem GoodL.dn {n : Nat} : ∀ {ks : List Nd}, (∀ d ∈ ks, GoodNd n d) → dS ks ≤ n + 1
  | [], _ => by simp [dS]
  | d :: r, h => by
    have := (h d List.mem_cons_self).dn
    have := GoodL.dn fun x hx => h x (List.mem_cons_of_mem _ hx)
    simp only [dS]
    omega
theorem GoodL.shs {n : Nat} : ∀ {ks : List Nd}, (∀ d ∈ ks, GoodNd n d) → shS ks
  | [], _ => by simp only [shS]
  | d :: r, h => by
    simp only [shS]
    exact ⟨(h d List.mem_cons_self).sh, GoodL.shs fun x hx => h x (List.mem_cons_of_mem _ hx)⟩
theorem GoodL.cts {n : Nat} : ∀ {ks : List Nd}, (∀ d ∈ ks, GoodNd n d) → ndS ks ≤ ks.length * cB n
  | [], _ => by simp [ndS]
  | d :: r, h => by
    have := (h d List.mem_cons_self).ct
    have := GoodL.cts fun x hx => h x (List.mem_cons_of_mem _ hx)
    simp only [ndS, List.length_cons, Nat.succ_mul]
    omega
theorem GoodL.ct3 {n : Nat} {ks : List Nd} (h : GoodL n ks) : ndS ks ≤ 3 * cB n := by
  have := GoodL.cts h.g
  have := Nat.mul_le_mul_right (cB n) h.l
  omega
theorem cB_1 (n : Nat) : 1 ≤ cB n := by cases n <;> simp only [cB] <;> omega
theorem s_text : (reprText "text").length ≤ 12 := by decide +kernel
theorem s_elem : (reprText "element").length ≤ 12 := by decide +kernel
theorem s_awt : (reprText "await").length ≤ 12 := by decide +kernel
theorem good_tx {n : Nat} {l : List Nat} (h : okL 5 l) : GoodNd n (.tx l) := by
  have hb : 1400 ≤ nB n := by cases n <;> simp [nB]
  have hp : 400 ≤ nP n := by cases n <;> simp [nP]
  have := h.1
  refine ⟨by simp [dpN], by simp only [wN]; omega, by simp only [nuN], ?_, by simp only [okN], by simp only [dN]; omega, by simp only [shN]; exact okL_mono h (by decide), by simp only [ndN]; exact cB_1 n⟩
  simp only [encN]
  exact (small_t2 (small_str s_text) (small_tx h)).mono (by omega) (by omega)
theorem nmL_nz (k : Int) : nmL k ≠ [122] := by
  unfold nmL
  split
  · decide
  · split <;> decide
structure GoodAs (as : List (List Nat × List Nat)) : Prop where
  a : ∀ p ∈ as, okL 5 p.1 ∧ okL 5 p.2
  l : as.length ≤ 2
  nd : (as.map (·.1)).Nodup
  wk : ∀ a ∈ as, wOk a.1
  nz : ∀ p ∈ as, p.1 ≠ [122]
theorem GoodAs.sm {as : List (List Nat × List Nat)} (h : GoodAs as) : Small 232 2 (.list (as.map pairD)) := by
  have := small_list (c := 111) (k := 1) (n := 2) (ds := as.map pairD) (fun d hd => by
    obtain ⟨e, he, rfl⟩ := List.mem_map.mp hd
    obtain ⟨h1, h2⟩ := h.a e he
    exact (small_t2 (small_tx h1) (small_tx h2)).mono (by omega) (by omega)) (by rw [List.length_map]; exact h.l)
  exact this.mono (by omega) (by omega)
theorem GoodAs.w {as : List (List Nat × List Nat)} (h : GoodAs as) : wA as ≤ 1250 := by
  have key : ∀ as : List (List Nat × List Nat), (∀ p ∈ as, okL 5 p.1 ∧ okL 5 p.2) → wA as ≤ as.length * 625 := by
    intro as
    induction as with
    | nil => intro _; simp [wA]
    | cons a as ih =>
      intro h
      have := ih fun x hx => h x (List.mem_cons_of_mem _ hx)
      obtain ⟨h1, h2⟩ := h a List.mem_cons_self
      have := h1.1
      have := h2.1
      have e : wA (a :: as) = a.1.length + 120 * a.2.length + 20 + wA as := by simp [wA]
      rw [e, List.length_cons, Nat.succ_mul]
      omega
  have := key as h.a
  have := h.l
  omega
theorem good_el0 {n : Nat} {t : List Nat} {as : List (List Nat × List Nat)} (h : okL 5 t) (hwk : wOk t) (ha : GoodAs as) : GoodNd n (.el t as []) := by
  have hb : 1400 ≤ nB n := by cases n <;> simp [nB]
  have hp : 400 ≤ nP n := by cases n <;> simp [nP]
  have := h.1
  have := ha.w
  refine ⟨by simp [dpN, dpS], by simp only [wN, wS]; omega, by simp only [nuN, nuS], ?_, by simp only [okN, okS]; exact ⟨hwk, ha.nd, ha.wk, trivial⟩, by simp only [dN, dS]; omega, by simp only [shN, shS]; exact ⟨okL_mono h (by decide), ha.l, fun p hp => ⟨okL_mono (ha.a p hp).1 (by decide), okL_mono (ha.a p hp).2 (by decide)⟩, ha.nd, ha.nz, trivial⟩, by simp only [ndN, ndS]; exact cB_1 n⟩
  simp only [encN]
  exact (small_t4 (k := 3) ((small_str s_elem).mono (Nat.le_refl _) (by omega)) ((small_tx h).mono (Nat.le_refl _) (by omega)) (ha.sm.mono (Nat.le_refl _) (by omega)) (z := 232) (u := 2) ⟨rfl, by simp [encS, PyData.depth, PyData.depthAll], by decide +kernel⟩).mono (by omega) (by omega)
theorem good_el {n : Nat} {t : List Nat} {as : List (List Nat × List Nat)} {ks : List Nd} (h : okL 5 t) (hwk : wOk t) (ha : GoodAs as) (hk : GoodL n ks) : GoodNd (n + 1) (.el t as ks) := by
  have := h.1
  have := ha.w
  have := hk.wt3
  have := GoodL.dp hk.g
  have := GoodL.dn hk.g
  refine ⟨by simp only [dpN]; omega, by simp only [wN, nB]; omega, by simp only [nuN]; exact GoodL.nu hk.g, ?_, by simp only [okN]; exact ⟨hwk, ha.nd, ha.wk, GoodL.ok hk.g⟩, by simp only [dN]; omega, by simp only [shN]; exact ⟨okL_mono h (by decide), ha.l, fun p hp => ⟨okL_mono (ha.a p hp).1 (by decide), okL_mono (ha.a p hp).2 (by decide)⟩, ha.nd, ha.nz, GoodL.shs hk.g⟩, by simp only [ndN, cB]; have := hk.ct3; omega⟩
  simp only [encN, nP]
  exact (small_t4 (k := 2 * n + 5) ((small_str s_elem).mono (Nat.le_refl _) (by omega)) ((small_tx h).mono (Nat.le_refl _) (by omega)) (ha.sm.mono (Nat.le_refl _) (by omega)) hk.sm).mono (by omega) (by omega)
theorem small_num {k : Nat} {n : Option Int} (h : ∀ i, n = some i → 0 ≤ i ∧ i < 10 ^ 30) : Small 30 k (nV n) := by
  cases n with
  | none => exact ⟨rfl, Nat.zero_le _, by decide +kernel⟩
  | some i =>
    obtain ⟨h0, h1⟩ := h i rfl
    have hl := log_ok h0 h1
    refine ⟨?_, Nat.zero_le _, ?_⟩
    · show PyData.showable (.int i) = true
      simpa [PyData.showable] using hl
    · have := toString_length_le (k := 30) h0 (by decide) h1
      exact this
theorem good_aw {n : Nat} {m : Option Int} {ks : List Nd} (h0 : ∀ i, m = some i → 1 ≤ i ∧ i < 10 ^ 9) (hk : GoodL n ks) : GoodNd (n + 1) (.aw m ks) := by
  have h : ∀ i, m = some i → 0 ≤ i ∧ i < 10 ^ 30 := fun i hi => by have := h0 i hi; omega
  have := hk.wt3
  have := GoodL.dp hk.g
  have := GoodL.dn hk.g
  refine ⟨by simp only [dpN]; omega, by simp only [wN, nB]; omega, by simp only [nuN]; exact ⟨h, GoodL.nu hk.g⟩, ?_, by simp only [okN]; exact ⟨h0, GoodL.ok hk.g⟩, by simp only [dN]; omega, by simp only [shN]; exact GoodL.shs hk.g, by simp only [ndN, cB]; have := hk.ct3; omega⟩
  simp only [encN, nP]
  exact (small_t3 (k := 2 * n + 5) ((small_str s_awt).mono (Nat.le_refl _) (by omega)) (small_num h) hk.sm).mono (by omega) (by omega)
/-! ### the world -/
def wK (a b c : Int) : List (Key × V) := [(.inr "at", .int a), (.inr "most", .int b), (.inr "number", .int c)]
theorem dg_at {H : Hp} {d : Addr} {a b c : Int} (h : H d = some (.dK (wK a b c))) : DGet H d (.str "at") (some (.int a)) := by
  have := DGet.k (k := .inr "at") h
  exact this
theorem dg_most {H : Hp} {d : Addr} {a b c : Int} (h : H d = some (.dK (wK a b c))) : DGet H d (.str "most") (some (.int b)) := by
  have := DGet.k (k := .inr "most") h
  exact this
theorem dg_num {H : Hp} {d : Addr} {a b c : Int} (h : H d = some (.dK (wK a b c))) : DGet H d (.str "number") (some (.int c)) := by
  have := DGet.k (k := .inr "number") h
  exact this
def Nums (a b c : Int) : Prop := 0 ≤ a ∧ 0 ≤ c ∧ c ≤ 3 * a ∧ c ≤ 3 * b ∧ b ≤ 100
/-- the numbers rise, from above c up to c' -/
structure Ris (c c' : Int) (l : List Int) : Prop where
  p : l.Pairwise (· < ·)
  b : ∀ m ∈ l, c < m ∧ m ≤ c'
  le : c ≤ c'
theorem Ris.nil {c c' : Int} (h : c ≤ c') : Ris c c' [] := ⟨.nil, (fun _ h => nomatch h), h⟩
theorem Ris.app {c d e : Int} {l m : List Int} (h : Ris c d l) (k : Ris d e m) : Ris c e (l ++ m) := by
  have := h.le
  have := k.le
  refine ⟨List.pairwise_append.mpr ⟨h.p, k.p, fun a ha b hb => ?_⟩, fun x hx => ?_, by omega⟩
  · have := h.b a ha
    have := k.b b hb
    omega
  · rcases List.mem_append.mp hx with hx | hx
    · have := h.b x hx
      omega
    · have := k.b x hx
      omega
theorem Ris.one {c d : Int} (h : c < d) : Ris c d [d] := ⟨List.pairwise_singleton _ _, fun m hm => by rw [List.mem_singleton.mp hm]; omega, by omega⟩
theorem Ris.nd {c d : Int} {l : List Int} (h : Ris c d l) : l.Nodup := h.p.imp fun k e => by omega
theorem nmS_app (a b : List Nd) : nmS (a ++ b) = nmS a ++ nmS b := by
  induction a with
  | nil => simp [nmS]
  | cons d a ih => simp [nmS, ih]
def spTree (n : Nat) : Sp := fun vs H Q _ => ∃ (rl wd : Addr) (d : Int) (zs : List Int) (G : Hp) (M : List (Addr × HO)) (a b c : Int), vs = [.ref rl, .ref wd, .int d] ∧ d + n = 6 ∧ Sb G H ((wd, .dK (wK a b c)) :: M) ∧ G rl = some (.lst (zs.map V.int)) ∧ zs.length = 60 ∧ Nums a b c ∧
  ∀ p ks G' H' a' c', Sb G' H' ((wd, .dK (wK a' b c')) :: M) → Same G G' → TreeA G' p ks → GoodL n ks → Ris c c' (nmS ks) → Nums a' b c' → Q (.ref p) H'
section
variable {P : Program} {w : World} {K : PySem.W.Frag} {mg : Str → Option Value} {base : Heap} {C : Ad}
theorem sc__law_tree : FnScope ["rows", "world", "depth", "nodes", "_law_turn", "row", "kind", "attributes", "j", "name", "kids", "number"] ["rows", "world", "depth"] (defScope s__law_tree) := ⟨rfl, rfl, rfl, by decide +kernel, rfl, by decide +kernel, by decide +kernel⟩
theorem tree_0 (T : Txt K w mg C) {k : Nat} : Cal P w K mg base (k + 1) "_law_tree" spFalse := cal_of T.d__law_tree sc__law_tree (fun vs H Q E h => h.elim) (fun f cdv A outer s H vs Q E hr h => h.elim)
theorem tree_S (T : Txt K w mg C) {n : Nat} {sp : Sp} (hsp : ∀ m, m + 1 = n → sp = spTree m) (G_law_tree : Cal P w K mg base (n + 2) "_law_tree" sp) : Cal P w K mg base (n + 3) "_law_tree" (spTree n) := by
  have G_law_text := ok_ltext (P := P) (base := base) T
  have G_law_word := ok_word (P := P) (base := base) T
  refine cal_of T.d__law_tree sc__law_tree (fun vs H Q E h => ?_) (fun f cdv A outer s H vs Q E hr h => ?_)
  · obtain ⟨rl, wd, d, zs, G, M, a, b, c, rfl, _⟩ := h
    rfl
  · obtain ⟨rl, wd, d, zs, G, M, a, b, c, rfl, hdn, S, hrl, zl, hN, q⟩ := h
    have hu := hu_of hr
    have big : 100000 < sizeLine := by decide
    have L60 : ((zs.map V.int).length : Int) = 60 := by rw [List.length_map, zl]; rfl
    have draw : ∀ j : Int, ∃ z, atI (zs.map V.int) (j % ((zs.map V.int).length : Int)) = some (.int z) := fun j => by
      rw [L60]
      exact map_int_atR (Int.emod_nonneg _ (by decide)) (by rw [zl]; exact Int.emod_lt_of_pos _ (by decide))
    have L0 : (0 : Int) < ((zs.map V.int).length : Int) := by rw [L60]; decide
    obtain ⟨z0, hz0⟩ := draw a
    have r0 : 0 ≤ z0 % 4 := Int.emod_nonneg _ (by decide)
    have r1 : z0 % 4 < 4 := Int.emod_lt_of_pos _ (by decide)
    refine ⟨_, (pss_cons (ps_set (i := 3) sc__law_tree.nd rfl (Or.inl rfl) (pe_lst pa_nil)) (pss_cons (ps_for PassesOwn.never rfl (pi_range1 (by rfl) T.z_range (pa_cons (pe_op op_mod (pe_callTy call_int1 (by rfl) T.z_int (by decide +kernel) (pa_cons (pe_ix ix_list (pv 0) (pe_op op_mod (pe_dget hu (pv 1) pe_str (fun _ _ => rfl)) (pe_callB call_len_seq (by rfl) T.z_len PySem.boot_len (pa_cons (pv 0) pa_nil))) (fun _ _ => rfl)) pa_nil)) pe_int) pa_nil)) (pg_name (i := 4) sc__law_tree.nd rfl (Or.inl rfl)) (pss_cons (ps_set (i := 5) sc__law_tree.nd rfl (Or.inl rfl) (pe_op op_fdiv (pe_ix ix_list (pv 0) (pe_op op_mod (pe_dget hu (pv 1) pe_str (fun _ _ => rfl)) (pe_callB call_len_seq (by rfl) T.z_len PySem.boot_len (pa_cons (pv 0) pa_nil))) (fun _ _ => rfl)) pe_int)) (pss_cons (ps_dput hu (pv 1) pe_str (pe_op op_add (pe_dget hu (pv 1) pe_str (fun _ _ => rfl)) pe_int) rfl) (pss_cons (ps_if (pt_cmpR op_gt (pe_dget hu (pv 1) pe_str (fun _ _ => rfl)) (pe_dget hu (pv 1) pe_str (fun _ _ => rfl)) (nomark _)) (pss_one ps_break) pss_nil) (pss_cons (ps_set (i := 6) sc__law_tree.nd rfl (Or.inl rfl) (pe_op op_mod (pe_callTy call_int1 (by rfl) T.z_int (by decide +kernel) (pa_cons (pv 5) pa_nil)) pe_int)) (pss_one (ps_if (pt_cmpR op_le (pv 6) pe_int (nomark _)) (pss_one (ps_expr (pe_bm PySem.F.plainAttrs_list PySem.F.slot_list_append PySem.F.type_list_append mt_append (pv 3) (pa_cons (pe_tup (pa_cons pe_str (pa_cons (pe_c G_law_text hr (by omega) (by rfl) (pa_cons (pe_op op_fdiv (pv 5) pe_int) pa_nil)) pa_nil))) pa_nil)))) (pss_one (ps_if (PW.pt (pw_or (pt_cmpR op_le (pv 6) pe_int (nomark _)) (pw_or1 (pt_cmpR op_ge (pv 2) pe_int (nomark _))))) (pss_cons (ps_set (i := 7) sc__law_tree.nd rfl (Or.inl rfl) (pe_lst pa_nil)) (pss_cons (ps_for PassesOwn.never rfl (pi_range1 (by rfl) T.z_range (pa_cons (pe_op op_mod (pe_callTy call_int1 (by rfl) T.z_int (by decide +kernel) (pa_cons (pe_op op_fdiv (pv 5) pe_int) pa_nil)) pe_int) pa_nil)) (pg_name (i := 8) sc__law_tree.nd rfl (Or.inl rfl)) (pss_cons (ps_set (i := 9) sc__law_tree.nd rfl (Or.inl rfl) (pe_ix ix_list (pe_lst (pa_cons pe_str (pa_cons pe_str (pa_cons pe_str pa_nil)))) (pe_op op_mod (pe_op op_add (pe_callTy call_int1 (by rfl) T.z_int (by decide +kernel) (pa_cons (pe_op op_fdiv (pv 5) pe_int) pa_nil)) (pv 8)) pe_int) (fun _ _ => rfl))) (pss_one (ps_expr (pe_bm PySem.F.plainAttrs_list PySem.F.slot_list_append PySem.F.type_list_append mt_append (pv 7) (pa_cons (pe_tup (pa_cons (pv 9) (pa_cons (pe_c G_law_text hr (by omega) (by rfl) (pa_cons (pe_op op_fdiv (pv 5) (pe_op op_add pe_int (pe_op op_mul pe_int (pv 8)))) pa_nil)) pa_nil))) pa_nil)))))) (pss_cons (ps_set (i := 10) sc__law_tree.nd rfl (Or.inl rfl) (pe_lst pa_nil)) (C8.pss_cut (ps_if (pt_cmpR op_lt (pv 2) pe_int (nomark _)) (pss_one (ps_set (i := 10) sc__law_tree.nd rfl (Or.inl rfl) (pe_c G_law_tree hr (by omega) (by rfl) (pa_cons (pv 0) (pa_cons (pv 1) (pa_cons (pe_op op_add (pv 2) pe_int) pa_nil)))))) pss_nil) (pss_one (ps_expr (pe_bm PySem.F.plainAttrs_list PySem.F.slot_list_append PySem.F.type_list_append mt_append (pv 3) (pa_cons (pe_tup (pa_cons pe_str (pa_cons (pe_c G_law_word hr (by omega) (by rfl) (pa_cons (pe_op op_fdiv (pv 5) pe_int) pa_nil)) (pa_cons (pv 7) (pa_cons (pv 10) pa_nil))))) pa_nil)))))))) (pss_cons (ps_set (i := 11) sc__law_tree.nd rfl (Or.inl rfl) pe_non) (C8.pss_cut (ps_if (pt_cmpR op_eq (pv 6) pe_int (nomark _)) (pss_cons (ps_dput hu (pv 1) pe_str (pe_op op_add (pe_op op_add (pe_dget hu (pv 1) pe_str (fun _ _ => rfl)) pe_int) (pe_op op_mod (pe_callTy call_int1 (by rfl) T.z_int (by decide +kernel) (pa_cons (pe_op op_fdiv (pv 5) pe_int) pa_nil)) pe_int)) rfl) (pss_one (ps_set (i := 11) sc__law_tree.nd rfl (Or.inl rfl) (pe_dget hu (pv 1) pe_str (fun _ _ => rfl))))) pss_nil) (pss_one (ps_expr (pe_bm PySem.F.plainAttrs_list PySem.F.slot_list_append PySem.F.type_list_append mt_append (pv 3) (pa_cons (pe_tup (pa_cons pe_str (pa_cons (pv 11) (pa_cons (pe_c G_law_tree hr (by omega) (by rfl) (pa_cons (pv 0) (pa_cons (pv 1) (pa_cons (pe_op op_add (pv 2) pe_int) pa_nil)))) pa_nil)))) pa_nil))))))))))))))) (pss_one (ps_ret (pv 3))))), ?_⟩
    refine ⟨by show 0 ≤ sizeLine; decide, fun p hp => ?_⟩
    have S1 := S.add (o := .lst []) hp
    have hrl1 := S1.s _ _ hrl
    refine ⟨_, rfl, _, rfl, wd, _, rfl, dg_at S1.hd2, _, rfl, rl, _, rfl, .inl (SqL.of hrl1), _, _, rfl, rfl, L0, rl, _, _, _, rfl, rfl, SqL.of hrl1, hz0, .inl ⟨_, rfl, _, _, rfl, rfl, (by show (0 : Int) < 4; decide), _, rfl, by omega, by omega, ?_⟩⟩
    have fin : ∀ (G1 H1 : Hp) (ks : List Nd) (xs : List V) (a1 c1 : Int), Sb G1 H1 ((p, .lst xs) :: (wd, .dK (wK a1 b c1)) :: M) → Same G G1 → DqAll G1 xs (encS ks) → GoodL n ks → Ris c c1 (nmS ks) → Nums a1 b c1 → Q (.ref p) H1 := by
      intro G1 H1 ks xs a1 c1 S1 g1 dk gk ri nu
      obtain ⟨S2, g2⟩ := S1.drop
      exact q p ks _ H1 a1 c1 S2 (Same.trans g1 g2) (.lst upd_same (dk.same g2)) gk ri nu
    refine for_it (walk_range (lo := 0) (n := (z0 % 4).toNat)) (fun i σ H' => ∃ (G1 : Hp) (ks : List Nd) (xs : List V) (a1 c1 : Int) (y4 y5 y6 y7 y8 y9 y10 y11 : Option V), Sb G1 H' ((p, .lst xs) :: (wd, .dK (wK a1 b c1)) :: M) ∧ Same G G1 ∧ DqAll G1 xs (encS ks) ∧ (∀ d ∈ ks, GoodNd n d) ∧ ks.length ≤ i ∧ Ris c c1 (nmS ks) ∧ Nums a1 b c1 ∧
      σ = [some (.ref rl), some (.ref wd), some (.int d), some (.ref p), y4, y5, y6, y7, y8, y9, y10, y11]) ⟨G, [], [], a, c, none, none, none, none, none, none, none, none, S1, Same.refl _, .nil, (fun _ h => nomatch h), Nat.le_refl _, by simp only [nmS]; exact .nil (by omega), hN, rfl⟩ (fun _ _ _ _ _ => trivial) ?_ ?_
    · rintro i x σ H1 H2 hi ⟨G1, ks, xs, a1, c1, y4, y5, y6, y7, y8, y9, y10, y11, S2, g1, dk, gk, kl, ri, ⟨n1, n2, n3, n4, n5⟩, rfl⟩ ⟨rfl, rfl⟩
      obtain ⟨z, hz⟩ := draw a1
      have hrl2 := S2.s _ _ (g1 _ _ hrl)
      have S3 := S2.put2 (u := .dK (wK (a1 + 1) b c1))
      refine ⟨_, rfl, _, rfl, wd, _, rfl, dg_at S2.hd2, _, rfl, rl, _, rfl, .inl (SqL.of hrl2), _, _, rfl, rfl, L0, rl, _, _, _, rfl, rfl, SqL.of hrl2, hz, _, _, rfl, rfl, ⟨by decide, by decide⟩, ?_⟩
      refine ⟨_, rfl, wd, _, rfl, dg_at S2.hd2, _, _, rfl, rfl, _, rfl, wd, _, rfl, DPut.k (k := .inr "at") S2.hd2 (by show 3 < _; decide), ?_⟩
      show _
      refine ⟨_, rfl, wd, _, rfl, dg_at S3.hd2, _, rfl, wd, _, rfl, dg_most S3.hd2, _, _, rfl, rfl, _, rfl, ite2 (fun cb => ?_) (fun cb => ?_)⟩
      · exact ⟨_, rfl, fin G1 _ ks xs (a1 + 1) c1 S3 g1 dk ⟨gk, by omega⟩ ri ⟨by omega, n2, by omega, n4, n5⟩⟩
      have cb' : a1 + 1 ≤ b := by
        have : ¬ (a1 + 1 > b) := fun z => cb (decide_eq_true z)
        omega
      have step : ∀ (d' : Nd) (v : V) (G3 H3 : Hp) (a3 c3 : Int) (y4 y5 y6 y7 y8 y9 y10 y11 : Option V), Sb G3 H3 ((p, .lst xs) :: (wd, .dK (wK a3 b c3)) :: M) → Same G1 G3 → Dq G3 v (encN d') → GoodNd n d' → Ris c1 c3 (nmN d') → Nums a3 b c3 →
          ∃ l xs' v', V.ref p = .ref l ∧ [v] = [v'] ∧ H3 l = some (.lst xs') ∧ xs'.length < sizeLine ∧ (∃ (G1 : Hp) (ks : List Nd) (xs : List V) (a1 c1 : Int) (z4 z5 z6 z7 z8 z9 z10 z11 : Option V), Sb G1 (upd H3 l (.lst (xs' ++ [v']))) ((p, .lst xs) :: (wd, .dK (wK a1 b c1)) :: M) ∧ Same G G1 ∧ DqAll G1 xs (encS ks) ∧ (∀ d ∈ ks, GoodNd n d) ∧ ks.length ≤ i + 1 ∧ Ris c c1 (nmS ks) ∧ Nums a1 b c1 ∧
      [some (V.ref rl), some (.ref wd), some (.int d), some (.ref p), y4, y5, y6, y7, y8, y9, y10, y11] = [some (.ref rl), some (.ref wd), some (.int d), some (.ref p), z4, z5, z6, z7, z8, z9, z10, z11]) := by
        intro d' v G3 H3 a3 c3 y4 y5 y6 y7 y8 y9 y10 y11 S3 g3 dv gd rd nu
        have xl := dk.len
        rw [encS_len] at xl
        refine ⟨p, xs, v, rfl, rfl, S3.hd, by omega, G3, ks ++ [d'], xs ++ [v], a3, c3, y4, y5, y6, y7, y8, y9, y10, y11, S3.put, Same.trans g1 g3, ?_, ?_, ?_, ?_, nu, rfl⟩
        · rw [encS_app]
          exact dqAll_ap (dk.same g3) (by simp only [encS]; exact .cons dv .nil)
        · intro e he
          rcases List.mem_append.mp he with he | he
          · exact gk e he
          · rw [List.mem_singleton.mp he]; exact gd
        · rw [List.length_append, List.length_singleton]
          omega
        · rw [nmS_app]
          simp only [nmS, List.append_nil]
          exact ri.app rd
      refine ⟨_, rfl, .inl ⟨_, rfl, _, _, rfl, rfl, (by show (0 : Int) < 6; decide), ?_⟩⟩
      refine ⟨_, rfl, _, _, rfl, rfl, _, rfl, ite2 (fun k1 => ?_) (fun k1 => ?_)⟩
      · refine ⟨_, rfl, .inl ⟨rfl, _, SqL.of S3.hd⟩, _, rfl, _, _, rfl, rfl, ⟨by decide, by decide⟩, _, rfl, fun l H4 hl s4 => ⟨by show 2 ≤ sizeLine; decide, fun t ht => ?_⟩⟩
        obtain ⟨G4, S4, g4⟩ := S3.more s4
        have S5 := S4.alloc (o := .tup [.str "text", .str (TX l)]) ht
        exact step (.tx l) (.ref t) _ _ (a1 + 1) c1 _ _ _ _ _ _ _ _ S5 (Same.trans g4 (S4.grow ht)) (by simp only [encN]; exact .tup upd_same (.cons (.str _) (.cons (.str _) .nil))) (good_tx hl) (by simp only [nmN]; exact .nil (Int.le_refl _)) ⟨by omega, n2, by omega, n4, n5⟩
      · refine ⟨_, rfl, _, _, rfl, rfl, _, rfl, ite2 (fun k2 => iteT ?A) (fun k2 => ⟨_, rfl, _, _, rfl, rfl, _, rfl, ite2 (fun k3 => ?A2) (fun k3 => ?B)⟩)⟩
        case B =>
          have d6 : d < 6 := by
            have : ¬ (6 ≤ d) := fun z => k3 (decide_eq_true z)
            omega
          obtain ⟨m, rfl⟩ : ∃ m, n = m + 1 := ⟨n - 1, by omega⟩
          have e := hsp m rfl
          subst e
          refine ⟨fun σ' H' => ∃ (num : Option Int) (c4 : Int), Sb G1 H' ((p, .lst xs) :: (wd, .dK (wK (a1 + 1) b c4)) :: M) ∧ Nums (a1 + 1) b c4 ∧ (∀ i, num = some i → 1 ≤ i ∧ i < 10 ^ 9) ∧ Ris c1 c4 num.toList ∧
            σ' = [some (.ref rl), some (.ref wd), some (.int d), some (.ref p), some (.int (0 + (i : Int))), some (.int (z / 4)), some (.int (z / 4 % 6)), y7, y8, y9, y10, some (nVV num)], ?_, ?_⟩
          · refine ⟨_, rfl, rfl, _, rfl, ite2 (fun k4 => ?_) (fun k4 => ⟨none, c1, S3, ⟨by omega, n2, by omega, n4, n5⟩, (fun _ h => nomatch h), .nil (Int.le_refl _), rfl⟩)⟩
            have q0 : 0 ≤ z / 4 / 6 % 3 := Int.emod_nonneg _ (by decide)
            have q1 : z / 4 / 6 % 3 < 3 := Int.emod_lt_of_pos _ (by decide)
            have S4 := S3.put2 (u := .dK (wK (a1 + 1) b (c1 + 1 + z / 4 / 6 % 3)))
            refine ⟨_, rfl, wd, _, rfl, dg_num S3.hd2, _, _, rfl, rfl, _, rfl, _, _, rfl, rfl, ⟨by decide, by decide⟩, .inl ⟨_, rfl, _, _, rfl, rfl, (by show (0 : Int) < 3; decide), _, _, rfl, rfl, _, rfl, wd, _, rfl, DPut.k (k := .inr "number") S3.hd2 (by show 3 < _; decide), ?_⟩⟩
            refine ⟨_, rfl, wd, _, rfl, dg_num S4.hd2, some (c1 + 1 + z / 4 / 6 % 3), _, S4, ⟨by omega, by omega, by omega, by omega, n5⟩, fun j hj => ?_, .one (by omega), rfl⟩
            cases hj
            exact ⟨by omega, by omega⟩
          · rintro σ' H4 ⟨num, c4, S4, ⟨u1, u2, u3, u4, u5⟩, hnum, rnum, rfl⟩
            refine ⟨_, rfl, .inl ⟨rfl, _, SqL.of S4.hd⟩, _, rfl, _, rfl, _, rfl, _, rfl, _, _, rfl, rfl, rl, wd, d + 1, zs, G1, (p, .lst xs) :: M, a1 + 1, b, c4, rfl, by omega, S4.swap, g1 _ _ hrl, zl, ⟨u1, u2, u3, u4, u5⟩, fun pk kk G5 H5 a5 c5 S5 g5 tk gk5 ri5 nu5 => ⟨by show 3 ≤ sizeLine; decide, fun t ht => ?_⟩⟩
            have S6 := S5.swap.alloc (o := .tup [.str "await", nVV num, .ref pk]) ht
            have g6 := S5.swap.grow (o := .tup [.str "await", nVV num, .ref pk]) ht
            refine step (.aw num kk) (.ref t) _ _ a5 c5 _ _ _ _ _ _ _ _ S6 (Same.trans g5 g6) ?_ (good_aw hnum gk5) (by simp only [nmN]; exact rnum.app ri5) nu5
            simp only [encN]
            refine .tup upd_same (.cons (.str _) (.cons ?_ (.cons (tk.same g6) .nil)))
            cases num with
            | none => exact .non
            | some j => exact .int j
        all_goals
          refine ⟨by show 0 ≤ sizeLine; decide, fun pa hpa => ?_⟩
          have S4 := S3.add (o := .lst []) hpa
          have q0 : 0 ≤ z / 4 / 6 % 3 := Int.emod_nonneg _ (by decide)
          have q1 : z / 4 / 6 % 3 < 3 := Int.emod_lt_of_pos _ (by decide)
          refine ⟨_, rfl, _, _, rfl, rfl, ⟨by decide, by decide⟩, .inl ⟨_, rfl, _, _, rfl, rfl, (by show (0 : Int) < 3; decide), _, rfl, by omega, by omega, ?_⟩⟩
          refine for_it (walk_range (lo := 0) (n := (z / 4 / 6 % 3).toNat)) (fun j σ H' => ∃ (G2 : Hp) (as : List (List Nat × List Nat)) (ax : List V) (y8 y9 : Option V), Sb G2 H' ((pa, .lst ax) :: (p, .lst xs) :: (wd, .dK (wK (a1 + 1) b c1)) :: M) ∧ Same G1 G2 ∧ DqAll G2 ax (as.map pairD) ∧ (∀ x ∈ as, okL 5 x.1 ∧ okL 5 x.2) ∧ as.map (·.1) = (List.range j).map (fun m : Nat => nmL ((z / 4 / 18 + (0 + (m : Int))) % 3)) ∧
            σ = [some (.ref rl), some (.ref wd), some (.int d), some (.ref p), some (.int (0 + (i : Int))), some (.int (z / 4)), some (.int (z / 4 % 6)), some (.ref pa), y8, y9, y10, y11]) ⟨G1, [], [], _, _, S4, Same.refl _, .nil, (fun _ h => nomatch h), rfl, rfl⟩ (fun _ _ _ _ _ => trivial) ?_ ?_
          · rintro j x σ H5 H6 hj ⟨G2, as, ax, y8, y9, S5, g2, da, ga, al, rfl⟩ ⟨rfl, rfl⟩
            have hj3 : (j : Int) < 3 := by omega
            have axl := da.len
            rw [List.length_map] at axl
            have hnm := names_at (k := (z / 4 / 18 + (0 + (j : Int))) % 3) (Int.emod_nonneg _ (by decide)) (Int.emod_lt_of_pos _ (by decide))
            have hln := (nmL_ok ((z / 4 / 18 + (0 + (j : Int))) % 3)).1
            have all : as.length = j := by have := congrArg List.length al; simpa using this
            obtain ⟨ln, eln⟩ : ∃ ln, ln = nmL ((z / 4 / 18 + (0 + (j : Int))) % 3) := ⟨_, rfl⟩
            rw [← eln] at hnm hln
            refine ⟨by show 3 ≤ sizeLine; decide, fun u hu => ⟨_, rfl, _, _, rfl, rfl, ⟨by decide, by decide⟩, .inl ⟨_, rfl, _, rfl, _, _, rfl, rfl, _, _, rfl, rfl, (by show (0 : Int) < 3; decide), u, _, _, _, rfl, rfl, SqL.of upd_same, hnm, ?_⟩⟩⟩
            obtain ⟨G3, S6, g3⟩ := S5.more (Sm.new (o := .lst [V.str "n", .str "v-2", .str "data"]) hu)
            refine ⟨_, rfl, .inl ⟨rfl, _, SqL.of S6.hd⟩, _, rfl, _, rfl, _, rfl, _, _, rfl, rfl, .inl ⟨by decide, by decide⟩, _, _, rfl, rfl, _, _, rfl, rfl, ⟨by omega, by omega⟩, _, rfl, fun l H7 hl s7 => ⟨by show 2 ≤ sizeLine; decide, fun t ht => ?_⟩⟩
            obtain ⟨G4, S7, g4⟩ := S6.more s7
            have S8 := S7.alloc (o := .tup [.str (TX ln), .str (TX l)]) ht
            have g8 := S7.grow (o := .tup [.str (TX ln), .str (TX l)]) ht
            refine ⟨pa, _, _, rfl, rfl, S8.hd, by omega, _, as ++ [(ln, l)], ax ++ [.ref t], _, _, S8.put, Same.trans g2 (Same.trans g3 (Same.trans g4 g8)), ?_, fun x hx => ?_, by rw [List.map_append, al, List.range_succ, List.map_append, eln]; rfl, rfl⟩
            · rw [List.map_append]
              exact dqAll_ap (da.same (Same.trans g3 (Same.trans g4 g8))) (.cons (.tup upd_same (.cons (.str _) (.cons (.str _) .nil))) .nil)
            · rcases List.mem_append.mp hx with hx | hx
              · exact ga x hx
              · rw [List.mem_singleton.mp hx]; exact ⟨hln, hl⟩
          · rintro σ H5 ⟨G2, as, ax, y8, y9, S5, g2, da, ga, al, rfl⟩
            obtain ⟨S6, g6⟩ := S5.drop
            have da6 : Dq (upd G2 pa (.lst ax)) (.ref pa) (.list (as.map pairD)) := .lst upd_same (da.same g6)
            have all : as.length = (z / 4 / 6 % 3).toNat := by have := congrArg List.length al; simpa using this
            have gas : GoodAs as := ⟨ga, by omega, by
              rw [al]
              have m3 : ∀ m : Nat, 0 ≤ (z / 4 / 18 + (0 + (m : Int))) % 3 ∧ (z / 4 / 18 + (0 + (m : Int))) % 3 < 3 := fun m => ⟨Int.emod_nonneg _ (by decide), Int.emod_lt_of_pos _ (by decide)⟩
              rcases (show (z / 4 / 6 % 3).toNat = 0 ∨ (z / 4 / 6 % 3).toNat = 1 ∨ (z / 4 / 6 % 3).toNat = 2 by omega) with e | e | e
              · rw [e]; exact .nil
              · rw [e]; exact List.nodup_cons.mpr ⟨by simp, .nil⟩
              · rw [e]
                have ne := nmL_ne (m3 0) (m3 1) (by omega)
                exact List.nodup_cons.mpr ⟨fun h => ne (List.mem_singleton.mp h), List.nodup_cons.mpr ⟨by simp, .nil⟩⟩, fun a ha => by
              have hm : a.1 ∈ as.map (·.1) := List.mem_map.mpr ⟨a, ha, rfl⟩
              rw [al] at hm
              obtain ⟨m, _, e⟩ := List.mem_map.mp hm
              rw [← e]
              exact (nmL_ok _).2, fun a ha => by
              have hm : a.1 ∈ as.map (·.1) := List.mem_map.mpr ⟨a, ha, rfl⟩
              rw [al] at hm
              obtain ⟨m, _, e⟩ := List.mem_map.mp hm
              rw [← e]
              exact nmL_nz _⟩
            refine ⟨by show 0 ≤ sizeLine; decide, fun pk hpk => ?_⟩
            have S7 := S6.alloc (o := .lst []) hpk
            have g7 := S6.grow (o := .lst []) hpk
            have g17 := Same.trans g2 (Same.trans g6 g7)
            have da7 := da6.same g7
            have tk7 : TreeA (upd (upd G2 pa (.lst ax)) pk (.lst [])) pk [] := .lst upd_same (by simp only [encS]; exact .nil)
            generalize upd (upd G2 pa (.lst ax)) pk (.lst []) = G7 at S7 g17 da7 tk7
            refine ⟨fun σ' H' => ∃ (G8 : Hp) (kk : List Nd) (pk' : Addr) (a8 c8 : Int), Sb G8 H' ((p, .lst xs) :: (wd, .dK (wK a8 b c8)) :: M) ∧ Same G7 G8 ∧ TreeA G8 pk' kk ∧ (∀ t as, okL 5 t → wOk t → GoodAs as → GoodNd n (.el t as kk)) ∧ Ris c1 c8 (nmS kk) ∧ Nums a8 b c8 ∧
              σ' = [some (.ref rl), some (.ref wd), some (.int d), some (.ref p), some (.int (0 + (i : Int))), some (.int (z / 4)), some (.int (z / 4 % 6)), some (.ref pa), y8, y9, some (.ref pk'), y11], ?_, ?_⟩
            · refine ⟨_, rfl, _, _, rfl, rfl, _, rfl, ite2 (fun k4 => ?_) (fun k4 => ⟨G7, [], pk, _, _, S7, Same.refl _, tk7, fun t as h1 h2 h3 => good_el0 h1 h2 h3, by simp only [nmS]; exact .nil (Int.le_refl _), ⟨by omega, n2, by omega, n4, n5⟩, rfl⟩)⟩
              have d6 : d < 6 := of_decide_eq_true k4
              obtain ⟨m, rfl⟩ : ∃ m, n = m + 1 := ⟨n - 1, by omega⟩
              have e := hsp m rfl
              subst e
              refine ⟨_, rfl, _, rfl, _, rfl, _, _, rfl, rfl, rl, wd, d + 1, zs, G7, (p, .lst xs) :: M, a1 + 1, b, c1, rfl, by omega, S7.swap, g17 _ _ (g1 _ _ hrl), zl, ⟨by omega, n2, by omega, n4, n5⟩, fun pk' kk G8 H8 a8 c8 S8 g8 tk8 gk8 ri8 nu8 => ?_⟩
              exact ⟨G8, kk, pk', a8, c8, S8.swap, g8, tk8, fun t as h1 h2 h3 => good_el h1 h2 h3 gk8, ri8, nu8, rfl⟩
            · rintro σ' H8 ⟨G8, kk, pk', a8, c8, S8, g8, tk8, gel, ri8, nu8, rfl⟩
              refine ⟨_, rfl, .inl ⟨rfl, _, SqL.of S8.hd⟩, _, rfl, _, _, rfl, rfl, ⟨by decide, by decide⟩, _, rfl, fun l H9 hl hw s9 => ⟨_, rfl, _, rfl, by show 4 ≤ sizeLine; decide, fun t ht => ?_⟩⟩
              obtain ⟨G9, S9, g9⟩ := S8.more s9
              have S10 := S9.alloc (o := .tup [.str "element", .str (TX l), .ref pa, .ref pk']) ht
              have g10 := S9.grow (o := .tup [.str "element", .str (TX l), .ref pa, .ref pk']) ht
              refine step (.el l as kk) (.ref t) _ _ a8 c8 _ _ _ _ _ _ _ _ S10 (Same.trans g17 (Same.trans g8 (Same.trans g9 g10))) ?_ (gel l as hl hw gas) (by simp only [nmN]; exact ri8) nu8
              simp only [encN]
              exact .tup upd_same (.cons (.str _) (.cons (.str _) (.cons (((da7.same g8).same g9).same g10) (.cons ((tk8.same g9).same g10) .nil))))
    · rintro σ H1 ⟨G1, ks, xs, a1, c1, y4, y5, y6, y7, y8, y9, y10, y11, S2, g1, dk, gk, kl, ri, nu, rfl⟩
      exact ⟨_, rfl, fin G1 H1 ks xs a1 c1 S2 g1 dk ⟨gk, by omega⟩ ri nu⟩
theorem tree_N (T : Txt K w mg C) : ∀ n : Nat, Cal P w K mg base (n + 3) "_law_tree" (spTree n)
  | 0 => tree_S T (n := 0) (sp := spFalse) (fun m h => by omega) (tree_0 T)
  | n + 1 => tree_S T (n := n + 1) (sp := spTree n) (fun m h => by rw [Nat.succ.inj h]) (tree_N T n)
end
end VL

set_option Elab.async false
set_option linter.all false
set_option pp.maxSteps 700
set_option maxRecDepth 100000
set_option maxHeartbeats 4000000
namespace VL
open PySem PySem.Spec PyProof.Rows L2
/-! ### rows of parts: nodes, beginnings and ends of awaits -/
inductive Tok where
  | nd (d : Nd)
  | aw (n : Option Int)
  | en
def encT : Tok → PyData
  | .nd d => encN d
  | .aw n => .tuple [.str "await", nV n]
  | .en => .tuple [.str "end"]
mutual
def tkN : Nd → List Tok
  | .tx x => [.nd (.tx x)]
  | .el t as ks => [.nd (.el t as ks)]
  | .aw n ks => .aw n :: (tkS ks ++ [.en])
def tkS : List Nd → List Tok
  | [] => []
  | d :: r => tkN d ++ tkS r
end
mutual
/-- how many texts and elements stand in a row -/
def cN : Nd → Nat
  | .tx _ => 1
  | .el _ _ _ => 1
  | .aw _ ks => cS ks
def cS : List Nd → Nat
  | [] => 0
  | d :: r => cN d + cS r
end
mutual
/-- how deep awaits stand in one another, elements not entered -/
def adN : Nd → Nat
  | .tx _ => 0
  | .el _ _ _ => 0
  | .aw _ ks => adS ks + 1
def adS : List Nd → Nat
  | [] => 0
  | d :: r => max (adN d) (adS r)
end
theorem tkS_app (a b : List Nd) : tkS (a ++ b) = tkS a ++ tkS b := by
  induction a with
  | nil => simp [tkS]
  | cons d a ih => simp [tkS, ih]
theorem cS_app (a b : List Nd) : cS (a ++ b) = cS a + cS b := by
  induction a with
  | nil => simp [cS]
  | cons d a ih => simp [cS, ih]; omega
theorem ad_mem : ∀ {ks : List Nd} {d : Nd}, d ∈ ks → adN d ≤ adS ks
  | e :: r, d, h => by
    simp only [adS]
    rcases List.mem_cons.mp h with rfl | h
    · omega
    · have := ad_mem h
      omega
def isNd : Tok → Bool
  | .nd _ => true
  | _ => false
def nds (ts : List Tok) : List Tok := ts.filter isNd
theorem nds_app (a b : List Tok) : nds (a ++ b) = nds a ++ nds b := List.filter_append ..
mutual
/-- the texts and elements of a row, awaits opened -/
def ndlN : Nd → List Nd
  | .tx x => [.tx x]
  | .el t as ks => [.el t as ks]
  | .aw _ ks => ndlS ks
def ndlS : List Nd → List Nd
  | [] => []
  | d :: r => ndlN d ++ ndlS r
end
mutual
theorem nds_tkN : ∀ d : Nd, nds (tkN d) = (ndlN d).map Tok.nd
  | .tx x => rfl
  | .el t as ks => rfl
  | .aw n ks => by
    have := nds_tkS ks
    simp only [tkN, ndlN]
    show nds (tkS ks ++ [.en]) = _
    rw [nds_app, this]
    simp [nds, isNd]
theorem nds_tkS : ∀ ks : List Nd, nds (tkS ks) = (ndlS ks).map Tok.nd
  | [] => rfl
  | d :: r => by
    simp only [tkS, ndlS]
    rw [nds_app, nds_tkN d, nds_tkS r, List.map_append]
end
theorem nds_map (l : List Nd) : nds (l.map Tok.nd) = l.map Tok.nd := by
  unfold nds
  rw [List.filter_eq_self]
  intro a ha
  obtain ⟨d, _, rfl⟩ := List.mem_map.mp ha
  rfl
def isAw : List Tok → Bool
  | .aw _ :: _ => true
  | _ => false
/-- what a comparison without differences tells -/
inductive Ew where
  | lt (k : Int)
  | pr (p q : List Int)
inductive R : Nat → List Int → List Int → Nat → Nat → List Tok → List Tok → Option (List Ew) → Prop
  | nil {n : Nat} {p q : List Int} {i j : Nat} : R n p q i j [] [] (some [])
  | en {n : Nat} {p q : List Int} {i j : Nat} {r s : List Tok} {z : Option (List Ew)} : R n p q i j r s z → R n p q i j (.en :: r) (.en :: s) z
  | aw {n : Nat} {p q : List Int} {i j : Nat} {r s : List Tok} {z : Option (List Ew)} {m m' : Option Int} : (m = none ↔ m' = none) → R n p q i j r s z → R n p q i j (.aw m :: r) (.aw m' :: s) z
  | miss {n : Nat} {p q : List Int} {i j : Nat} {r s : List Tok} {k : Int} : R n p q i j (.aw none :: r) (.aw (some k) :: s) none
  | late {n : Nat} {p q : List Int} {i j : Nat} {ks ls : List Nd} {r s : List Tok} {z : Option (List Ew)} {k : Int} : R n p q (i + cS ks) (j + cS ls) r s z → R n p q i j (.aw (some k) :: (tkS ks ++ .en :: r)) (.aw none :: (tkS ls ++ .en :: s)) (z.map (.lt k :: ·))
  | tx {n : Nat} {p q : List Int} {i j : Nat} {r s : List Tok} {z : Option (List Ew)} {x : List Nat} : R n p q (i + 1) (j + 1) r s z → R n p q i j (.nd (.tx x) :: r) (.nd (.tx x) :: s) (z.map (.pr (p ++ [(i : Int)]) (q ++ [(j : Int)]) :: ·))
  | el {n : Nat} {p q : List Int} {i j : Nat} {r s : List Tok} {z : Option (List Ew)} {t : List Nat} {as : List (List Nat × List Nat)} {ks ls : List Nd} {es : List Ew} : (as.map (·.1)).Nodup → as.length ≤ 10 → R n (p ++ [(i : Int)]) (q ++ [(j : Int)]) 0 0 (tkS ks) (tkS ls) (some es) → R (n + 1) p q (i + 1) (j + 1) r s z → R (n + 1) p q i j (.nd (.el t as ks) :: r) (.nd (.el t as ls) :: s) (z.map fun a => .pr (p ++ [(i : Int)]) (q ++ [(j : Int)]) :: (es ++ a))
  | elM {n : Nat} {p q : List Int} {i j : Nat} {r s : List Tok} {t : List Nat} {as : List (List Nat × List Nat)} {ks ls : List Nd} : (as.map (·.1)).Nodup → as.length ≤ 10 → R n (p ++ [(i : Int)]) (q ++ [(j : Int)]) 0 0 (tkS ks) (tkS ls) none → R (n + 1) p q i j (.nd (.el t as ks) :: r) (.nd (.el t as ls) :: s) none
  | drop {n : Nat} {p q : List Int} {i j : Nat} {r s : List Tok} {z : Option (List Ew)} : (isAw r != isAw s) = true → R n p q i j (nds r) (nds s) z → R n p q i j r s z
/-! documents that stand beside each other: what _law_turned makes -/
mutual
def alN : Nd → Nat → Nd → Prop
  | .tx x, _, e => e = .tx x
  | .el t as ks, n, e => ∃ n' ls, n = n' + 1 ∧ e = .el t as ls ∧ (as.map (·.1)).Nodup ∧ as.length ≤ 10 ∧ alS ks n' ls
  | .aw m ks, n, e => ∃ m' ls, e = .aw m' ls ∧ ((m ≠ none ∧ m' = none) ∨ (m = none ∧ m' ≠ none) ∨ (m = m' ∧ alS ks n ls))
def alS : List Nd → Nat → List Nd → Prop
  | [], _, ls => ls = []
  | d :: r, n, ls => ∃ e s, ls = e :: s ∧ alN d n e ∧ alS r n s
end
mutual
def reN (p q : List Int) (i j : Nat) : Nd → Nd → Option (List Ew)
  | .tx _, _ => some [.pr (p ++ [(i : Int)]) (q ++ [(j : Int)])]
  | .el _ _ ks, e => match e with
    | .el _ _ ls => (reS (p ++ [(i : Int)]) (q ++ [(j : Int)]) 0 0 ks ls).map (.pr (p ++ [(i : Int)]) (q ++ [(j : Int)]) :: ·)
    | _ => none
  | .aw m ks, e => match e with
    | .aw m' ls => match m, m' with
      | some k, none => some [.lt k]
      | none, some _ => none
      | _, _ => reS p q i j ks ls
    | _ => none
def reS (p q : List Int) (i j : Nat) : List Nd → List Nd → Option (List Ew)
  | [], _ => some []
  | d :: r, ls => match ls with
    | e :: s => (reN p q i j d e).bind fun a => (reS p q (i + cN d) (j + cN e) r s).map (a ++ ·)
    | [] => none
end
def glue (a z : Option (List Ew)) : Option (List Ew) := a.bind fun x => z.map (x ++ ·)
theorem glue_glue (a b z : Option (List Ew)) : glue a (glue b z) = glue (a.bind fun x => b.map (x ++ ·)) z := by
  cases a <;> cases b <;> cases z <;> simp [glue]
theorem glue_nil (z : Option (List Ew)) : glue (some []) z = z := by cases z <;> simp [glue]
mutual
theorem R_alN : ∀ (d e : Nd) {n : Nat} {p q : List Int} {i j : Nat} {r s : List Tok} {z : Option (List Ew)}, alN d n e → R n p q (i + cN d) (j + cN e) r s z → R n p q i j (tkN d ++ r) (tkN e ++ s) (glue (reN p q i j d e) z)
  | .tx x, e, n, p, q, i, j, r, s, z, h, hr => by
    simp only [alN] at h
    subst h
    simp only [cN] at hr
    simp only [tkN, reN, glue, Option.bind_some]
    exact R.tx hr
  | .el t as ks, e, n, p, q, i, j, r, s, z, h, hr => by
    simp only [alN] at h
    obtain ⟨n', ls, rfl, rfl, nd, al, ha⟩ := h
    simp only [cN] at hr
    have hk := R_alS ks ls (n := n') (p := p ++ [(i : Int)]) (q := q ++ [(j : Int)]) (i := 0) (j := 0) (r := []) (s := []) (z := some []) ha R.nil
    rw [List.append_nil, List.append_nil] at hk
    simp only [tkN, reN]
    cases he : reS (p ++ [(i : Int)]) (q ++ [(j : Int)]) 0 0 ks ls with
    | none =>
      rw [he] at hk
      exact R.elM nd al hk
    | some es =>
      rw [he] at hk
      simp only [glue, Option.bind_some, Option.map_some, List.append_nil] at hk
      have := R.el (t := t) nd al hk hr
      simpa [glue] using this
  | .aw m ks, e, n, p, q, i, j, r, s, z, h, hr => by
    simp only [alN] at h
    obtain ⟨m', ls, rfl, h⟩ := h
    simp only [cN] at hr
    simp only [tkN, List.cons_append, List.append_assoc, List.nil_append]
    rcases h with ⟨h1, rfl⟩ | ⟨rfl, h2⟩ | ⟨rfl, h3⟩
    · cases m with
      | none => exact absurd rfl h1
      | some k =>
        simp only [reN, glue, Option.bind_some]
        exact R.late hr
    · cases m' with
      | none => exact absurd rfl h2
      | some k =>
        simp only [reN, glue, Option.bind_none]
        exact R.miss
    · have e : reN p q i j (.aw m ks) (.aw m ls) = reS p q i j ks ls := by
        cases m <;> simp [reN]
      rw [e]
      exact R.aw Iff.rfl (R_alS ks ls h3 (R.en hr))
theorem R_alS : ∀ (ks ls : List Nd) {n : Nat} {p q : List Int} {i j : Nat} {r s : List Tok} {z : Option (List Ew)}, alS ks n ls → R n p q (i + cS ks) (j + cS ls) r s z → R n p q i j (tkS ks ++ r) (tkS ls ++ s) (glue (reS p q i j ks ls) z)
  | [], ls, n, p, q, i, j, r, s, z, h, hr => by
    simp only [alS] at h
    subst h
    simp only [cS, Nat.add_zero] at hr
    simp only [tkS, reS, List.nil_append]
    rw [glue_nil]
    exact hr
  | d :: k, ls, n, p, q, i, j, r, s, z, h, hr => by
    simp only [alS] at h
    obtain ⟨e, l, rfl, h1, h2⟩ := h
    simp only [cS] at hr
    rw [← Nat.add_assoc, ← Nat.add_assoc] at hr
    have h3 := R_alS k l h2 hr
    have h4 := R_alN d e h1 h3
    simp only [tkS, reS, List.append_assoc]
    rw [glue_glue] at h4
    exact h4
end
/-! a document and its bare one -/
def ltL (es : List Ew) : List Int := es.filterMap fun e => match e with
  | .lt k => some k
  | .pr _ _ => none
def prW (es : List Ew) : List (List Int × List Int) := es.filterMap fun e => match e with
  | .lt _ => none
  | .pr p q => some (p, q)
theorem ltL_app (a b : List Ew) : ltL (a ++ b) = ltL a ++ ltL b := List.filterMap_append
theorem prW_app (a b : List Ew) : prW (a ++ b) = prW a ++ prW b := List.filterMap_append
mutual
/-- names of attributes that differ, few of them; elements at most n deep -/
def gdN : Nd → Nat → Prop
  | .tx _, _ => True
  | .el _ as ks, n => ∃ n', n = n' + 1 ∧ (as.map (·.1)).Nodup ∧ as.length ≤ 10 ∧ gdS ks n'
  | .aw _ ks, n => gdS ks n
def gdS : List Nd → Nat → Prop
  | [], _ => True
  | d :: r, n => gdN d n ∧ gdS r n
end
mutual
def bN : Nd → List Nd
  | .tx x => [.tx x]
  | .el t as ks => [.el t as (bS ks)]
  | .aw _ ks => bS ks
def bS : List Nd → List Nd
  | [] => []
  | d :: r => bN d ++ bS r
end
def b1 : Nd → Nd
  | .el t as ks => .el t as (bS ks)
  | d => d
def pln : Nd → Prop
  | .aw _ _ => False
  | _ => True
mutual
theorem bN_ndl : ∀ d : Nd, bN d = (ndlN d).map b1
  | .tx x => rfl
  | .el t as ks => rfl
  | .aw _ ks => by
    simp only [bN, ndlN]
    exact bS_ndl ks
theorem bS_ndl : ∀ ks : List Nd, bS ks = (ndlS ks).map b1
  | [] => rfl
  | d :: r => by
    simp only [bS, ndlS]
    rw [bN_ndl d, bS_ndl r, List.map_append]
end
mutual
theorem ndl_okN {n : Nat} : ∀ d : Nd, gdN d n → ∀ x ∈ ndlN d, pln x ∧ gdN x n
  | .tx x, h, y, hy => by
    simp only [ndlN, List.mem_singleton] at hy
    subst hy
    exact ⟨trivial, h⟩
  | .el t as ks, h, y, hy => by
    simp only [ndlN, List.mem_singleton] at hy
    subst hy
    exact ⟨trivial, h⟩
  | .aw _ ks, h, y, hy => by
    simp only [gdN] at h
    simp only [ndlN] at hy
    exact ndl_okS ks h y hy
theorem ndl_okS {n : Nat} : ∀ ks : List Nd, gdS ks n → ∀ x ∈ ndlS ks, pln x ∧ gdN x n
  | [], _, y, hy => by simp [ndlS] at hy
  | d :: r, h, y, hy => by
    simp only [gdS] at h
    simp only [ndlS, List.mem_append] at hy
    rcases hy with hy | hy
    · exact ndl_okN d h.1 y hy
    · exact ndl_okS r h.2 y hy
end
theorem tk_pln : ∀ {l : List Nd}, (∀ x ∈ l, pln x) → tkS l = l.map Tok.nd
  | [], _ => rfl
  | d :: r, h => by
    have h1 := h d List.mem_cons_self
    have h2 := tk_pln fun x hx => h x (List.mem_cons_of_mem _ hx)
    cases d with
    | tx x => simp only [tkS, tkN, List.map_cons, h2]; rfl
    | el t as ks => simp only [tkS, tkN, List.map_cons, h2]; rfl
    | aw n ks => exact h1.elim
theorem b1_pln {d : Nd} (h : pln d) : pln (b1 d) := by
  cases d with
  | tx x => exact h
  | el t as ks => exact trivial
  | aw n ks => exact h.elim
/-- one node after the other, given what holds below them -/
theorem R_list {n : Nat} {p q : List Int} (ih : ∀ (t : List Nat) (as : List (List Nat × List Nat)) (ks : List Nd) (p q : List Int), gdN (.el t as ks) n → ∃ n' es, n = n' + 1 ∧ R n' p q 0 0 (tkS ks) (tkS (bS ks)) (some es) ∧ ltL es = []) :
    ∀ (l : List Nd) (i j : Nat), (∀ x ∈ l, pln x ∧ gdN x n) → ∃ es, R n p q i j (l.map Tok.nd) ((l.map b1).map Tok.nd) (some es) ∧ ltL es = []
  | [], i, j, _ => ⟨[], R.nil, rfl⟩
  | d :: r, i, j, h => by
    obtain ⟨h1, h2⟩ := h d List.mem_cons_self
    obtain ⟨es, hr, e0⟩ := R_list ih r (i + 1) (j + 1) fun x hx => h x (List.mem_cons_of_mem _ hx)
    cases d with
    | aw n ks => exact h1.elim
    | tx x => exact ⟨_, R.tx hr, e0⟩
    | el t as ks =>
      obtain ⟨n', es1, rfl, hk, e1⟩ := ih t as ks (p ++ [(i : Int)]) (q ++ [(j : Int)]) h2
      simp only [gdN] at h2
      obtain ⟨n2, e2, nd, al, _⟩ := h2
      refine ⟨_, R.el nd al hk hr, ?_⟩
      show ltL (es1 ++ es) = []
      rw [ltL_app, e1, e0]
      rfl
theorem R_bare : ∀ (n : Nat) (ks : List Nd) (p q : List Int) (i j : Nat), gdS ks n → ∃ es, R n p q i j (tkS ks) (tkS (bS ks)) (some es) ∧ ltL es = [] := by
  intro n
  induction n with
  | zero =>
    intro ks p q
    have ih : ∀ (t : List Nat) (as : List (List Nat × List Nat)) (ks : List Nd) (p q : List Int), gdN (.el t as ks) 0 → ∃ n' es, 0 = n' + 1 ∧ R n' p q 0 0 (tkS ks) (tkS (bS ks)) (some es) ∧ ltL es = [] := fun t as ks p q h => by
      simp only [gdN] at h
      obtain ⟨n', e, _⟩ := h
      omega
    induction ks with
    | nil => exact fun i j _ => ⟨[], R.nil, rfl⟩
    | cons d r ihr =>
      intro i j h
      have hl := ndl_okS (d :: r) h
      have eb : tkS (bS (d :: r)) = ((ndlS (d :: r)).map b1).map Tok.nd := by
        rw [bS_ndl]
        exact tk_pln fun x hx => by
          obtain ⟨y, hy, rfl⟩ := List.mem_map.mp hx
          exact b1_pln (hl y hy).1
      simp only [gdS] at h
      cases d with
      | tx x =>
        obtain ⟨es, hr, e0⟩ := ihr (i + 1) (j + 1) h.2
        exact ⟨_, R.tx hr, e0⟩
      | el t as ks =>
        obtain ⟨n', es, e, _⟩ := ih t as ks p q h.1
        omega
      | aw m ks =>
        obtain ⟨es, hr, e0⟩ := R_list (p := p) (q := q) ih (ndlS (.aw m ks :: r)) i j hl
        refine ⟨es, R.drop ?_ ?_, e0⟩
        · rw [eb]
          have : isAw (((ndlS (.aw m ks :: r)).map b1).map Tok.nd) = false := by
            cases (ndlS (.aw m ks :: r)).map b1 <;> rfl
          rw [this]
          rfl
        · rw [eb, nds_tkS, nds_map]
          exact hr
  | succ n ihn =>
    intro ks p q
    have ih : ∀ (t : List Nat) (as : List (List Nat × List Nat)) (ks : List Nd) (p q : List Int), gdN (.el t as ks) (n + 1) → ∃ n' es, n + 1 = n' + 1 ∧ R n' p q 0 0 (tkS ks) (tkS (bS ks)) (some es) ∧ ltL es = [] := fun t as ks p q h => by
      simp only [gdN] at h
      obtain ⟨n', e, _, _, hk⟩ := h
      obtain rfl := Nat.succ.inj e
      obtain ⟨es, h1, h2⟩ := ihn ks p q 0 0 hk
      exact ⟨n, es, rfl, h1, h2⟩
    induction ks with
    | nil => exact fun i j _ => ⟨[], R.nil, rfl⟩
    | cons d r ihr =>
      intro i j h
      have hl := ndl_okS (d :: r) h
      have eb : tkS (bS (d :: r)) = ((ndlS (d :: r)).map b1).map Tok.nd := by
        rw [bS_ndl]
        exact tk_pln fun x hx => by
          obtain ⟨y, hy, rfl⟩ := List.mem_map.mp hx
          exact b1_pln (hl y hy).1
      simp only [gdS] at h
      cases d with
      | tx x =>
        obtain ⟨es, hr, e0⟩ := ihr (i + 1) (j + 1) h.2
        exact ⟨_, R.tx hr, e0⟩
      | el t as ks =>
        obtain ⟨es, hr, e0⟩ := ihr (i + 1) (j + 1) h.2
        have hg := h.1
        simp only [gdN] at hg
        obtain ⟨n', e, nd, al, _⟩ := hg
        obtain ⟨n2, es1, e2, hk, e1⟩ := ih t as ks (p ++ [(i : Int)]) (q ++ [(j : Int)]) h.1
        obtain rfl := Nat.succ.inj e2
        refine ⟨_, R.el nd al hk hr, ?_⟩
        show ltL (es1 ++ es) = []
        rw [ltL_app, e1, e0]
        rfl
      | aw m ks =>
        obtain ⟨es, hr, e0⟩ := R_list (p := p) (q := q) ih (ndlS (.aw m ks :: r)) i j hl
        refine ⟨es, R.drop ?_ ?_, e0⟩
        · rw [eb]
          have : isAw (((ndlS (.aw m ks :: r)).map b1).map Tok.nd) = false := by
            cases (ndlS (.aw m ks :: r)).map b1 <;> rfl
          rw [this]
          rfl
        · rw [eb, nds_tkS, nds_map]
          exact hr
theorem R_swap {n : Nat} {p q : List Int} {i j : Nat} {r s : List Tok} {z : Option (List Ew)} (h : R n p q i j r s z) : ∀ es, z = some es → ltL es = [] → ∃ es', R n q p j i s r (some es') ∧ ltL es' = [] := by
  induction h with
  | nil => exact fun _ _ _ => ⟨[], R.nil, rfl⟩
  | en _ ih =>
    intro es e0 e1
    obtain ⟨es', h1, h2⟩ := ih es e0 e1
    exact ⟨es', R.en h1, h2⟩
  | aw hm _ ih =>
    intro es e0 e1
    obtain ⟨es', h1, h2⟩ := ih es e0 e1
    exact ⟨es', R.aw hm.symm h1, h2⟩
  | miss => exact fun _ e _ => nomatch e
  | @late n p q i j ks ls r s z k _ ih =>
    intro es e0 e1
    cases z with
    | none => exact nomatch e0
    | some a =>
      obtain rfl := Option.some.inj e0
      exact nomatch e1
  | @tx n p q i j r s z x _ ih =>
    intro es e0 e1
    cases z with
    | none => exact nomatch e0
    | some a =>
      obtain rfl := Option.some.inj e0
      obtain ⟨es', h1, h2⟩ := ih a rfl e1
      exact ⟨_, R.tx h1, h2⟩
  | @el n p q i j r s z t as ks ls es0 nd al _ _ ihk ih =>
    intro es e0 e1
    cases z with
    | none => exact nomatch e0
    | some a =>
      obtain rfl := Option.some.inj e0
      have e1 : ltL (es0 ++ a) = [] := e1
      rw [ltL_app, List.append_eq_nil_iff] at e1
      obtain ⟨es', h1, h2⟩ := ih a rfl e1.2
      obtain ⟨es2, h3, h4⟩ := ihk es0 rfl e1.1
      refine ⟨_, R.el nd al h3 h1, ?_⟩
      show ltL (es2 ++ es') = []
      rw [ltL_app, h4, h2]
      rfl
  | elM _ _ _ _ => exact fun _ e _ => nomatch e
  | drop hd _ ih =>
    intro es e0 e1
    obtain ⟨es', h1, h2⟩ := ih es e0 e1
    exact ⟨es', R.drop (by rw [bne_comm]; exact hd) h1, h2⟩
end VL

set_option Elab.async false
set_option linter.all false
set_option pp.maxSteps 700
set_option maxRecDepth 100000
set_option maxHeartbeats 4000000
namespace VL
open PySem PySem.Spec PyProof.Rows L2
/-! ### what a comparison of two trees without awaits tells -/
abbrev Atr := List Nat × List Nat
def attD (as bs : List Atr) : Bool := !(decide (∀ p ∈ as, p ∈ bs) && decide (∀ p ∈ bs, p ∈ as))
def pathD (p : List Int) : PyData := .tuple (p.map PyData.int)
def kvT (as : List Atr) : List (Key × V) := as.map fun a => (.inr (TX a.1), .str (TX a.2))
theorem TX_inj' {a b : List Nat} (h : TX a = TX b) : a = b := by
  have := congrArg (fun s : Str => s.cps.toList) h
  simpa using this
theorem kvT_nd {as : List Atr} (h : (as.map (·.1)).Nodup) : ((kvT as).map (·.1)).Nodup := by
  unfold kvT
  rw [List.map_map]
  refine List.pairwise_map.mpr (List.Pairwise.imp (fun {a b} z e => z ?_) (List.pairwise_map.mp h))
  exact TX_inj' (Sum.inr.inj e)
theorem sub_len {α : Type} [DecidableEq α] {l m : List α} (n : l.Nodup) (h : ∀ x ∈ l, x ∈ m) : l.length ≤ m.length := by
  induction l generalizing m with
  | nil => exact Nat.zero_le _
  | cons a r ih =>
    rw [List.nodup_cons] at n
    have hm := h a List.mem_cons_self
    have := ih n.2 (m := m.erase a) fun x hx => (List.mem_erase_of_ne (fun z : x = a => n.1 (by rw [← z]; exact hx))).mpr (h x (List.mem_cons_of_mem _ hx))
    rw [List.length_erase_of_mem hm] at this
    have := List.length_pos_of_mem hm
    simp only [List.length_cons]
    omega
theorem val_kvT {bs : List Atr} (h : (bs.map (·.1)).Nodup) (p : Atr) : valV (kvT bs) (.inr (TX p.1)) = some (.str (TX p.2)) ↔ p ∈ bs := by
  constructor
  · intro hv
    by_cases c : (Sum.inr (TX p.1) : Key) ∈ (kvT bs).map (·.1)
    · obtain ⟨q, hq, e⟩ := List.mem_map.mp c
      obtain ⟨i, hi, ei⟩ := List.getElem_of_mem hq
      have h2 : valV (kvT bs) q.1 = some q.2 := valV_nd (i := i) (kvT_nd h) (by rw [List.getElem?_eq_getElem hi, ei])
      rw [e, hv] at h2
      unfold kvT at hq
      obtain ⟨b, hb, rfl⟩ := List.mem_map.mp hq
      have e1 : b.1 = p.1 := TX_inj' (Sum.inr.inj e)
      have e2 : p.2 = b.2 := TX_inj' (V.str.inj (Option.some.inj h2))
      have : b = p := Prod.ext e1 e2.symm
      rw [← this]
      exact hb
    · rw [valV_out c] at hv
      cases hv
  · intro hm
    have hq : ((.inr (TX p.1), .str (TX p.2)) : Key × V) ∈ kvT bs := List.mem_map.mpr ⟨p, hm, rfl⟩
    obtain ⟨i, hi, ei⟩ := List.getElem_of_mem hq
    exact valV_nd (i := i) (kvT_nd h) (by rw [List.getElem?_eq_getElem hi, ei])
theorem hit_iff {bs : List Atr} (h : (bs.map (·.1)).Nodup) : ∀ as : List Atr, hitB (kvT bs) (kvT as) = true ↔ ∀ p ∈ as, p ∈ bs
  | [] => by simp [kvT, hitB]
  | a :: r => by
    have ih := hit_iff h r
    have hv := val_kvT h a
    show (match valV (kvT bs) (.inr (TX a.1)) with
      | none => false
      | some y => eqV (.str (TX a.2)) y && hitB (kvT bs) (kvT r)) = true ↔ _
    rw [List.forall_mem_cons, ← hv, ← ih]
    cases e : valV (kvT bs) (.inr (TX a.1)) with
    | none => simp
    | some y =>
      have ty : TxtV y := by
        by_cases c : (Sum.inr (TX a.1) : Key) ∈ (kvT bs).map (·.1)
        · obtain ⟨q, hq, e1⟩ := List.mem_map.mp c
          obtain ⟨i, hi, ei⟩ := List.getElem_of_mem hq
          have h2 : valV (kvT bs) q.1 = some q.2 := valV_nd (i := i) (kvT_nd h) (by rw [List.getElem?_eq_getElem hi, ei])
          rw [e1, e] at h2
          unfold kvT at hq
          obtain ⟨b, _, rfl⟩ := List.mem_map.mp hq
          exact ⟨_, Option.some.inj h2⟩
        · rw [valV_out c] at e
          cases e
      obtain ⟨z, rfl⟩ := ty
      simp only [Bool.and_eq_true, Option.some.injEq, V.str.injEq]
      refine and_congr_left fun _ => ?_
      show (TX a.2 == z) = true ↔ _
      rw [beq_iff_eq]
      exact eq_comm
theorem dict_att {as bs : List Atr} (ha : (as.map (·.1)).Nodup) (hb : (bs.map (·.1)).Nodup) : (!((kvT as).length == (kvT bs).length && hitB (kvT bs) (kvT as))) = attD as bs := by
  have na : as.Nodup := List.Pairwise.imp (fun {a b} z e => z (by rw [e])) (List.pairwise_map.mp ha)
  have nb : bs.Nodup := List.Pairwise.imp (fun {a b} z e => z (by rw [e])) (List.pairwise_map.mp hb)
  unfold attD
  congr 1
  rw [Bool.eq_iff_iff, Bool.and_eq_true, Bool.and_eq_true, hit_iff hb, beq_iff_eq, decide_eq_true_iff, decide_eq_true_iff]
  have la : (kvT as).length = as.length := List.length_map _
  have lb : (kvT bs).length = bs.length := List.length_map _
  rw [la, lb]
  constructor
  · rintro ⟨hl, h⟩
    refine ⟨h, fun p hp => ?_⟩
    by_cases c : p ∈ as
    · exact c
    · have := sub_len (l := p :: as) (m := bs) (List.nodup_cons.mpr ⟨c, na⟩) (fun x hx => by
        rcases List.mem_cons.mp hx with rfl | hx
        · exact hp
        · exact h x hx)
      rw [List.length_cons] at this
      omega
  · rintro ⟨h1, h2⟩
    exact ⟨Nat.le_antisymm (sub_len na h1) (sub_len nb h2), h1⟩
theorem attD_self (as : List Atr) : attD as as = false := by
  unfold attD
  simp
theorem Sb.perm {G H : Hp} {M M' : List (Addr × HO)} (S : Sb G H M) (p : M'.Perm M) : Sb G H M' := ⟨S.s, fun q hq => S.m q (p.subset hq), (p.map (·.1)).nodup_iff.mpr S.nd⟩
theorem Sb.up2 {G H : Hp} {M : List (Addr × HO)} {a b c : Addr × HO} (S : Sb G H (a :: b :: c :: M)) : Sb G H (c :: a :: b :: M) := S.perm (List.perm_middle (l₁ := [a, b])).symm
theorem Sb.dn2 {G H : Hp} {M : List (Addr × HO)} {a b c : Addr × HO} (S : Sb G H (c :: a :: b :: M)) : Sb G H (a :: b :: c :: M) := S.perm (List.perm_middle (l₁ := [a, b]))
theorem Sb.up3 {G H : Hp} {M : List (Addr × HO)} {a b c d : Addr × HO} (S : Sb G H (a :: b :: c :: d :: M)) : Sb G H (d :: a :: b :: c :: M) := S.perm (List.perm_middle (l₁ := [a, b, c])).symm
theorem Sb.dn3 {G H : Hp} {M : List (Addr × HO)} {a b c d : Addr × HO} (S : Sb G H (d :: a :: b :: c :: M)) : Sb G H (a :: b :: c :: d :: M) := S.perm (List.perm_middle (l₁ := [a, b, c]))
end VL

set_option Elab.async false
set_option linter.all false
set_option pp.maxSteps 700
set_option maxRecDepth 100000
set_option maxHeartbeats 4000000
namespace VL
open PySem PySem.Spec PyProof.Rows L2
theorem at_0 {x : V} {ys : List V} : atI (x :: ys) 0 = some x := by
  unfold atI ixN
  rw [if_pos (by decide), if_pos (by simp only [List.length_cons]; omega)]
  rfl
theorem at_1 {x y : V} {ys : List V} : atI (x :: y :: ys) 1 = some y := by
  unfold atI ixN
  rw [if_pos (by decide), if_pos (by simp only [List.length_cons]; omega)]
  rfl
theorem at_2 {x y z : V} {ys : List V} : atI (x :: y :: z :: ys) 2 = some z := by
  unfold atI ixN
  rw [if_pos (by decide), if_pos (by simp only [List.length_cons]; omega)]
  rfl
theorem at_3 {x y z u : V} {ys : List V} : atI (x :: y :: z :: u :: ys) 3 = some u := by
  unfold atI ixN
  rw [if_pos (by decide), if_pos (by simp only [List.length_cons]; omega)]
  rfl
theorem atn {l : List V} {k : Nat} {x : V} {i : Int} (h : l[k]? = some x) (e : i = (k : Int)) : atI l i = some x := by
  subst e
  have := (List.getElem?_eq_some_iff.mp h).1
  unfold atI ixN
  rw [if_pos (by omega), if_pos (by omega)]
  show l[((k : Nat) : Int).toNat]? = _
  rw [Int.toNat_natCast, h]
theorem iteT' {b : Bool} {A B : Prop} (h : b = true) (a : A) : if b = true then A else B := by rw [if_pos h]; exact a
theorem iteF' {b : Bool} {A B : Prop} (h : b = false) (a : B) : if b = true then A else B := by rw [if_neg (by rw [h]; decide)]; exact a
/-- a node's word -/
def kwd : Nd → Str
  | .tx _ => "text"
  | .el _ _ _ => "element"
  | .aw _ _ => "await"
theorem n_at {H : Hp} {v : V} {d : Nd} (h : Dq H v (encN d)) : ∃ o ys, v = .ref o ∧ H o = some (.tup (.str (kwd d) :: ys)) := by
  cases d with
  | tx x => obtain ⟨q, e, h1⟩ := n_tx h; exact ⟨q, _, e, h1⟩
  | el t as ks => obtain ⟨q, pa, pk, e, h1, _⟩ := n_el h; exact ⟨q, _, e, h1⟩
  | aw n ks => obtain ⟨q, pk, e, h1, _⟩ := n_aw h; exact ⟨q, _, e, h1⟩
theorem kwd_no {d : Nd} (h : pln d) : kwd d ∉ (["await", "end", "node"] : List Str) := by
  cases d with
  | tx x => simp only [kwd]; decide
  | el t as ks => simp only [kwd]; decide
  | aw n ks => exact h.elim
abbrev TokA (H : Hp) (a : Addr) (ts : List Tok) : Prop := Dq H (.ref a) (.list (ts.map encT))
theorem tok_at {H : Hp} {a : Addr} {ts : List Tok} (h : TokA H a ts) : ∃ xs, H a = some (.lst xs) ∧ xs.length = ts.length ∧ DqAll H xs (ts.map encT) := by
  cases h with
  | lst h1 h2 => exact ⟨_, h1, by rw [h2.len, List.length_map], h2⟩
theorem part_at {H : Hp} {xs : List V} {ts : List Tok} (h : DqAll H xs (ts.map encT)) {i : Nat} {x : V} (hx : xs[i]? = some x) : ∃ t, ts[i]? = some t ∧ Dq H x (encT t) := by
  induction xs generalizing ts i with
  | nil => simp at hx
  | cons y r ih =>
    cases ts with
    | nil => cases h
    | cons t ts =>
      cases h with
      | cons h1 h2 =>
        cases i with
        | zero =>
          obtain rfl := Option.some.inj hx
          exact ⟨t, rfl, h1⟩
        | succ i => exact ih h2 hx
def okT : Tok → Prop
  | .nd d => pln d
  | _ => True
/-- what a part begins with -/
def rawT : Tok → Str
  | .nd d => kwd d
  | .aw _ => "await"
  | .en => "end"
def kwdT : Tok → Str
  | .nd _ => "node"
  | .aw _ => "await"
  | .en => "end"
def wordT (ts : List Tok) (i : Nat) : Str := match ts[i]? with
  | none => ""
  | some t => kwdT t
theorem t_aw {H : Hp} {v : V} {n : Option Int} (h : Dq H v (encT (.aw n))) : ∃ o, v = .ref o ∧ H o = some (.tup [.str "await", nVV n]) := by
  cases h with
  | tup h1 h2 =>
    cases h2 with
    | cons a b => cases b with
      | cons c d =>
        cases d
        cases a
        refine ⟨_, rfl, ?_⟩
        cases n with
        | none => cases c; exact h1
        | some i => cases c; exact h1
theorem t_en {H : Hp} {v : V} (h : Dq H v (encT .en)) : ∃ o, v = .ref o ∧ H o = some (.tup [.str "end"]) := by
  cases h with
  | tup h1 h2 =>
    cases h2 with
    | cons a b =>
      cases b
      cases a
      exact ⟨_, rfl, h1⟩
theorem t_at {H : Hp} {v : V} {t : Tok} (h : Dq H v (encT t)) : ∃ o ys, v = .ref o ∧ H o = some (.tup (.str (rawT t) :: ys)) := by
  cases t with
  | nd d => exact n_at h
  | aw n => obtain ⟨o, e, h1⟩ := t_aw h; exact ⟨o, _, e, h1⟩
  | en => obtain ⟨o, e, h1⟩ := t_en h; exact ⟨o, _, e, h1⟩
theorem ndS_app (a b : List Nd) : ndS (a ++ b) = ndS a + ndS b := by
  induction a with
  | nil => simp [ndS]
  | cons d a ih => simp [ndS, ih]; omega
theorem ndN_pos : ∀ d : Nd, 1 ≤ ndN d
  | .tx x => by simp [ndN]
  | .el t as ks => by simp only [ndN]; omega
  | .aw n ks => by simp only [ndN]; omega
theorem len_ndS : ∀ ks : List Nd, ks.length ≤ ndS ks
  | [] => by simp
  | d :: r => by
    have := ndN_pos d
    have := len_ndS r
    simp only [ndS, List.length_cons]
    omega
theorem nd_mem {d : Nd} : ∀ {ks : List Nd}, d ∈ ks → ndN d ≤ ndS ks
  | e :: ks, h => by
    simp only [ndS]
    rcases List.mem_cons.mp h with rfl | h
    · omega
    · have := nd_mem h
      omega
def sdO (C : Addr) (dx rl : Addr) (i : Nat) (pa : Addr) (k : Nat) : HO := .ins C dx [("row", .ref rl), ("at", .int (i : Int)), ("path", .ref pa), ("index", .int (k : Int))]
def PathA (H : Hp) (pa : Addr) (p : List Int) : Prop := H pa = some (.tup (p.map V.int))
def stp : Tok → Nat
  | .nd _ => 1
  | _ => 0
mutual
theorem tk_len : ∀ d : Nd, (tkN d).length ≤ 2 * ndN d
  | .tx x => by simp [tkN, ndN]
  | .el t as ks => by simp only [tkN, ndN, List.length_singleton]; omega
  | .aw n ks => by
    have := tkS_len ks
    simp only [tkN, ndN, List.length_cons, List.length_append, List.length_nil]
    omega
theorem tkS_len : ∀ ks : List Nd, (tkS ks).length ≤ 2 * ndS ks
  | [] => by simp [tkS, ndS]
  | d :: r => by
    have := tk_len d
    have := tkS_len r
    simp only [tkS, ndS, List.length_append]
    omega
end
mutual
theorem tk_ok : ∀ d : Nd, ∀ t ∈ tkN d, okT t
  | .tx x, t, h => by
    simp only [tkN, List.mem_singleton] at h
    subst h
    exact trivial
  | .el t as ks, u, h => by
    simp only [tkN, List.mem_singleton] at h
    subst h
    exact trivial
  | .aw n ks, t, h => by
    simp only [tkN, List.mem_cons, List.mem_append, List.not_mem_nil, or_false] at h
    rcases h with rfl | h | rfl
    · exact trivial
    · exact tkS_ok ks t h
    · exact trivial
theorem tkS_ok : ∀ ks : List Nd, ∀ t ∈ tkS ks, okT t
  | [], t, h => by simp [tkS] at h
  | d :: r, t, h => by
    simp only [tkS, List.mem_append] at h
    rcases h with h | h
    · exact tk_ok d t h
    · exact tkS_ok r t h
end
def spRowOf (n : Nat) : Sp := fun vs H Q _ => ∃ (a : Addr) (ks : List Nd) (G : Hp) (M : List (Addr × HO)), vs = [.ref a] ∧ Sb G H M ∧ TreeA G a ks ∧ adS ks ≤ n ∧ ndS ks ≤ 20000 ∧ ∀ r G' H', Sb G' H' M → Same G G' → TokA G' r (tkS ks) → Q (.ref r) H'
def spSInit (C : Addr) : Sp := fun vs H Q _ => ∃ (a dx nl pa : Addr) (ks : List Nd) (G : Hp) (M : List (Addr × HO)), vs = [.ref a, .ref nl, .ref pa] ∧ Sb G H ((a, .ins C dx []) :: M) ∧ TreeA G nl ks ∧ adS ks ≤ 12 ∧ ndS ks ≤ 20000 ∧ ∀ rl G' H', Sb G' H' ((a, sdO C dx rl 0 pa 0) :: M) → Same G G' → TokA G' rl (tkS ks) → Q .non H'
def spWordS (C : Addr) : Sp := fun vs H Q _ => ∃ (a dx rl pa : Addr) (i k : Nat) (ts : List Tok), vs = [.ref a] ∧ H a = some (sdO C dx rl i pa k) ∧ TokA H rl ts ∧ (∀ t ∈ ts, okT t) ∧ i ≤ ts.length ∧ Q (.str (wordT ts i)) H
def spPart (C : Addr) : Sp := fun vs H Q _ => ∃ (a dx rl pa : Addr) (i k : Nat) (ts : List Tok) (t : Tok) (G : Hp), vs = [.ref a] ∧ H a = some (sdO C dx rl i pa k) ∧ Same G H ∧ TokA G rl ts ∧ ts[i]? = some t ∧ ∀ v, Dq G v (encT t) → Q v H
def spPlace (C : Addr) : Sp := fun vs H Q _ => ∃ (a dx rl pa : Addr) (i k : Nat) (p : List Int), vs = [.ref a] ∧ H a = some (sdO C dx rl i pa k) ∧ PathA H pa p ∧ p.length ≤ 100 ∧ ∀ t, H t = none → Q (.ref t) (upd H t (.tup ((p ++ [(k : Int)]).map V.int)))
def spStep (C : Addr) : Sp := fun vs H Q _ => ∃ (a dx rl pa : Addr) (i k : Nat) (ts : List Tok) (t : Tok) (G : Hp) (M : List (Addr × HO)), vs = [.ref a] ∧ Sb G H ((a, sdO C dx rl i pa k) :: M) ∧ TokA G rl ts ∧ (∀ t ∈ ts, okT t) ∧ ts[i]? = some t ∧ ∀ H', Sb G H' ((a, sdO C dx rl (i + 1) pa (k + stp t)) :: M) → Q .non H'
def spOver (C : Addr) : Sp := fun vs H Q _ => ∃ (a dx rl pa : Addr) (i k : Nat) (ts : List Tok) (m : Option Int) (ks : List Nd) (r : List Tok) (G : Hp) (M : List (Addr × HO)), vs = [.ref a] ∧ Sb G H ((a, sdO C dx rl i pa k) :: M) ∧ TokA G rl ts ∧ (∀ t ∈ ts, okT t) ∧ ts.drop i = .aw m :: (tkS ks ++ .en :: r) ∧ ∀ i' H', ts.drop i' = r → i' ≤ ts.length → Sb G H' ((a, sdO C dx rl i' pa (k + cS ks)) :: M) → Q .non H'
def spDropM (C : Addr) : Sp := fun vs H Q _ => ∃ (a dx rl pa : Addr) (i k : Nat) (ts : List Tok) (G : Hp) (M : List (Addr × HO)), vs = [.ref a] ∧ Sb G H ((a, sdO C dx rl i pa k) :: M) ∧ TokA G rl ts ∧ (∀ t ∈ ts, okT t) ∧ i ≤ ts.length ∧ ts.length ≤ 100000 ∧ ∀ rl' G' H', Sb G' H' ((a, sdO C dx rl' 0 pa k) :: M) → Same G G' → TokA G' rl' (nds (ts.drop i)) → Q .non H'
def spCInit (C : Addr) : Sp := fun vs H Q _ => ∃ (a dx : Addr) (G : Hp) (M : List (Addr × HO)), vs = [.ref a] ∧ Sb G H ((a, .ins C dx []) :: M) ∧ ∀ d l p H', Sb G H' ((a, .ins C dx [("differences", .ref d), ("late", .ref l), ("partners", .ref p)]) :: (p, .lst []) :: (l, .lst []) :: (d, .lst []) :: M) → Q .non H'
def remT (st : List (List Nd)) (r : List Tok) : List Tok := match st with
  | [] => r
  | ks :: st => tkS ks ++ .en :: remT st r
def cntT : List (List Nd) → Nat
  | [] => 0
  | ks :: st => cS ks + cntT st
theorem drop_tok {ts : List Tok} {i : Nat} {t : Tok} {r : List Tok} (h : ts.drop i = t :: r) : ts[i]? = some t ∧ ts.drop (i + 1) = r := by
  have hi : i < ts.length := by
    by_cases c : i < ts.length
    · exact c
    · rw [List.drop_eq_nil_of_le (by omega)] at h
      exact nomatch h
  rw [List.drop_eq_getElem_cons hi] at h
  injection h with h1 h2
  exact ⟨by rw [List.getElem?_eq_getElem hi, h1], h2⟩
theorem cut_from {xs : List V} {k : Nat} : cutV xs (some (k : Int)) none = xs.drop k := by
  unfold cutV
  rw [HT.sIx_none, HT.sIx_nat]
  by_cases h : k ≤ xs.length
  · rw [Nat.min_eq_left h, List.take_of_length_le (by simp)]
  · rw [Nat.min_eq_right (by omega), List.drop_eq_nil_of_le (Nat.le_refl _), List.drop_eq_nil_of_le (by omega), List.take_nil]
theorem DqAll.dropT {H : Hp} {xs : List V} {ts : List Tok} {i : Nat} (h : DqAll H xs (ts.map encT)) : DqAll H (xs.drop i) ((ts.drop i).map encT) := by
  induction i generalizing xs ts with
  | zero => exact h
  | succ i ih =>
    cases ts with
    | nil => cases h; exact .nil
    | cons t ts =>
      cases h with
      | cons a b => exact ih b
section
variable {P : Program} {w : World} {K : PySem.W.Frag} {mg : Str → Option Value} {base : Heap} {C : Ad}
theorem sc_row_of : FnScope ["nodes", "row", "node"] ["nodes"] (defScope s_row_of) := ⟨rfl, rfl, rfl, by decide +kernel, rfl, by decide +kernel, by decide +kernel⟩
theorem rowOf_0 (T : Txt K w mg C) {k : Nat} : Cal P w K mg base (k + 1) "row_of" spFalse := cal_of T.d_row_of sc_row_of (fun vs H Q E h => h.elim) (fun f cdv A outer s H vs Q E hr h => h.elim)
theorem rowOf_S (T : Txt K w mg C) {n k : Nat} {sp : Sp} (hsp : ∀ m, m + 1 = n → sp = spRowOf m) (Grow_of : Cal P w K mg base k "row_of" sp) : Cal P w K mg base (k + 1) "row_of" (spRowOf n) := by
  refine cal_of T.d_row_of sc_row_of (fun vs H Q E h => ?_) (fun f cdv A outer s H vs Q E hr h => ?_)
  · obtain ⟨a, ks, G, M, rfl, _⟩ := h
    rfl
  · obtain ⟨a, ks, G0, M, rfl, S00, ta, hn, hw, q⟩ := h
    obtain ⟨xs, ha, hl, hd⟩ := tree_at ta
    have big : 10000000 < sizeLine := by decide
    refine ⟨_, (pss_cons (ps_set (i := 1) sc_row_of.nd rfl (Or.inl rfl) (pe_lst pa_nil)) (pss_cons (ps_for PassesOwn.never rfl (pi_list (pv 0)) (pg_name (i := 2) sc_row_of.nd rfl (Or.inl rfl)) (pss_one (ps_if (pt_cmpR op_eq (pe_ix ix_tup (pv 2) pe_int (fun _ _ => rfl)) pe_str (nomark _)) (pss_one (ps_aug (i := 1) sc_row_of.nd rfl (Or.inl rfl) (pe_lst (pa_cons (pe_tup (pa_cons pe_str (pa_cons (pe_ix ix_tup (pv 2) pe_int (fun _ _ => rfl)) pa_nil))) (StX.pa_star (pe_c Grow_of hr (by omega) (by rfl) (pa_cons (pe_ix ix_tup (pv 2) pe_int (fun _ _ => rfl)) pa_nil)) (pa_cons (pe_tup (pa_cons pe_str pa_nil)) pa_nil)))) iop_ext)) (pss_one (ps_expr (pe_bm PySem.F.plainAttrs_list PySem.F.slot_list_append PySem.F.type_list_append mt_append (pv 1) (pa_cons (pv 2) pa_nil))))))) (pss_one (ps_ret (pv 1))))), ?_⟩
    refine ⟨by show 0 ≤ sizeLine; decide, fun r hr0 => ?_⟩
    have S1 := S00.add (o := .lst []) hr0
    refine ⟨_, rfl, a, rfl, ⟨_, SqL.of (S1.s _ _ ha)⟩, ?_⟩
    refine for_it (walk_list (K := K) (a := a) (xs := xs)) (fun i σ H' => ∃ (G : Hp) (fs : List V) (y : Option V), Sb G H' ((r, .lst fs) :: M) ∧ Same G0 G ∧ DqAll G fs ((tkS (ks.take i)).map encT) ∧ σ = [some (.ref a), some (.ref r), y]) ⟨G0, [], none, S1, Same.refl _, (by simp only [List.take_zero, tkS, List.map_nil]; exact .nil), rfl⟩ (fun i σ H' _ ⟨G, _, _, S, g, _⟩ => SqL.of (S.s _ _ (g _ _ ha))) ?_ ?_
    · rintro i x σ H1 H2 hi ⟨G, fs, y, S, g, df, rfl⟩ ⟨rfl, hx⟩
      obtain ⟨d, hdi, dd⟩ := node_at hd hx
      have dm := ad_mem (List.mem_of_getElem? hdi)
      have wm := nd_mem (List.mem_of_getElem? hdi)
      have il : i < ks.length := (List.getElem?_eq_some_iff.mp hdi).1
      have tk : ks.take (i + 1) = ks.take i ++ [d] := by rw [List.take_add_one, hdi]; rfl
      have fk : tkS (ks.take (i + 1)) = tkS (ks.take i) ++ tkN d := by rw [tk, tkS_app]; simp [tkS]
      have fl1 := df.len
      rw [List.length_map] at fl1
      have flw : (tkS (ks.take (i + 1))).length ≤ 40000 := by
        have h1 := tkS_len (ks.take (i + 1))
        have h2 : ndS ks = ndS (ks.take (i + 1)) + ndS (ks.drop (i + 1)) := by rw [← ndS_app, List.take_append_drop]
        omega
      rw [fk, List.length_append] at flw
      have ddg := dd.same g
      have sg := S.s
      cases d with
      | tx x =>
        obtain ⟨qq, rfl, hq⟩ := n_tx ddg
        have hq1 := sg _ _ hq
        refine ⟨_, rfl, qq, _, _, _, rfl, rfl, SqT.of hq1, at_0, rfl, _, rfl, ite2 (fun c => absurd c (sne (by decide +kernel))) (fun _ => ?_)⟩
        refine ⟨_, rfl, .inl ⟨rfl, _, SqL.of S.hd⟩, _, rfl, r, _, _, rfl, rfl, S.hd, by omega, G, _, _, S.put, g, ?_, rfl⟩
        rw [fk, List.map_append]
        exact dqAll_ap df (.cons ddg .nil)
      | el t as kk =>
        obtain ⟨qq, qa, qk, rfl, hq, hqa, hqk⟩ := n_el ddg
        have hq1 := sg _ _ hq
        refine ⟨_, rfl, qq, _, _, _, rfl, rfl, SqT.of hq1, at_0, rfl, _, rfl, ite2 (fun c => absurd c (sne (by decide +kernel))) (fun _ => ?_)⟩
        refine ⟨_, rfl, .inl ⟨rfl, _, SqL.of S.hd⟩, _, rfl, r, _, _, rfl, rfl, S.hd, by omega, G, _, _, S.put, g, ?_, rfl⟩
        rw [fk, List.map_append]
        exact dqAll_ap df (.cons ddg .nil)
      | aw nn kk =>
        obtain ⟨qq, qk, rfl, hq, hqk⟩ := n_aw ddg
        have hq1 := sg _ _ hq
        simp only [ndN] at wm
        simp only [adN] at dm
        obtain ⟨m, rfl⟩ : ∃ m, n = m + 1 := ⟨n - 1, by omega⟩
        obtain rfl := hsp m rfl
        refine ⟨_, rfl, qq, _, _, _, rfl, rfl, SqT.of hq1, at_0, rfl, _, rfl, ite2 (fun _ => ?_) (fun c => absurd (by simp) c)⟩
        refine ⟨_, rfl, _, rfl, qq, _, _, _, rfl, rfl, SqT.of hq1, at_1, by show 2 ≤ sizeLine; decide, fun t1 ht1 => ?_⟩
        have S1 := S.alloc (o := .tup [.str "await", nVV nn]) ht1
        have g1 := S.grow (o := .tup [.str "await", nVV nn]) ht1
        refine ⟨_, rfl, qq, _, _, _, rfl, rfl, SqT.of (S1.s _ _ (g1 _ _ hq)), at_2, qk, kk, _, _, rfl, S1, hqk.same g1, by omega, by omega, fun r2 G3 H3 S3 g3 tk3 => ?_⟩
        obtain ⟨ys, hys, yl, dys⟩ := tok_at tk3
        refine ⟨r2, ys, rfl, .inr (SqL.of (S3.s _ _ hys)), by show 1 ≤ sizeLine; decide, fun t2 ht2 => ?_⟩
        have S4 := S3.alloc (o := .tup [.str "end"]) ht2
        have g4 := S3.grow (o := .tup [.str "end"]) ht2
        have yl2 : ([V.ref t1] ++ (ys ++ [V.ref t2])).length ≤ 40000 := by
          simp only [tkN, List.length_cons, List.length_append, List.length_nil] at flw ⊢
          omega
        refine ⟨Nat.le_trans yl2 (by decide), fun l3 hl3 => ?_⟩
        have S5 := S4.alloc (o := .lst ([.ref t1] ++ (ys ++ [.ref t2]))) hl3
        have g5 := S4.grow (o := .lst ([.ref t1] ++ (ys ++ [.ref t2]))) hl3
        refine ⟨r, l3, fs, _, rfl, rfl, S5.hd, S5.s _ _ upd_same, ?_, _, _, _, S5.put, Same.trans g (Same.trans g1 (Same.trans g3 (Same.trans g4 g5))), ?_, rfl⟩
        · omega
        rw [fk, List.map_append]
        refine dqAll_ap (df.same (Same.trans g1 (Same.trans g3 (Same.trans g4 g5)))) ?_
        simp only [tkN, List.map_cons, List.map_append, List.map_nil]
        show DqAll _ (V.ref t1 :: (ys ++ [V.ref t2])) _
        refine .cons (.tup (g5 _ _ (g4 _ _ (g3 _ _ upd_same))) (.cons (.str _) (.cons ?_ .nil))) (dqAll_ap (dys.same (Same.trans g4 g5)) (.cons (.tup (g5 _ _ upd_same) (.cons (.str _) .nil)) .nil))
        cases nn with
        | none => exact .non
        | some j => exact .int j
    · rintro σ H1 ⟨G, fs, y, S, g, df, rfl⟩
      rw [hl, List.take_length] at df
      obtain ⟨S2, g2⟩ := S.drop
      exact ⟨_, rfl, q r _ H1 S2 (Same.trans g g2) (.lst upd_same (df.same g2))⟩
theorem rowOf_N (T : Txt K w mg C) : ∀ n : Nat, Cal P w K mg base (n + 2) "row_of" (spRowOf n)
  | 0 => rowOf_S T (n := 0) (sp := spFalse) (fun m h => by omega) (rowOf_0 T)
  | n + 1 => rowOf_S T (n := n + 1) (sp := spRowOf n) (fun m h => by rw [Nat.succ.inj h]) (rowOf_N T n)
theorem sc_Comparison___init__ : FnScope ["self"] ["self"] (defScope s_Comparison___init__) := ⟨rfl, rfl, rfl, by decide +kernel, rfl, by decide +kernel, by decide +kernel⟩
theorem ok_cinit (T : Txt K w mg C) : Mak P w K mg base 1 "Comparison" C.Comparison (spCInit C.Comparison) := by
  refine mak_of T.i_Comparison sc_Comparison___init__ (fun vs H Q E h => ?_) (fun f cdv A outer s H vs Q E hr h => ?_)
  · obtain ⟨x, dx, G, M, rfl, _⟩ := h
    rfl
  · obtain ⟨a, dx, G, M, rfl, S, q⟩ := h
    refine ⟨_, (pss_cons (ps_fld (pv 0) (pe_lst pa_nil) rfl) (pss_cons (ps_fld (pv 0) (pe_lst pa_nil) rfl) (pss_one (ps_fld (pv 0) (pe_lst pa_nil) rfl)))), ?_⟩
    refine ⟨by show 0 ≤ sizeLine; decide, fun d hd => ?_⟩
    have S1 := (S.add (o := .lst []) hd).swap
    refine ⟨_, rfl, a, _, dx, _, rfl, S1.hd, T.cl_Comparison, T.n_Comparison_differences, by show 0 < 1000; decide, ?_⟩
    have S2 := S1.put (u := .ins C.Comparison dx [("differences", .ref d)])
    refine ⟨by show 0 ≤ sizeLine; decide, fun l hl => ?_⟩
    have S3 := (S2.add (o := .lst []) hl).swap
    refine ⟨_, rfl, a, _, dx, _, rfl, S3.hd, T.cl_Comparison, T.n_Comparison_late, by show 1 < 1000; decide, ?_⟩
    have S4 := S3.put (u := .ins C.Comparison dx [("differences", .ref d), ("late", .ref l)])
    refine ⟨by show 0 ≤ sizeLine; decide, fun p hp => ?_⟩
    have S5 := (S4.add (o := .lst []) hp).swap
    refine ⟨_, rfl, a, _, dx, _, rfl, S5.hd, T.cl_Comparison, T.n_Comparison_partners, by show 2 < 1000; decide, ?_⟩
    have S6 := S5.put (u := .ins C.Comparison dx [("differences", .ref d), ("late", .ref l), ("partners", .ref p)])
    exact q d l p _ S6
theorem sc_Side___init__ : FnScope ["self", "nodes", "path"] ["self", "nodes", "path"] (defScope s_Side___init__) := ⟨rfl, rfl, rfl, by decide +kernel, rfl, by decide +kernel, by decide +kernel⟩
theorem ok_sinit (T : Txt K w mg C) : Mak P w K mg base 15 "Side" C.Side (spSInit C.Side) := by
  have Grow_of := rowOf_N (P := P) (base := base) T 12
  refine mak_of T.i_Side sc_Side___init__ (fun vs H Q E h => ?_) (fun f cdv A outer s H vs Q E hr h => ?_)
  · obtain ⟨a, dx, nl, pa, ks, G, M, rfl, _⟩ := h
    rfl
  · obtain ⟨a, dx, nl, pa, ks, G, M, rfl, S, ta, na, kl, q⟩ := h
    refine ⟨_, (pss_cons (ps_fld (pv 0) (pe_c Grow_of hr (by decide) (by rfl) (pa_cons (pv 1) pa_nil)) rfl) (pss_cons (ps_fld (pv 0) pe_int rfl) (pss_cons (ps_fld (pv 0) (pv 2) rfl) (pss_one (ps_fld (pv 0) pe_int rfl))))), ?_⟩
    refine ⟨_, rfl, nl, ks, G, _, rfl, S, ta, na, kl, fun rl G1 H1 S1 g1 tr => ?_⟩
    refine ⟨_, rfl, a, _, dx, _, rfl, S1.hd, T.cl_Side, T.n_Side_row, by show 0 < 1000; decide, ?_⟩
    have S2 := S1.put (u := .ins C.Side dx [("row", .ref rl)])
    refine ⟨_, rfl, a, _, dx, _, rfl, S2.hd, T.cl_Side, T.n_Side_at, by show 1 < 1000; decide, ?_⟩
    have S3 := S2.put (u := .ins C.Side dx [("row", .ref rl), ("at", .int 0)])
    refine ⟨_, rfl, _, rfl, a, _, dx, _, rfl, S3.hd, T.cl_Side, T.n_Side_path, by show 2 < 1000; decide, ?_⟩
    have S4 := S3.put (u := .ins C.Side dx [("row", .ref rl), ("at", .int 0), ("path", .ref pa)])
    refine ⟨_, rfl, a, _, dx, _, rfl, S4.hd, T.cl_Side, T.n_Side_index, by show 3 < 1000; decide, ?_⟩
    have S5 := S4.put (u := sdO C.Side dx rl 0 pa 0)
    exact q rl G1 _ S5 g1 tr
theorem sc_Side_word : FnScope ["self", "word"] ["self"] (defScope s_Side_word) := ⟨rfl, rfl, rfl, by decide +kernel, rfl, by decide +kernel, by decide +kernel⟩
theorem ok_word_ (T : Txt K w mg C) : Met P w K mg base 1 C.Side "word" (spWordS C.Side) := by
  obtain ⟨tA, tes, tn, gT, kT, ⟨u1, hu1, ru1⟩, ⟨u2, hu2, ru2⟩, _⟩ := T.k_TURNS
  refine met_of T.m_Side_word T.cl_Side sc_Side_word (fun vs H Q E h => ?_) (fun f cdv A outer s H vs Q E hr h => ?_)
  · obtain ⟨a, dx, rl, pa, i, k, ts, rfl, _⟩ := h
    rfl
  · obtain ⟨a, dx, rl, pa, i, k, ts, rfl, ha, tr, na, il, q⟩ := h
    obtain ⟨xs, hxs, xl, dq⟩ := tok_at tr
    have f1 : List.lookup (Str.ofString "at") [(Str.ofString "row", V.ref rl), (Str.ofString "at", V.int (i : Int)), (Str.ofString "path", V.ref pa), (Str.ofString "index", V.int (k : Int))] = some (V.int (i : Int)) := rfl
    have f2 : List.lookup (Str.ofString "row") [(Str.ofString "row", V.ref rl), (Str.ofString "at", V.int (i : Int)), (Str.ofString "path", V.ref pa), (Str.ofString "index", V.int (k : Int))] = some (V.ref rl) := rfl
    refine ⟨_, (pss_cons (ps_if (pt_cmpR op_eq (pe_fld (pv 0) rfl) (pe_callB call_len_seq (by rfl) T.z_len PySem.boot_len (pa_cons (pe_fld (pv 0) rfl) pa_nil)) (nomark _)) (pss_one (ps_ret pe_str)) pss_nil) (pss_cons (ps_set (i := 1) sc_Side_word.nd rfl (Or.inl rfl) (pe_ix ix_tup (pe_ix ix_list (pe_fld (pv 0) rfl) (pe_fld (pv 0) rfl) (fun _ _ => rfl)) pe_int (fun _ _ => rfl))) (pss_one (ps_ret (pe_ifExp (pt_cmpR (op_in_kd kT.kd) (pv 1) (C8.pe_gc (by rfl) gT) rfl) (pv 1) pe_str))))), ?_⟩
    refine ⟨_, rfl, a, _, dx, _, _, rfl, ha, T.cl_Side, T.n_Side_at, f1, _, rfl, a, _, dx, _, _, rfl, ha, T.cl_Side, T.n_Side_row, f2, rl, _, rfl, .inl (SqL.of hxs), rfl, _, rfl, ite2 (fun c => ?_) (fun c => ?_)⟩
    · have e : i = ts.length := by
        have := of_decide_eq_true c
        injection this with this
        omega
      have en : ts[i]? = none := List.getElem?_eq_none (by omega)
      unfold wordT at q
      rw [en] at q
      exact q
    · have hlt : i < ts.length := by
        refine Nat.lt_of_le_of_ne il fun e => c ?_
        rw [e, xl]
        exact decide_eq_true rfl
      have hx : xs[i]? = some (xs[i]'(by omega)) := List.getElem?_eq_getElem (by omega)
      generalize xs[i]'(by omega) = x at hx
      obtain ⟨t, ht, hxd⟩ := part_at dq hx
      obtain ⟨o, ys, rfl, ho⟩ := t_at hxd
      have nt := na t (List.mem_of_getElem? ht)
      unfold wordT at q
      rw [ht] at q
      refine ⟨_, rfl, a, _, dx, _, _, rfl, ha, T.cl_Side, T.n_Side_row, f2, _, rfl, a, _, dx, _, _, rfl, ha, T.cl_Side, T.n_Side_at, f1, rl, _, _, _, rfl, rfl, SqL.of hxs, atn hx rfl, o, _, _, _, rfl, rfl, SqT.of ho, at_0, ?_⟩
      cases t with
      | nd d => exact ⟨_, rfl, _, none, rfl, rfl, kT.none (kwd_no nt), false, rfl, iteF q⟩
      | aw n => exact ⟨_, rfl, _, some u1, rfl, rfl, hu1, true, rfl, iteT ⟨_, rfl, q⟩⟩
      | en => exact ⟨_, rfl, _, some u2, rfl, rfl, hu2, true, rfl, iteT ⟨_, rfl, q⟩⟩
theorem sc_Side_part : FnScope ["self"] ["self"] (defScope s_Side_part) := ⟨rfl, rfl, rfl, by decide +kernel, rfl, by decide +kernel, by decide +kernel⟩
theorem ok_part (T : Txt K w mg C) : Met P w K mg base 1 C.Side "part" (spPart C.Side) := by
  refine met_of T.m_Side_part T.cl_Side sc_Side_part (fun vs H Q E h => ?_) (fun f cdv A outer s H vs Q E hr h => ?_)
  · obtain ⟨a, dx, rl, pa, i, k, ts, t, G, rfl, _⟩ := h
    rfl
  · obtain ⟨a, dx, rl, pa, i, k, ts, t, G, rfl, ha, sG, tr, ht, q⟩ := h
    obtain ⟨xs, hxs, xl, dq⟩ := tok_at tr
    have il := (List.getElem?_eq_some_iff.mp ht).1
    have f1 : List.lookup (Str.ofString "at") [(Str.ofString "row", V.ref rl), (Str.ofString "at", V.int (i : Int)), (Str.ofString "path", V.ref pa), (Str.ofString "index", V.int (k : Int))] = some (V.int (i : Int)) := rfl
    have f2 : List.lookup (Str.ofString "row") [(Str.ofString "row", V.ref rl), (Str.ofString "at", V.int (i : Int)), (Str.ofString "path", V.ref pa), (Str.ofString "index", V.int (k : Int))] = some (V.ref rl) := rfl
    have hx : xs[i]? = some (xs[i]'(by omega)) := List.getElem?_eq_getElem (by omega)
    generalize xs[i]'(by omega) = x at hx
    obtain ⟨t', ht', hxd⟩ := part_at dq hx
    rw [ht] at ht'
    obtain rfl := Option.some.inj ht'
    refine ⟨_, (pss_one (ps_ret (pe_ix ix_list (pe_fld (pv 0) rfl) (pe_fld (pv 0) rfl) (fun _ _ => rfl)))), ?_⟩
    exact ⟨_, rfl, a, _, dx, _, _, rfl, ha, T.cl_Side, T.n_Side_row, f2, _, rfl, a, _, dx, _, _, rfl, ha, T.cl_Side, T.n_Side_at, f1, rl, _, _, _, rfl, rfl, SqL.of (sG _ _ hxs), atn hx rfl, q x hxd⟩
theorem sc_Side_place : FnScope ["self"] ["self"] (defScope s_Side_place) := ⟨rfl, rfl, rfl, by decide +kernel, rfl, by decide +kernel, by decide +kernel⟩
theorem ok_place (T : Txt K w mg C) : Met P w K mg base 1 C.Side "place" (spPlace C.Side) := by
  refine met_of T.m_Side_place T.cl_Side sc_Side_place (fun vs H Q E h => ?_) (fun f cdv A outer s H vs Q E hr h => ?_)
  · obtain ⟨a, dx, rl, pa, i, k, p, rfl, _⟩ := h
    rfl
  · obtain ⟨a, dx, rl, pa, i, k, p, rfl, ha, hp, pl, q⟩ := h
    have f1 : List.lookup (Str.ofString "path") [(Str.ofString "row", V.ref rl), (Str.ofString "at", V.int (i : Int)), (Str.ofString "path", V.ref pa), (Str.ofString "index", V.int (k : Int))] = some (V.ref pa) := rfl
    have f2 : List.lookup (Str.ofString "index") [(Str.ofString "row", V.ref rl), (Str.ofString "at", V.int (i : Int)), (Str.ofString "path", V.ref pa), (Str.ofString "index", V.int (k : Int))] = some (V.int (k : Int)) := rfl
    refine ⟨_, (pss_one (ps_ret (pe_tup (StX.pa_star (pe_fld (pv 0) rfl) (pa_cons (pe_fld (pv 0) rfl) pa_nil))))), ?_⟩
    refine ⟨_, rfl, a, _, dx, _, _, rfl, ha, T.cl_Side, T.n_Side_path, f1, pa, _, rfl, .inl (SqT.of hp), _, rfl, a, _, dx, _, _, rfl, ha, T.cl_Side, T.n_Side_index, f2, ?_⟩
    refine ⟨?_, fun t ht => ?_⟩
    · rw [List.length_append, List.length_map]
      exact Nat.le_trans (show p.length + 1 ≤ 101 by omega) (by decide)
    · have := q t ht
      rw [List.map_append] at this
      exact this
theorem sc_Side_step : FnScope ["self"] ["self"] (defScope s_Side_step) := ⟨rfl, rfl, rfl, by decide +kernel, rfl, by decide +kernel, by decide +kernel⟩
theorem ok_step (T : Txt K w mg C) : Met P w K mg base 2 C.Side "step" (spStep C.Side) := by
  have Mword := ok_word_ (P := P) (base := base) T
  refine met_of T.m_Side_step T.cl_Side sc_Side_step (fun vs H Q E h => ?_) (fun f cdv A outer s H vs Q E hr h => ?_)
  · obtain ⟨a, dx, rl, pa, i, k, ts, t, G, M, rfl, _⟩ := h
    rfl
  · obtain ⟨a, dx, rl, pa, i, k, ts, t, G, M, rfl, S, tr, na, ht, q⟩ := h
    have il := (List.getElem?_eq_some_iff.mp ht).1
    have f1 : List.lookup (Str.ofString "at") [(Str.ofString "row", V.ref rl), (Str.ofString "at", V.int (i : Int)), (Str.ofString "path", V.ref pa), (Str.ofString "index", V.int (k : Int))] = some (V.int (i : Int)) := rfl
    have f2 : List.lookup (Str.ofString "index") [(Str.ofString "row", V.ref rl), (Str.ofString "at", V.int (i : Int)), (Str.ofString "path", V.ref pa), (Str.ofString "index", V.int (k : Int))] = some (V.int (k : Int)) := rfl
    refine ⟨_, (pss_cons (ps_if (pt_cmpR op_eq (pe_mt0 Mword hr (by decide) (pv 0)) pe_str (nomark _)) (pss_one (ps_fldaug (pv 0) pe_int in_add)) pss_nil) (pss_one (ps_fldaug (pv 0) pe_int in_add))), ?_⟩
    refine ⟨_, rfl, a, dx, _, rfl, S.hd, rfl, a, dx, rl, pa, i, k, ts, rfl, S.hd, tr.same S.s, na, by omega, rfl, _, rfl, ?_⟩
    have ew : wordT ts i = kwdT t := by unfold wordT; rw [ht]
    rw [ew]
    cases t with
    | nd d =>
      refine iteT' (by simp [kwdT]) ?_
      refine ⟨_, rfl, a, _, dx, _, _, rfl, S.hd, T.cl_Side, T.n_Side_index, f2, _, _, rfl, rfl, dx, _, S.hd, by show 4 < 1000; decide, ?_⟩
      have e1 : HO.ins C.Side dx (putF (Str.ofString "index") (V.int ((k : Int) + 1)) [(Str.ofString "row", V.ref rl), (Str.ofString "at", V.int (i : Int)), (Str.ofString "path", V.ref pa), (Str.ofString "index", V.int (k : Int))]) = sdO C.Side dx rl i pa (k + 1) := rfl
      have S1 := S.put (u := HO.ins C.Side dx (putF (Str.ofString "index") (V.int ((k : Int) + 1)) [(Str.ofString "row", V.ref rl), (Str.ofString "at", V.int (i : Int)), (Str.ofString "path", V.ref pa), (Str.ofString "index", V.int (k : Int))]))
      rw [e1] at S1
      have f3 : List.lookup (Str.ofString "at") [(Str.ofString "row", V.ref rl), (Str.ofString "at", V.int (i : Int)), (Str.ofString "path", V.ref pa), (Str.ofString "index", V.int ((k + 1 : Nat) : Int))] = some (V.int (i : Int)) := rfl
      refine ⟨_, rfl, a, _, dx, _, _, rfl, S1.hd, T.cl_Side, T.n_Side_at, f3, _, _, rfl, rfl, dx, _, S1.hd, by show 4 < 1000; decide, ?_⟩
      have e2 : HO.ins C.Side dx (putF (Str.ofString "at") (V.int ((i : Int) + 1)) [(Str.ofString "row", V.ref rl), (Str.ofString "at", V.int (i : Int)), (Str.ofString "path", V.ref pa), (Str.ofString "index", V.int ((k + 1 : Nat) : Int))]) = sdO C.Side dx rl (i + 1) pa (k + 1) := rfl
      have S2 := S1.put (u := HO.ins C.Side dx (putF (Str.ofString "at") (V.int ((i : Int) + 1)) [(Str.ofString "row", V.ref rl), (Str.ofString "at", V.int (i : Int)), (Str.ofString "path", V.ref pa), (Str.ofString "index", V.int ((k + 1 : Nat) : Int))]))
      rw [e2] at S2
      exact q _ S2
    | aw n =>
      refine iteF' (show decide (V.str ("await" : Str) = V.str ("node" : Str)) = false by decide +kernel) ?_
      refine ⟨_, rfl, a, _, dx, _, _, rfl, S.hd, T.cl_Side, T.n_Side_at, f1, _, _, rfl, rfl, dx, _, S.hd, by show 4 < 1000; decide, ?_⟩
      have e2 : HO.ins C.Side dx (putF (Str.ofString "at") (V.int ((i : Int) + 1)) [(Str.ofString "row", V.ref rl), (Str.ofString "at", V.int (i : Int)), (Str.ofString "path", V.ref pa), (Str.ofString "index", V.int (k : Int))]) = sdO C.Side dx rl (i + 1) pa k := rfl
      have S2 := S.put (u := HO.ins C.Side dx (putF (Str.ofString "at") (V.int ((i : Int) + 1)) [(Str.ofString "row", V.ref rl), (Str.ofString "at", V.int (i : Int)), (Str.ofString "path", V.ref pa), (Str.ofString "index", V.int (k : Int))]))
      rw [e2] at S2
      exact q _ S2
    | en =>
      refine iteF' (show decide (V.str ("end" : Str) = V.str ("node" : Str)) = false by decide +kernel) ?_
      refine ⟨_, rfl, a, _, dx, _, _, rfl, S.hd, T.cl_Side, T.n_Side_at, f1, _, _, rfl, rfl, dx, _, S.hd, by show 4 < 1000; decide, ?_⟩
      have e2 : HO.ins C.Side dx (putF (Str.ofString "at") (V.int ((i : Int) + 1)) [(Str.ofString "row", V.ref rl), (Str.ofString "at", V.int (i : Int)), (Str.ofString "path", V.ref pa), (Str.ofString "index", V.int (k : Int))]) = sdO C.Side dx rl (i + 1) pa k := rfl
      have S2 := S.put (u := HO.ins C.Side dx (putF (Str.ofString "at") (V.int ((i : Int) + 1)) [(Str.ofString "row", V.ref rl), (Str.ofString "at", V.int (i : Int)), (Str.ofString "path", V.ref pa), (Str.ofString "index", V.int (k : Int))]))
      rw [e2] at S2
      exact q _ S2
theorem sc_Side_step_over : FnScope ["self", "around"] ["self"] (defScope s_Side_step_over) := ⟨rfl, rfl, rfl, by decide +kernel, rfl, by decide +kernel, by decide +kernel⟩
theorem ok_over (T : Txt K w mg C) : Met P w K mg base 3 C.Side "step_over" (spOver C.Side) := by
  obtain ⟨tA, tes, tn, gT, kT, ⟨u1, hu1, ru1⟩, ⟨u2, hu2, ru2⟩, ⟨u3, hu3, ru3⟩⟩ := T.k_TURNS
  have Mword := ok_word_ (P := P) (base := base) T
  have Mstep := ok_step (P := P) (base := base) T
  refine met_of T.m_Side_step_over T.cl_Side sc_Side_step_over (fun vs H Q E h => ?_) (fun f cdv A outer s H vs Q E hr h => ?_)
  · obtain ⟨a, dx, rl, pa, i, k, ts, m, ks, r, G, M, rfl, _⟩ := h
    rfl
  · obtain ⟨a, dx, rl, pa, i, k, ts, m, ks, r, G, M, rfl, S, tr, na, hts, q⟩ := h
    refine ⟨_, (pss_cons (ps_set (i := 1) sc_Side_step_over.nd rfl (Or.inl rfl) pe_int) (pss_cons (ps_expr (pe_mt0 Mstep hr (by decide) (pv 0))) (pss_one (ps_while PassesOwn.never (pt_cmpR op_gt (pv 1) pe_int (nomark _)) (pss_cons (ps_aug (i := 1) sc_Side_step_over.nd rfl (Or.inl rfl) (pe_ix ix_kdict (C8.pe_gc (by rfl) gT) (pe_mt0 Mword hr (by decide) (pv 0)) (fun _ _ => rfl)) ip_add) (pss_one (ps_expr (pe_mt0 Mstep hr (by decide) (pv 0))))))))), ?_⟩
    obtain ⟨ht0, hd0⟩ := drop_tok hts
    refine ⟨_, rfl, a, dx, _, rfl, S.hd, rfl, a, dx, rl, pa, i, k, ts, _, G, M, rfl, S, tr, na, ht0, fun H1 S1 => ?_⟩
    refine ⟨fun n σ H' => ∃ (st : List (List Nd)) (i' k' : Nat), n = ts.length - i' ∧ i' ≤ ts.length ∧ ts.drop i' = remT st r ∧ k' + cntT st = k + cS ks ∧ Sb G H' ((a, sdO C.Side dx rl i' pa k') :: M) ∧ σ = [some (.ref a), some (.int (st.length : Int))], ⟨_, [ks], i + 1, k, rfl, ?_, by rw [hd0]; rfl, by simp [cntT], S1, rfl⟩, ?_⟩
    · have := (List.getElem?_eq_some_iff.mp ht0).1
      omega
    rintro n σ H2 ⟨st, i', k', rfl, il, hd, hk, S2, rfl⟩
    refine ⟨_, rfl, _, _, rfl, rfl, _, rfl, ite2 (fun c => ?_) (fun c => ?_)⟩
    · have turn : ∀ (DD : (L2.St → Hp → Prop) → L2.Ends) (hDD : ∀ N, (DD N).nx = N) (t : Tok) (r' : List Tok) (st' : List (List Nd)) (dl : Int), ts.drop i' = t :: r' → KDct K w tA (kwdT t) (.int dl) → r' = remT st' r → (st.length : Int) + dl = (st'.length : Int) → stp t + cntT st' = cntT st →
          ∃ N : L2.St → Hp → Prop, (∀ σ' H', N σ' H' → ∃ m', m' < ts.length - i' ∧ (∃ (st : List (List Nd)) (i' k' : Nat), m' = ts.length - i' ∧ i' ≤ ts.length ∧ ts.drop i' = remT st r ∧ k' + cntT st = k + cS ks ∧ Sb G H' ((a, sdO C.Side dx rl i' pa k') :: M) ∧ σ' = [some (.ref a), some (.int (st.length : Int))])) ∧
          tSeq (tAug 1 (tOp (rIxD K w) (tC (V.ref tA)) (tMeth C.Side (Str.ofString "word") (spWordS C.Side) [] E0 (tVar 0) tNil)) (ipI fun i j => i + j)) (tDrop (tMeth C.Side (Str.ofString "step") (spStep C.Side) [] E0 (tVar 0) tNil)) (DD N) [some (.ref a), some (.int (st.length : Int))] H2 := by
        intro DD hDD t r' st' dl e1 kd e2 e3 e4
        obtain ⟨ht, hd1⟩ := drop_tok e1
        have hlt := (List.getElem?_eq_some_iff.mp ht).1
        have ew : wordT ts i' = kwdT t := by unfold wordT; rw [ht]
        refine ⟨fun σ' H' => Sb G H' ((a, sdO C.Side dx rl (i' + 1) pa (k' + stp t)) :: M) ∧ σ' = [some (.ref a), some (.int (st'.length : Int))], fun σ' H' hN => ⟨_, by omega, st', i' + 1, k' + stp t, rfl, hlt, by rw [hd1, e2], by omega, hN.1, hN.2⟩, ?_⟩
        refine ⟨_, rfl, _, rfl, a, dx, _, rfl, S2.hd, rfl, a, dx, rl, pa, i', k', ts, rfl, S2.hd, tr.same S2.s, na, il, ?_⟩
        rw [ew]
        refine ⟨_, _, _, rfl, rfl, kd, _, _, rfl, rfl, ?_⟩
        refine ⟨_, rfl, a, dx, _, rfl, S2.hd, rfl, a, dx, rl, pa, i', k', ts, t, G, M, rfl, S2, tr, na, ht, fun H3 S3 => ?_⟩
        show (DD _).nx _ _
        rw [hDD]
        refine ⟨S3, ?_⟩
        show [some (V.ref a), some (V.int ((st.length : Int) + dl))] = _
        rw [e3]
      have kd : ∀ (x : Str) (v : V) (u : Value), PySem.W.nsIn K tA x = some (some u) → RelV v u → KDct K w tA x v := fun x v u h1 h2 => ⟨tes, tn, u, kT.kd.at_, kT.kd.lit, h1, h2⟩
      cases st with
      | nil => exact absurd c (by simp)
      | cons k1 rest =>
        cases k1 with
        | nil => exact turn _ (fun _ => rfl) .en (remT rest r) rest (-1) hd (kd _ _ _ hu2 ru2) rfl (by simp only [List.length_cons]; omega) (by simp [stp, cntT, cS])
        | cons d k2 =>
          cases d with
          | tx x => exact turn _ (fun _ => rfl) (.nd (.tx x)) (remT (k2 :: rest) r) (k2 :: rest) 0 hd (kd _ _ _ hu3 ru3) rfl (by simp) (by simp [stp, cntT, cS, cN]; omega)
          | el t as kk => exact turn _ (fun _ => rfl) (.nd (.el t as kk)) (remT (k2 :: rest) r) (k2 :: rest) 0 hd (kd _ _ _ hu3 ru3) rfl (by simp) (by simp [stp, cntT, cS, cN]; omega)
          | aw n kk =>
            refine turn _ (fun _ => rfl) (.aw n) (remT (kk :: k2 :: rest) r) (kk :: k2 :: rest) 1 ?_ (kd _ _ _ hu1 ru1) rfl (by simp only [List.length_cons]; omega) (by simp [stp, cntT, cS, cN]; omega)
            rw [hd]
            simp [remT, tkS, tkN]
    · have e : st = [] := by
        cases st with
        | nil => rfl
        | cons x y =>
          refine absurd (decide_eq_true ?_) c
          simp only [List.length_cons]
          omega
      subst e
      simp only [cntT, Nat.add_zero] at hk
      rw [hk] at S2
      exact q i' H2 hd il S2
theorem sc_Side_drop_marks : FnScope ["self", "part"] ["self"] (defScope s_Side_drop_marks) := ⟨rfl, rfl, rfl, by decide +kernel, rfl, by decide +kernel, by decide +kernel⟩
theorem ok_dropM (T : Txt K w mg C) : Met P w K mg base 3 C.Side "drop_marks" (spDropM C.Side) := by
  refine met_of T.m_Side_drop_marks T.cl_Side sc_Side_drop_marks (fun vs H Q E h => ?_) (fun f cdv A outer s H vs Q E hr h => ?_)
  · obtain ⟨a, dx, rl, pa, i, k, ts, G, M, rfl, _⟩ := h
    rfl
  · obtain ⟨a, dx, rl, pa, i, k, ts, G, M, rfl, S, tr, na, il, tl, q⟩ := h
    obtain ⟨xs, hxs, xl, dq⟩ := tok_at tr
    have big : 10000000 < sizeLine := by decide
    have f1 : List.lookup (Str.ofString "at") [(Str.ofString "row", V.ref rl), (Str.ofString "at", V.int (i : Int)), (Str.ofString "path", V.ref pa), (Str.ofString "index", V.int (k : Int))] = some (V.int (i : Int)) := rfl
    have f2 : List.lookup (Str.ofString "row") [(Str.ofString "row", V.ref rl), (Str.ofString "at", V.int (i : Int)), (Str.ofString "path", V.ref pa), (Str.ofString "index", V.int (k : Int))] = some (V.ref rl) := rfl
    refine ⟨_, (pss_cons (ps_fld (pv 0) (pe_lc (own := [("part", 1)]) (g := gName 1) (tt := _) rfl sc_Side_drop_marks.nd (pi_list (pe_slice sl_list (pe_fld (pv 0) rfl) (po_some (pe_fld (pv 0) rfl)) po_none)) (blkOk_by (N := ["self", "part"]) (sc := (defScope s_Side_drop_marks)) (by decide +kernel)) (fun _ _ _ _ _ => pg_name (i := 1) sc_Side_drop_marks.nd rfl (Or.inl rfl)) (fun _ _ _ _ _ => pts_one (pt_cmpR (op_notIn_seqS (K := K) rfl) (pe_ix (ix_tupS (K := K) rfl) (pv 1) pe_int (fun _ _ => rfl)) (pe_tup (pa_cons pe_str (pa_cons pe_str pa_nil))) rfl)) (fun _ _ _ _ _ => (pv 1))) rfl) (pss_one (ps_fld (pv 0) pe_int rfl))), ?_⟩
    refine ⟨_, rfl, a, _, dx, _, _, rfl, S.hd, T.cl_Side, T.n_Side_row, f2, _, rfl, a, _, dx, _, _, rfl, S.hd, T.cl_Side, T.n_Side_at, f1, _, rfl, rl, xs, rfl, SqL.of (S.s _ _ hxs), fun l1 hl1 => ?_⟩
    rw [show cutV xs (some (i : Int)) none = xs.drop i from cut_from]
    have S1 := S.alloc (o := .lst (xs.drop i)) hl1
    have g1 := S.grow (o := .lst (xs.drop i)) hl1
    have dq1 : DqAll (upd G l1 (.lst (xs.drop i))) (xs.drop i) ((ts.drop i).map encT) := (DqAll.dropT (i := i) dq).same g1
    have hl1' : upd G l1 (.lst (xs.drop i)) l1 = some (.lst (xs.drop i)) := upd_same
    generalize upd H l1 (.lst (xs.drop i)) = H1 at S1 ⊢
    generalize upd G l1 (.lst (xs.drop i)) = G1 at S1 g1 dq1 hl1'
    refine ⟨l1, rfl, ⟨_, SqL.of (S1.s _ _ hl1')⟩, fun D hD => ?_⟩
    have S2 := S1.add (o := .lst []) hD
    refine lc_it (walk_list (K := K) (a := l1) (xs := xs.drop i)) (fun j H' => ∃ G2 fs, Sb G2 H' ((D, .lst fs) :: (a, sdO C.Side dx rl i pa k) :: M) ∧ Same G1 G2 ∧ DqAll G2 fs ((nds ((ts.drop i).take j)).map encT)) ⟨G1, [], S2, Same.refl _, by rw [List.take_zero]; exact .nil⟩ (fun j H' _ ⟨G2, fs, S3, g2, _⟩ => SqL.of (S3.s _ _ (g2 _ _ hl1'))) ?_ ?_
    · rintro j x H2 H3 hj ⟨G2, fs, S3, g2, df⟩ ⟨rfl, hx⟩
      obtain ⟨t, ht, hxd⟩ := part_at dq1 hx
      obtain ⟨o, ys, rfl, ho⟩ := t_at hxd
      have nt := na t (List.mem_of_mem_drop (List.mem_of_getElem? ht))
      have fk : nds ((ts.drop i).take (j + 1)) = nds ((ts.drop i).take j) ++ nds [t] := by
        rw [List.take_add_one, ht, nds_app]
        rfl
      have fl := df.len
      have fl2 : (nds ((ts.drop i).take j)).length ≤ 100000 := by
        unfold nds
        refine Nat.le_trans (List.length_filter_le _ _) ?_
        rw [List.length_take, List.length_drop]
        omega
      rw [List.length_map] at fl
      refine ⟨rfl, ?_⟩
      refine ⟨_, rfl, o, _, _, _, rfl, rfl, SqT.of (S3.s _ _ (g2 _ _ ho)), at_0, by show 2 ≤ sizeLine; decide, fun t2 ht2 => ?_⟩
      have S4 := S3.alloc (o := .tup [.str "await", .str "end"]) ht2
      have g4 := S3.grow (o := .tup [.str "await", .str "end"]) ht2
      refine ⟨t2, _, rfl, .inr (SqT.of (S4.s _ _ upd_same)), rfl, rfl, ?_⟩
      have app : nds [t] = [t] → ∃ acc, (upd H3 t2 (.tup [.str "await", .str "end"])) D = some (.lst acc) ∧ acc.length < sizeLine ∧ ∃ G2 fs, Sb G2 (upd (upd H3 t2 (.tup [.str "await", .str "end"])) D (.lst (acc ++ [.ref o]))) ((D, .lst fs) :: (a, sdO C.Side dx rl i pa k) :: M) ∧ Same G1 G2 ∧ DqAll G2 fs ((nds ((ts.drop i).take (j + 1))).map encT) := fun e => by
        refine ⟨fs, S4.hd, by omega, _, fs ++ [.ref o], S4.put, Same.trans g2 g4, ?_⟩
        rw [fk, e, List.map_append]
        exact dqAll_ap (df.same g4) (.cons (hxd.same (Same.trans g2 g4)) .nil)
      have no : nds [t] = [] → ∃ G2 fs, Sb G2 (upd H3 t2 (.tup [.str "await", .str "end"])) ((D, .lst fs) :: (a, sdO C.Side dx rl i pa k) :: M) ∧ Same G1 G2 ∧ DqAll G2 fs ((nds ((ts.drop i).take (j + 1))).map encT) := fun e => by
        refine ⟨_, fs, S4, Same.trans g2 g4, ?_⟩
        rw [fk, e, List.append_nil]
        exact df.same g4
      cases t with
      | nd d =>
        have e : (if true = true then !inV (V.str (rawT (.nd d))) [V.str "await", V.str "end"] else inV (V.str (rawT (.nd d))) [V.str "await", V.str "end"]) = true := by
          cases d with
          | tx x => exact (by decide +kernel : (if true = true then !inV (V.str "text") [V.str "await", V.str "end"] else inV (V.str "text") [V.str "await", V.str "end"]) = true)
          | el t as ks => exact (by decide +kernel : (if true = true then !inV (V.str "element") [V.str "await", V.str "end"] else inV (V.str "element") [V.str "await", V.str "end"]) = true)
          | aw n ks => exact nt.elim
        exact ⟨_, rfl, iteT' e ⟨_, rfl, app rfl⟩⟩
      | aw n => exact ⟨_, rfl, iteF' (show (if true = true then !inV (V.str "await") [V.str "await", V.str "end"] else inV (V.str "await") [V.str "await", V.str "end"]) = false by decide +kernel) (no rfl)⟩
      | en => exact ⟨_, rfl, iteF' (show (if true = true then !inV (V.str "end") [V.str "await", V.str "end"] else inV (V.str "end") [V.str "await", V.str "end"]) = false by decide +kernel) (no rfl)⟩
    · rintro H2 ⟨G2, fs, S3, g2, df⟩
      have S4 := S3.swap
      refine ⟨_, rfl, a, _, dx, _, rfl, S4.hd, T.cl_Side, T.n_Side_row, by show 4 < 1000; decide, ?_⟩
      have e1 : HO.ins C.Side dx (putF (Str.ofString "row") (V.ref D) [(Str.ofString "row", V.ref rl), (Str.ofString "at", V.int (i : Int)), (Str.ofString "path", V.ref pa), (Str.ofString "index", V.int (k : Int))]) = sdO C.Side dx D i pa k := rfl
      have S5 := S4.put (u := HO.ins C.Side dx (putF (Str.ofString "row") (V.ref D) [(Str.ofString "row", V.ref rl), (Str.ofString "at", V.int (i : Int)), (Str.ofString "path", V.ref pa), (Str.ofString "index", V.int (k : Int))]))
      rw [e1] at S5
      refine ⟨_, rfl, a, _, dx, _, rfl, S5.hd, T.cl_Side, T.n_Side_at, by show 4 < 1000; decide, ?_⟩
      have e2 : HO.ins C.Side dx (putF (Str.ofString "at") (V.int 0) [(Str.ofString "row", V.ref D), (Str.ofString "at", V.int (i : Int)), (Str.ofString "path", V.ref pa), (Str.ofString "index", V.int (k : Int))]) = sdO C.Side dx D 0 pa k := rfl
      have S6 := S5.put (u := HO.ins C.Side dx (putF (Str.ofString "at") (V.int 0) [(Str.ofString "row", V.ref D), (Str.ofString "at", V.int (i : Int)), (Str.ofString "path", V.ref pa), (Str.ofString "index", V.int (k : Int))]))
      rw [e2] at S6
      obtain ⟨S7, g7⟩ := S6.swap.drop
      rw [List.length_drop, xl, List.take_of_length_le (by rw [List.length_drop]; omega)] at df
      exact q D _ _ S7 (Same.trans g1 (Same.trans g2 g7)) (.lst upd_same (df.same g7))
end
end VL

set_option Elab.async false
set_option linter.all false
set_option pp.maxSteps 700
set_option maxRecDepth 100000
set_option maxHeartbeats 4000000
namespace VL
open PySem PySem.Spec PyProof.Rows L2
/-! ### how many events there are -/
def wTk : Tok → Nat
  | .nd d => 2 * ndN d
  | .aw _ => 1
  | .en => 0
def wLk : List Tok → Nat
  | [] => 0
  | t :: r => wTk t + wLk r
theorem wLk_app (a b : List Tok) : wLk (a ++ b) = wLk a + wLk b := by
  induction a with
  | nil => simp [wLk]
  | cons t a ih => simp [wLk, ih]; omega
mutual
theorem wLk_N : ∀ d : Nd, wLk (tkN d) ≤ 2 * ndN d
  | .tx x => by simp [tkN, wLk, wTk]
  | .el t as ks => by simp [tkN, wLk, wTk]
  | .aw n ks => by
    have := wLk_S ks
    simp only [tkN, wLk, wTk, wLk_app, ndN]
    omega
theorem wLk_S : ∀ ks : List Nd, wLk (tkS ks) ≤ 2 * ndS ks
  | [] => by simp [tkS, wLk]
  | d :: r => by
    have := wLk_N d
    have := wLk_S r
    simp only [tkS, wLk_app, ndS]
    omega
end
theorem wLk_nds : ∀ ts : List Tok, wLk (nds ts) ≤ wLk ts
  | [] => Nat.le_refl _
  | t :: r => by
    have ih := wLk_nds r
    cases t with
    | nd d => show wTk (.nd d) + wLk (nds r) ≤ _; simp only [wLk]; omega
    | aw n => show wLk (nds r) ≤ _; simp only [wLk]; omega
    | en => show wLk (nds r) ≤ _; simp only [wLk]; omega
theorem nds_le (ts : List Tok) : (nds ts).length ≤ ts.length := List.length_filter_le _ _
theorem nds_lt {ts : List Tok} (h : isAw ts = true) : (nds ts).length < ts.length := by
  cases ts with
  | nil => exact nomatch h
  | cons t r =>
    cases t with
    | nd d => exact nomatch h
    | en => exact nomatch h
    | aw n =>
      have := nds_le r
      show (nds r).length < r.length + 1
      omega
theorem nds_mem {ts : List Tok} {t : Tok} (h : t ∈ nds ts) : t ∈ ts := (List.mem_filter.mp h).1
theorem R_len {n : Nat} {p q : List Int} {i j : Nat} {r s : List Tok} {z : Option (List Ew)} (h : R n p q i j r s z) : ∀ es, z = some es → es.length ≤ wLk r := by
  induction h with
  | nil => rintro es e; cases e; exact Nat.zero_le _
  | en _ ih =>
    rintro es e
    have := ih es e
    simp only [wLk]
    omega
  | aw _ _ ih =>
    rintro es e
    have := ih es e
    simp only [wLk]
    omega
  | miss => rintro es e; cases e
  | @late n p q i j ks ls r s z k _ ih =>
    intro es e
    cases z with
    | none => exact nomatch e
    | some a =>
      obtain rfl := Option.some.inj e
      have := ih a rfl
      simp only [wLk, wTk, wLk_app, List.length_cons]
      omega
  | @tx n p q i j r s z x _ ih =>
    intro es e
    cases z with
    | none => exact nomatch e
    | some a =>
      obtain rfl := Option.some.inj e
      have := ih a rfl
      simp only [wLk, wTk, ndN, List.length_cons]
      omega
  | @el n p q i j r s z t as ks ls es0 _ _ _ _ ihk ih =>
    intro es e
    cases z with
    | none => exact nomatch e
    | some a =>
      obtain rfl := Option.some.inj e
      have h1 := ih a rfl
      have h2 := ihk es0 rfl
      have h3 := wLk_S ks
      simp only [wLk, wTk, ndN, List.length_cons, List.length_append]
      omega
  | elM _ _ _ _ => rintro es e; cases e
  | @drop n p q i j r s z _ _ ih =>
    intro es e
    exact Nat.le_trans (ih es e) (wLk_nds r)
theorem wLk_drop {ts : List Tok} {i : Nat} : wLk (ts.drop i) ≤ wLk ts := by
  have h : wLk ts = wLk (ts.take i) + wLk (ts.drop i) := by rw [← wLk_app, List.take_append_drop]
  omega
/-- one node beside another -/
inductive NR : Nat → List Int → List Int → Nat → Nat → Nd → Nd → Option (List Ew) → Prop
  | tx {n : Nat} {p q : List Int} {i j : Nat} {x : List Nat} : NR n p q i j (.tx x) (.tx x) (some [.pr (p ++ [(i : Int)]) (q ++ [(j : Int)])])
  | el {n : Nat} {p q : List Int} {i j : Nat} {t : List Nat} {as : List (List Nat × List Nat)} {ks ls : List Nd} {z : Option (List Ew)} : (as.map (·.1)).Nodup → as.length ≤ 10 → R n (p ++ [(i : Int)]) (q ++ [(j : Int)]) 0 0 (tkS ks) (tkS ls) z → NR (n + 1) p q i j (.el t as ks) (.el t as ls) (z.map (.pr (p ++ [(i : Int)]) (q ++ [(j : Int)]) :: ·))
def szN (d : Nd) : Prop := ndN d ≤ 20000 ∧ dpN d ≤ 12
def szT : Tok → Prop
  | .nd d => pln d ∧ szN d
  | _ => True
theorem szT_ok {t : Tok} (h : szT t) : okT t := by
  cases t with
  | nd d => exact h.1
  | aw n => trivial
  | en => trivial
mutual
theorem adN_dp : ∀ d : Nd, adN d ≤ dpN d
  | .tx x => by simp [adN]
  | .el t as ks => by simp [adN]
  | .aw n ks => by
    have := adS_dp ks
    simp only [adN, dpN]
    omega
theorem adS_dp : ∀ ks : List Nd, adS ks ≤ dpS ks
  | [] => by simp [adS]
  | d :: r => by
    have := adN_dp d
    have := adS_dp r
    simp only [adS, dpS]
    omega
end
mutual
theorem szT_N : ∀ d : Nd, szN d → ∀ t ∈ tkN d, szT t
  | .tx x, h, t, ht => by
    simp only [tkN, List.mem_singleton] at ht
    subst ht
    exact ⟨trivial, h⟩
  | .el t as ks, h, u, hu => by
    simp only [tkN, List.mem_singleton] at hu
    subst hu
    exact ⟨trivial, h⟩
  | .aw n ks, h, t, ht => by
    simp only [tkN, List.mem_cons, List.mem_append, List.not_mem_nil, or_false] at ht
    obtain ⟨h1, h2⟩ := h
    simp only [ndN] at h1
    simp only [dpN] at h2
    rcases ht with rfl | ht | rfl
    · exact trivial
    · exact szT_S ks (by omega) (by omega) t ht
    · exact trivial
theorem szT_S : ∀ ks : List Nd, ndS ks ≤ 20000 → dpS ks ≤ 12 → ∀ t ∈ tkS ks, szT t
  | [], _, _, t, ht => by simp [tkS] at ht
  | d :: r, h1, h2, t, ht => by
    simp only [ndS] at h1
    simp only [dpS] at h2
    simp only [tkS, List.mem_append] at ht
    rcases ht with ht | ht
    · exact szT_N d ⟨by omega, by omega⟩ t ht
    · exact szT_S r (by omega) (by omega) t ht
end
def prD (es : List Ew) : List PyData := (prW es).map fun a => .tuple [pathD a.1, pathD a.2]
theorem prD_app (a b : List Ew) : prD (a ++ b) = prD a ++ prD b := by
  unfold prD
  rw [prW_app, List.map_append]
theorem prD_len (es : List Ew) : (prD es).length ≤ es.length := by
  unfold prD
  rw [List.length_map]
  exact List.length_filterMap_le _ _
theorem ltL_len (es : List Ew) : (ltL es).length ≤ es.length := List.length_filterMap_le _ _
end VL

set_option Elab.async false
set_option linter.all false
set_option pp.maxSteps 700
set_option maxRecDepth 100000
set_option maxHeartbeats 4000000
namespace VL
open PySem PySem.Spec PyProof.Rows L2
def cmO (C dx dl ll pl : Addr) : HO := .ins C dx [("differences", .ref dl), ("late", .ref ll), ("partners", .ref pl)]
def spAwaits (C : Ad) : Sp := fun vs H Q E => ∃ (c r n dx dxr dxn dl ll pl rl nl pr pn : Addr) (lts : List V) (i1 k1 i2 k2 : Nat) (ts us r' s' : List Tok) (m m' : Option Int) (G : Hp) (M : List (Addr × HO)), vs = [.ref c, .ref r, .ref n] ∧
  Sb G H ((r, sdO C.Side dxr rl i1 pr k1) :: (n, sdO C.Side dxn nl i2 pn k2) :: (ll, .lst lts) :: M) ∧ G c = some (cmO C.Comparison dx dl ll pl) ∧ TokA G rl ts ∧ TokA G nl us ∧ (∀ t ∈ ts, okT t) ∧ (∀ t ∈ us, okT t) ∧ ts.drop i1 = .aw m :: r' ∧ us.drop i2 = .aw m' :: s' ∧ lts.length ≤ 1000000 ∧
  ((m = none ∧ m' ≠ none ∧ ∀ H', E (.ref C.MissingAnswer) none H') ∨
   (∃ k ks ls r2 s2, m = some k ∧ m' = none ∧ r' = tkS ks ++ .en :: r2 ∧ s' = tkS ls ++ .en :: s2 ∧ ∀ i1' i2' H', ts.drop i1' = r2 → us.drop i2' = s2 → i1' ≤ ts.length → i2' ≤ us.length → Sb G H' ((r, sdO C.Side dxr rl i1' pr (k1 + cS ks)) :: (n, sdO C.Side dxn nl i2' pn (k2 + cS ls)) :: (ll, .lst (lts ++ [.int k])) :: M) → Q .non H') ∨
   ((m = none ↔ m' = none) ∧ ∀ H', Sb G H' ((r, sdO C.Side dxr rl (i1 + 1) pr k1) :: (n, sdO C.Side dxn nl (i2 + 1) pn k2) :: (ll, .lst lts) :: M) → Q .non H'))
section
variable {P : Program} {w : World} {K : PySem.W.Frag} {mg : Str → Option Value} {base : Heap} {C : Ad}
theorem sc_compare_awaits : FnScope ["comparison", "read", "now", "_", "number", "present"] ["comparison", "read", "now"] (defScope s_compare_awaits) := ⟨rfl, rfl, rfl, by decide +kernel, rfl, by decide +kernel, by decide +kernel⟩
theorem ok_awaits (T : Txt K w mg C) : CalX P w K mg base 4 "compare_awaits" (spAwaits C) := by
  have Mpart := ok_part (P := P) (base := base) T
  have Mstep := ok_step (P := P) (base := base) T
  have Mstep_over := ok_over (P := P) (base := base) T
  refine calX_of T.d_compare_awaits sc_compare_awaits (fun vs H Q E h => ?_) (fun f cdv A outer s H vs Q E hr h => ?_)
  · obtain ⟨c, r, n, dx, dxr, dxn, dl, ll, pl, rl, nl, pr, pn, lts, i1, k1, i2, k2, ts, us, r', s', m, m', G, M, rfl, _⟩ := h
    rfl
  · obtain ⟨c, r, n, dx, dxr, dxn, dl, ll, pl, rl, nl, pr, pn, lts, i1, k1, i2, k2, ts, us, r', s', m, m', G, M, rfl, S, hc, tr, tn, okr, okn, hd1, hd2, ltl, h⟩ := h
    refine ⟨_, (pss_cons (ps_asg (pe_mt0 Mpart hr (by decide) (pv 1)) (pg_tup rfl (pgs_cons (pg_name (i := 3) sc_compare_awaits.nd rfl (Or.inl rfl)) (pgs_cons (pg_name (i := 4) sc_compare_awaits.nd rfl (Or.inl rfl)) pgs_nil)))) (pss_cons (ps_asg (pe_mt0 Mpart hr (by decide) (pv 2)) (pg_tup rfl (pgs_cons (pg_name (i := 3) sc_compare_awaits.nd rfl (Or.inl rfl)) (pgs_cons (pg_name (i := 5) sc_compare_awaits.nd rfl (Or.inl rfl)) pgs_nil)))) (pss_cons (ps_if (PW.pt (pw_and (pt_cmp (pc_isN (pv 4))) (pw_and1 (pt_cmp (pc_notN (pv 5)))))) (pss_one (ps_raise rfl takeX (SkE.pmk_own1 PySem.F.excBase_ValueError T.x_MissingAnswer.xx T.x_MissingAnswer.g T.x_MissingAnswer.kp (raises_own T.x_MissingAnswer.bP T.x_MissingAnswer.tP) (by rfl) pe_str))) pss_nil) (pss_one (ps_if (PW.pt (pw_and (pt_cmp (pc_notN (pv 4))) (pw_and1 (pt_cmp (pc_isN (pv 5)))))) (pss_cons (ps_expr (pe_bm PySem.F.plainAttrs_list PySem.F.slot_list_append PySem.F.type_list_append mt_append (pe_fld (pv 0) rfl) (pa_cons (pv 4) pa_nil))) (pss_cons (ps_expr (pe_mt0 Mstep_over hr (by decide) (pv 1))) (pss_one (ps_expr (pe_mt0 Mstep_over hr (by decide) (pv 2)))))) (pss_cons (ps_expr (pe_mt0 Mstep hr (by decide) (pv 1))) (pss_one (ps_expr (pe_mt0 Mstep hr (by decide) (pv 2)))))))))), ?_⟩
    obtain ⟨ht1, hn1⟩ := drop_tok hd1
    obtain ⟨ht2, hn2⟩ := drop_tok hd2
    refine ⟨_, rfl, r, dxr, _, rfl, S.hd, rfl, r, dxr, rl, pr, i1, k1, ts, _, G, rfl, S.hd, S.s, tr, ht1, fun v1 dv1 => ?_⟩
    obtain ⟨o1, rfl, ho1⟩ := t_aw dv1
    refine ⟨o1, _, rfl, SqT.of (S.s _ _ ho1), rfl, _, _, rfl, _, _, rfl, rfl, ?_⟩
    refine ⟨_, rfl, n, dxn, _, rfl, S.hd2, rfl, n, dxn, nl, pn, i2, k2, us, _, G, rfl, S.hd2, S.s, tn, ht2, fun v2 dv2 => ?_⟩
    obtain ⟨o2, rfl, ho2⟩ := t_aw dv2
    refine ⟨o2, _, rfl, SqT.of (S.s _ _ ho2), rfl, _, _, rfl, _, _, rfl, rfl, ?_⟩
    cases m with
    | none =>
      cases m' with
      | none =>
        rcases h with ⟨_, h2, _⟩ | ⟨k0, _, _, _, _, h1, _⟩ | ⟨_, q⟩
        · exact absurd rfl h2
        · exact nomatch h1
        refine ⟨_, rfl, _, rfl, iteT' (by simp [nVV]) ⟨_, rfl, _, rfl, iteF' (by simp [nVV]) ?_⟩⟩
        refine ⟨_, rfl, _, rfl, iteF' (by simp [nVV]) (iteF' rfl ?_)⟩
        refine ⟨_, rfl, r, dxr, _, rfl, S.hd, rfl, r, dxr, rl, pr, i1, k1, ts, _, G, _, rfl, S, tr, okr, ht1, fun H2 S2 => ?_⟩
        refine ⟨_, rfl, n, dxn, _, rfl, S2.hd2, rfl, n, dxn, nl, pn, i2, k2, us, _, G, _, rfl, S2.swap, tn, okn, ht2, fun H3 S3 => ?_⟩
        exact q H3 S3.swap
      | some k' =>
        rcases h with ⟨_, _, q⟩ | ⟨k0, _, _, _, _, h1, _⟩ | ⟨h1, _⟩
        · exact ⟨_, rfl, _, rfl, iteT' (by simp [nVV]) ⟨_, rfl, _, rfl, iteT' (by simp [nVV]) (q _)⟩⟩
        · exact nomatch h1
        · exact nomatch h1.mp rfl
    | some k =>
      cases m' with
      | none =>
        rcases h with ⟨h1, _, _⟩ | ⟨k0, ks, ls, r2, s2, h1, _, rfl, rfl, q⟩ | ⟨h1, _⟩
        · exact nomatch h1
        · obtain rfl := Option.some.inj h1
          refine ⟨_, rfl, _, rfl, iteF' (by simp [nVV]) (iteF' rfl ?_)⟩
          refine ⟨_, rfl, _, rfl, iteT' (by simp [nVV]) ⟨_, rfl, _, rfl, iteT' (by simp [nVV]) ?_⟩⟩
          have fl : List.lookup (Str.ofString "late") [(Str.ofString "differences", V.ref dl), (Str.ofString "late", V.ref ll), (Str.ofString "partners", V.ref pl)] = some (V.ref ll) := rfl
          have Sl := S.up2
          refine ⟨_, rfl, c, _, dx, _, _, rfl, S.s _ _ hc, T.cl_Comparison, T.n_Comparison_late, fl, .inl ⟨rfl, _, SqL.of Sl.hd⟩, _, rfl, ll, _, _, rfl, rfl, Sl.hd, Nat.lt_of_le_of_lt ltl (by decide), ?_⟩
          have S2 := (Sl.put (u := .lst (lts ++ [nVV (some k)]))).dn2
          refine ⟨_, rfl, r, dxr, _, rfl, S2.hd, rfl, r, dxr, rl, pr, i1, k1, ts, _, ks, r2, G, _, rfl, S2, tr, okr, hd1, fun i1' H3 e1 l1 S3 => ?_⟩
          refine ⟨_, rfl, n, dxn, _, rfl, S3.hd2, rfl, n, dxn, nl, pn, i2, k2, us, _, ls, s2, G, _, rfl, S3.swap, tn, okn, hd2, fun i2' H4 e2 l2 S4 => ?_⟩
          exact q i1' i2' H4 e1 e2 l1 l2 S4.swap
        · exact nomatch h1.mpr rfl
      | some k' =>
        rcases h with ⟨h1, _, _⟩ | ⟨k0, _, _, _, _, _, h1, _⟩ | ⟨_, q⟩
        · exact nomatch h1
        · exact nomatch h1
        refine ⟨_, rfl, _, rfl, iteF' (by simp [nVV]) (iteF' rfl ?_)⟩
        refine ⟨_, rfl, _, rfl, iteT' (by simp [nVV]) ⟨_, rfl, _, rfl, iteF' (by simp [nVV]) ?_⟩⟩
        refine ⟨_, rfl, r, dxr, _, rfl, S.hd, rfl, r, dxr, rl, pr, i1, k1, ts, _, G, _, rfl, S, tr, okr, ht1, fun H2 S2 => ?_⟩
        refine ⟨_, rfl, n, dxn, _, rfl, S2.hd2, rfl, n, dxn, nl, pn, i2, k2, us, _, G, _, rfl, S2.swap, tn, okn, ht2, fun H3 S3 => ?_⟩
        exact q H3 S3.swap
end
end VL

set_option Elab.async false
set_option linter.all false
set_option pp.maxSteps 700
set_option maxRecDepth 100000
set_option maxHeartbeats 4000000
namespace VL
open PySem PySem.Spec PyProof.Rows L2
def spNodesW (C : Ad) (N : Nat) : Sp := fun vs H Q E => ∃ (c r n dx dxr dxn dl ll pl rl nl pr pn : Addr) (lts ps : List V) (i1 k1 i2 k2 : Nat) (ts us : List Tok) (d e : Nd) (p q : List Int) (z : Option (List Ew)) (G : Hp) (M : List (Addr × HO)), vs = [.ref c, .ref r, .ref n] ∧
  Sb G H ((r, sdO C.Side dxr rl i1 pr k1) :: (n, sdO C.Side dxn nl i2 pn k2) :: (ll, .lst lts) :: (pl, .lst ps) :: M) ∧ G c = some (cmO C.Comparison dx dl ll pl) ∧ TokA G rl ts ∧ TokA G nl us ∧ ts[i1]? = some (.nd d) ∧ us[i2]? = some (.nd e) ∧ szN d ∧ szN e ∧ PathA G pr p ∧ PathA G pn q ∧ NR N p q k1 k2 d e z ∧ p.length + N ≤ 50 ∧ q.length + N ≤ 50 ∧ ps.length + 2 * ndN d ≤ 1000000 ∧ lts.length + 2 * ndN d ≤ 1000000 ∧
  (∀ es, z = some es → ∀ ps' G' H', Sb G' H' ((r, sdO C.Side dxr rl i1 pr k1) :: (n, sdO C.Side dxn nl i2 pn k2) :: (ll, .lst (lts ++ (ltL es).map V.int)) :: (pl, .lst (ps ++ ps')) :: M) → Same G G' → DqAll G' ps' (prD es) → Q .non H') ∧ (z = none → ∀ H', E (.ref C.MissingAnswer) none H')
def spRowsW (C : Ad) (N : Nat) : Sp := fun vs H Q E => ∃ (c r n dx dxr dxn dl ll pl rl nl pr pn : Addr) (lts ps : List V) (ts us : List Tok) (p q : List Int) (z : Option (List Ew)) (G : Hp) (M : List (Addr × HO)), vs = [.ref c, .ref r, .ref n] ∧
  Sb G H ((r, sdO C.Side dxr rl 0 pr 0) :: (n, sdO C.Side dxn nl 0 pn 0) :: (ll, .lst lts) :: (pl, .lst ps) :: M) ∧ G c = some (cmO C.Comparison dx dl ll pl) ∧ TokA G rl ts ∧ TokA G nl us ∧ (∀ t ∈ ts, szT t) ∧ (∀ t ∈ us, szT t) ∧ ts.length ≤ 100000 ∧ us.length ≤ 100000 ∧ PathA G pr p ∧ PathA G pn q ∧ R N p q 0 0 ts us z ∧ p.length + N ≤ 50 ∧ q.length + N ≤ 50 ∧ ps.length + wLk ts ≤ 1000000 ∧ lts.length + wLk ts ≤ 1000000 ∧
  (∀ es, z = some es → ∀ o1 o2 ps' G' H', Sb G' H' ((r, o1) :: (n, o2) :: (ll, .lst (lts ++ (ltL es).map V.int)) :: (pl, .lst (ps ++ ps')) :: M) → Same G G' → DqAll G' ps' (prD es) → Q .non H') ∧ (z = none → ∀ H', E (.ref C.MissingAnswer) none H')
theorem dq_path {H : Hp} {t : Addr} {p : List Int} (h : PathA H t p) : Dq H (.ref t) (pathD p) := by
  refine .tup h ?_
  clear h
  induction p with
  | nil => exact .nil
  | cons a r ih => exact .cons (.int a) ih
theorem dq_pr {H : Hp} {q t u : Addr} {p p2 : List Int} (h : H q = some (.tup [.ref t, .ref u])) (hp : PathA H t p) (hp2 : PathA H u p2) : Dq H (.ref q) (.tuple [pathD p, pathD p2]) := .tup h (.cons (dq_path hp) (.cons (dq_path hp2) .nil))
theorem mergeK_nd : ∀ (kvs acc : List (Key × V)), ((acc ++ kvs).map (·.1)).Nodup → mergeK acc kvs = acc ++ kvs
  | [], acc, _ => by simp [mergeK]
  | kv :: r, acc, h => by
    have hn : putK acc kv.1 kv.2 = acc ++ [kv] := by
      refine putK_nw (valV_out fun hm => ?_)
      rw [List.map_append, List.nodup_append] at h
      exact h.2.2 _ hm _ (by simp) rfl
    show mergeK (putK acc kv.1 kv.2) r = _
    rw [hn, mergeK_nd r (acc ++ [kv]) (by simpa using h)]
    simp
theorem sqt_sameT {K : PySem.W.Frag} {H H' : Hp} {a : Addr} {xs : List V} (h : SqT K H a xs) (s : Same H H') : SqT K H' a xs := by
  rcases h with (h | ⟨o, h⟩) | h
  · exact .inl (.inl (s _ _ h))
  · exact .inl (.inr ⟨o, s _ _ h⟩)
  · exact .inr h
theorem kvs_of {K : PySem.W.Frag} {H : Hp} : ∀ {as : List Atr} {xs : List V}, DqAll H xs (as.map pairD) → ∃ ps : List Addr, xs = ps.map V.ref ∧ Paired (fun p (kv : Key × V) => SqT K H p [kV kv.1, kv.2]) ps (kvT as)
  | [], _, h => by cases h; exact ⟨[], rfl, .nil⟩
  | a :: r, _, h => by
    cases h with
    | cons h1 h2 =>
      obtain ⟨ps, rfl, hp⟩ := kvs_of h2
      cases h1 with
      | @tup q ys _ hq hd =>
        cases hd with
        | cons e1 e2 => cases e2 with
          | cons e3 e4 =>
            cases e4
            cases e1
            cases e3
            exact ⟨q :: ps, rfl, .cons (SqT.of hq) hp⟩
theorem kvs_at {K : PySem.W.Frag} {H : Hp} {pa : Addr} {as : List Atr} (h : Dq H (.ref pa) (.list (as.map pairD))) : ∃ ps : List Addr, H pa = some (.lst (ps.map V.ref)) ∧ Paired (fun p (kv : Key × V) => SqT K H p [kV kv.1, kv.2]) ps (kvT as) := by
  cases h with
  | lst h1 h2 =>
    obtain ⟨ps, rfl, hp⟩ := kvs_of (K := K) h2
    exact ⟨ps, h1, hp⟩
theorem kvT_txt {as : List Atr} : ∀ p ∈ kvT as, TxtV p.2 := fun p hp => by
  obtain ⟨a, _, rfl⟩ := List.mem_map.mp hp
  exact ⟨_, rfl⟩
theorem kvT_val {as : List Atr} (h : (as.map (·.1)).Nodup) : ∀ k y, valV (kvT as) k = some y → TxtV y := fun k y hv => by
  by_cases c : k ∈ (kvT as).map (·.1)
  · obtain ⟨q, hq, rfl⟩ := List.mem_map.mp c
    obtain ⟨i, hi, ei⟩ := List.getElem_of_mem hq
    have h2 : valV (kvT as) q.1 = some q.2 := valV_nd (i := i) (kvT_nd h) (by rw [List.getElem?_eq_getElem hi, ei])
    rw [hv] at h2
    rw [Option.some.inj h2]
    exact kvT_txt q hq
  · rw [valV_out c] at hv
    cases hv
theorem Sb.toKids {G H : Hp} {M : List (Addr × HO)} {x1 x2 r n dl pl : Addr × HO} (S : Sb G H (x2 :: x1 :: r :: n :: dl :: pl :: M)) : Sb G H (x1 :: x2 :: dl :: pl :: r :: n :: M) :=
  S.perm (.trans (.swap _ _ _) (.cons _ (.cons _ (List.perm_append_comm_assoc [dl, pl] [r, n] M))))
theorem Sb.back {G H : Hp} {M : List (Addr × HO)} {r n dl pl : Addr × HO} (S : Sb G H (dl :: pl :: r :: n :: M)) : Sb G H (r :: n :: dl :: pl :: M) := S.perm (List.perm_append_comm_assoc [r, n] [dl, pl] M)
theorem addP {G H : Hp} {R N : Addr × HO} {dl pl t u t2 : Addr} {ds ps : List V} {M : List (Addr × HO)} {p p2 : List Int} (S : Sb G H (R :: N :: (dl, .lst ds) :: (pl, .lst ps) :: M)) (ht : H t = none) (hu : upd H t (.tup (p.map V.int)) u = none) (ht2 : upd (upd H t (.tup (p.map V.int))) u (.tup (p2.map V.int)) t2 = none) :
    ∃ G2, Sb G2 (upd (upd (upd (upd H t (.tup (p.map V.int))) u (.tup (p2.map V.int))) t2 (.tup [.ref t, .ref u])) pl (.lst (ps ++ [.ref t2]))) (R :: N :: (dl, .lst ds) :: (pl, .lst (ps ++ [.ref t2])) :: M) ∧ Same G G2 ∧ Dq G2 (.ref t2) (.tuple [pathD p, pathD p2]) := by
  have S1 := S.alloc (o := .tup (p.map V.int)) ht
  have S2 := S1.alloc (o := .tup (p2.map V.int)) hu
  have S3 := S2.alloc (o := .tup [.ref t, .ref u]) ht2
  have g1 := S.grow (o := .tup (p.map V.int)) ht
  have g2 := S1.grow (o := .tup (p2.map V.int)) hu
  have g3 := S2.grow (o := .tup [.ref t, .ref u]) ht2
  exact ⟨_, (S3.up3.put (u := .lst (ps ++ [.ref t2]))).dn3, Same.trans g1 (Same.trans g2 g3), dq_pr upd_same (g3 _ _ (g2 _ _ upd_same)) (g3 _ _ upd_same)⟩
section
variable {P : Program} {w : World} {K : PySem.W.Frag} {mg : Str → Option Value} {base : Heap} {C : Ad}
theorem sc_compare_nodes : FnScope ["comparison", "read", "now", "one", "other"] ["comparison", "read", "now"] (defScope s_compare_nodes) := ⟨rfl, rfl, rfl, by decide +kernel, rfl, by decide +kernel, by decide +kernel⟩
theorem sc_compare_rows : FnScope ["comparison", "read", "now", "words"] ["comparison", "read", "now"] (defScope s_compare_rows) := ⟨rfl, rfl, rfl, by decide +kernel, rfl, by decide +kernel, by decide +kernel⟩
theorem nodes_S (T : Txt K w mg C) {N : Nat} {sp : Sp} (hsp : ∀ m, m + 1 = N → sp = spRowsW C m) (Xcompare_rows : CalX P w K mg base (2 * N + 18) "compare_rows" sp) : CalX P w K mg base (2 * N + 19) "compare_nodes" (spNodesW C N) := by
  have Mpart := ok_part (P := P) (base := base) T
  have Mplace := ok_place (P := P) (base := base) T
  have KSide := ok_sinit (P := P) (base := base) T
  refine calX_of T.d_compare_nodes sc_compare_nodes (fun vs H Q E h => ?_) (fun f cdv A outer s H vs Q E hr h => ?_)
  · obtain ⟨c, r, n, dx, dxr, dxn, dl, ll, pl, rl, nl, pr, pn, lts, ps, i1, k1, i2, k2, ts, us, d, e, p, q, z, G, M, rfl, _⟩ := h
    rfl
  · obtain ⟨c, r, n, dx, dxr, dxn, dl, ll, pl, rl, nl, pr, pn, lts, ps, i1, k1, i2, k2, ts, us, d, e, p, q, z, G, M, rfl, S, hc, tr, tn, ht1, ht2, sd, se, hpr, hpn, hN, pN, qN, psl, ltl, out, outE⟩ := h
    have big : 10000000 < sizeLine := by decide
    have fd : List.lookup (Str.ofString "differences") [(Str.ofString "differences", V.ref dl), (Str.ofString "late", V.ref ll), (Str.ofString "partners", V.ref pl)] = some (V.ref dl) := rfl
    have fp : List.lookup (Str.ofString "partners") [(Str.ofString "differences", V.ref dl), (Str.ofString "late", V.ref ll), (Str.ofString "partners", V.ref pl)] = some (V.ref pl) := rfl
    refine ⟨_, (pss_cons (ps_set (i := 3) sc_compare_nodes.nd rfl (Or.inl rfl) (pe_mt0 Mpart hr (by omega) (pv 1))) (pss_cons (ps_set (i := 4) sc_compare_nodes.nd rfl (Or.inl rfl) (pe_mt0 Mpart hr (by omega) (pv 2))) (pss_cons (ps_if (PW.pt (pw_or (pt_cmpR op_ne (pe_ix ix_tup (pv 3) pe_int (fun _ _ => rfl)) (pe_ix ix_tup (pv 4) pe_int (fun _ _ => rfl)) (nomark _)) (pw_or1 (PW.pt (pw_and (pt_cmpR op_eq (pe_ix ix_tup (pv 3) pe_int (fun _ _ => rfl)) pe_str (nomark _)) (pw_and1 (pt_cmpR op_ne (pe_ix ix_tup (pv 3) pe_int (fun _ _ => rfl)) (pe_ix ix_tup (pv 4) pe_int (fun _ _ => rfl)) (nomark _)))))))) (pss_cons (ps_expr (pe_bm PySem.F.plainAttrs_list PySem.F.slot_list_append PySem.F.type_list_append mt_append (pe_fld (pv 0) rfl) (pa_cons (pe_tup (pa_cons (pe_mt0 Mplace hr (by omega) (pv 2)) (pa_cons pe_str pa_nil))) pa_nil))) (pss_one ps_retN)) pss_nil) (pss_cons (ps_expr (pe_bm PySem.F.plainAttrs_list PySem.F.slot_list_append PySem.F.type_list_append mt_append (pe_fld (pv 0) rfl) (pa_cons (pe_tup (pa_cons (pe_mt0 Mplace hr (by omega) (pv 1)) (pa_cons (pe_mt0 Mplace hr (by omega) (pv 2)) pa_nil))) pa_nil))) (pss_cons (ps_if (pt_cmpR op_eq (pe_ix ix_tup (pv 3) pe_int (fun _ _ => rfl)) pe_str (nomark _)) (pss_cons (ps_if (pt_cmpR op_ne (pe_ix ix_tup (pv 3) pe_int (fun _ _ => rfl)) (pe_ix ix_tup (pv 4) pe_int (fun _ _ => rfl)) (nomark _)) (pss_one (ps_expr (pe_bm PySem.F.plainAttrs_list PySem.F.slot_list_append PySem.F.type_list_append mt_append (pe_fld (pv 0) rfl) (pa_cons (pe_tup (pa_cons (pe_mt0 Mplace hr (by omega) (pv 2)) (pa_cons pe_str pa_nil))) pa_nil)))) pss_nil) (pss_one ps_retN)) pss_nil) (C8.pss_cut (ps_if (pt_cmpR (op_neD hr.units0) (pe_callTy (call_dictL rfl) (by rfl) T.z_dict (by decide +kernel) (pa_cons (pe_ix ix_tup (pv 3) pe_int (fun _ _ => rfl)) pa_nil)) (pe_callTy (call_dictL rfl) (by rfl) T.z_dict (by decide +kernel) (pa_cons (pe_ix ix_tup (pv 4) pe_int (fun _ _ => rfl)) pa_nil)) (nomark _)) (pss_one (ps_expr (pe_bm PySem.F.plainAttrs_list PySem.F.slot_list_append PySem.F.type_list_append mt_append (pe_fld (pv 0) rfl) (pa_cons (pe_tup (pa_cons (pe_mt0 Mplace hr (by omega) (pv 2)) (pa_cons pe_str pa_nil))) pa_nil)))) pss_nil) (pss_one (ps_expr (pe_cX thruX Xcompare_rows hr (by omega) (by rfl) (pa_cons (pv 0) (pa_cons (pe_mk KSide hr (by omega) (by rfl) (pa_cons (pe_ix ix_tup (pv 3) pe_int (fun _ _ => rfl)) (pa_cons (pe_mt0 Mplace hr (by omega) (pv 1)) pa_nil))) (pa_cons (pe_mk KSide hr (by omega) (by rfl) (pa_cons (pe_ix ix_tup (pv 4) pe_int (fun _ _ => rfl)) (pa_cons (pe_mt0 Mplace hr (by omega) (pv 2)) pa_nil))) pa_nil)))))))))))), ?_⟩
    refine ⟨_, rfl, r, dxr, _, rfl, S.hd, rfl, r, dxr, rl, pr, i1, k1, ts, _, G, rfl, S.hd, S.s, tr, ht1, fun v1 hv1 => ?_⟩
    refine ⟨_, rfl, n, dxn, _, rfl, S.hd2, rfl, n, dxn, nl, pn, i2, k2, us, _, G, rfl, S.hd2, S.s, tn, ht2, fun v2 hv2 => ?_⟩
    cases hN with
    | @tx x =>
      obtain ⟨o1, rfl, h1⟩ := n_tx hv1
      have h1' := S.s _ _ h1
      obtain ⟨o2, rfl, h2⟩ := n_tx hv2
      have h2' := S.s _ _ h2
      simp only [ndN] at psl ltl
      refine ⟨_, rfl, o1, _, _, _, rfl, rfl, SqT.of h1', at_0, _, rfl, o2, _, _, _, rfl, rfl, SqT.of h2', at_0, rfl, _, rfl, iteF' (by decide) ⟨_, rfl, o1, _, _, _, rfl, rfl, SqT.of h1', at_0, rfl, _, rfl, iteF' (by decide) (iteF ?_)⟩⟩
      refine ⟨_, rfl, c, _, dx, _, _, rfl, S.s _ _ hc, T.cl_Comparison, T.n_Comparison_partners, fp, .inl ⟨rfl, _, SqL.of S.up3.hd⟩, _, rfl, r, dxr, _, rfl, S.hd, rfl, r, dxr, rl, pr, i1, k1, p, rfl, S.hd, S.s _ _ hpr, by omega, fun t1 ht1 => ?_⟩
      have Sa := S.alloc (o := .tup ((p ++ [(k1 : Int)]).map V.int)) ht1
      have ga := S.grow (o := .tup ((p ++ [(k1 : Int)]).map V.int)) ht1
      refine ⟨_, rfl, n, dxn, _, rfl, Sa.hd2, rfl, n, dxn, nl, pn, i2, k2, q, rfl, Sa.hd2, Sa.s _ _ (ga _ _ hpn), by omega, fun t2 ht2 => ⟨by show 2 ≤ sizeLine; decide, fun t3 ht3 => ?_⟩⟩
      obtain ⟨G2, S2, g2, e2⟩ := addP S ht1 ht2 ht3
      refine ⟨pl, ps, _, rfl, rfl, ((Sa.alloc ht2).alloc ht3).up3.hd, by omega, ?_⟩
      generalize upd (upd (upd (upd H t1 (.tup ((p ++ [(k1 : Int)]).map V.int))) t2 (.tup ((q ++ [(k2 : Int)]).map V.int))) t3 (.tup [.ref t1, .ref t2])) pl (.lst (ps ++ [.ref t3])) = H2 at S2 ⊢
      clear ht1 ht2 ht3 Sa ga
      have h12 := S2.s _ _ (g2 _ _ h1)
      have h22 := S2.s _ _ (g2 _ _ h2)
      refine ⟨_, rfl, o1, _, _, _, rfl, rfl, SqT.of h12, at_0, rfl, _, rfl, iteT' (by decide) ?_⟩
      refine ⟨_, rfl, o1, _, _, _, rfl, rfl, SqT.of h12, at_1, _, rfl, o2, _, _, _, rfl, rfl, SqT.of h22, at_1, rfl, _, rfl, ?_⟩
      refine iteF' (by simp) ?_
      exact out _ rfl [.ref t3] G2 H2 (by simpa [ltL] using S2) g2 (.cons e2 .nil)
    | @el N' _ _ _ _ t as ks1 ls1 z nd al hR =>
      obtain rfl := hsp N' rfl
      obtain ⟨o1, pa, pk1, rfl, h1, hb1, tk1⟩ := n_el hv1
      have h1' := S.s _ _ h1
      obtain ⟨o2, pb, pk2, rfl, h2, hb2, tk2⟩ := n_el hv2
      have h2' := S.s _ _ h2
      obtain ⟨sd1, sd2⟩ := sd
      obtain ⟨se1, se2⟩ := se
      simp only [ndN] at psl ltl sd1 se1
      simp only [dpN] at sd2 se2
      refine ⟨_, rfl, o1, _, _, _, rfl, rfl, SqT.of h1', at_0, _, rfl, o2, _, _, _, rfl, rfl, SqT.of h2', at_0, rfl, _, rfl, iteF' (by decide) ⟨_, rfl, o1, _, _, _, rfl, rfl, SqT.of h1', at_0, rfl, _, rfl, iteT' (by decide) ⟨_, rfl, o1, _, _, _, rfl, rfl, SqT.of h1', at_1, _, rfl, o2, _, _, _, rfl, rfl, SqT.of h2', at_1, rfl, _, rfl, ?_⟩⟩⟩
      refine iteF' (by simp) ?_
      refine ⟨_, rfl, c, _, dx, _, _, rfl, S.s _ _ hc, T.cl_Comparison, T.n_Comparison_partners, fp, .inl ⟨rfl, _, SqL.of S.up3.hd⟩, _, rfl, r, dxr, _, rfl, S.hd, rfl, r, dxr, rl, pr, i1, k1, p, rfl, S.hd, S.s _ _ hpr, by omega, fun t1 ht1 => ?_⟩
      have Sa := S.alloc (o := .tup ((p ++ [(k1 : Int)]).map V.int)) ht1
      have ga := S.grow (o := .tup ((p ++ [(k1 : Int)]).map V.int)) ht1
      refine ⟨_, rfl, n, dxn, _, rfl, Sa.hd2, rfl, n, dxn, nl, pn, i2, k2, q, rfl, Sa.hd2, Sa.s _ _ (ga _ _ hpn), by omega, fun t2 ht2 => ⟨by show 2 ≤ sizeLine; decide, fun t3 ht3 => ?_⟩⟩
      obtain ⟨G2, S2, g2, e2⟩ := addP S ht1 ht2 ht3
      refine ⟨pl, ps, _, rfl, rfl, ((Sa.alloc ht2).alloc ht3).up3.hd, by omega, ?_⟩
      generalize upd (upd (upd (upd H t1 (.tup ((p ++ [(k1 : Int)]).map V.int))) t2 (.tup ((q ++ [(k2 : Int)]).map V.int))) t3 (.tup [.ref t1, .ref t2])) pl (.lst (ps ++ [.ref t3])) = H2 at S2 ⊢
      clear ht1 ht2 ht3 Sa ga
      have h12 := S2.s _ _ (g2 _ _ h1)
      have h22 := S2.s _ _ (g2 _ _ h2)
      refine ⟨_, rfl, o1, _, _, _, rfl, rfl, SqT.of h12, at_0, rfl, _, rfl, iteF' (by decide) ?_⟩
      have ma : mergeK [] (kvT as) = kvT as := by
        have := mergeK_nd (kvT as) [] (by rw [List.nil_append]; exact kvT_nd nd)
        rwa [List.nil_append] at this
      have hb12 := (hb1.same g2).same S2.s
      have hb22 := (hb2.same g2).same S2.s
      obtain ⟨ps1, hps1, kp1⟩ := kvs_at (K := K) hb12
      obtain ⟨ps2, hps2, kp2⟩ := kvs_at (K := K) hb22
      refine ⟨fun σ' H' => ∃ (G4 : Hp), Sb G4 H' ((r, sdO C.Side dxr rl i1 pr k1) :: (n, sdO C.Side dxn nl i2 pn k2) :: (ll, .lst lts) :: (pl, .lst (ps ++ [.ref t3])) :: M) ∧ Same G2 G4 ∧ σ' = [some (.ref c), some (.ref r), some (.ref n), some (.ref o1), some (.ref o2)], ?_, ?_⟩
      · refine ⟨_, rfl, o1, _, _, _, rfl, rfl, SqT.of h12, at_2, pa, ps1, kvT as, rfl, SqL.of hps1, kp1, fun d1 hd1 => ?_⟩
        rw [ma]
        have S5 := S2.alloc (o := .dK (kvT as)) hd1
        have g5 := S2.grow (o := .dK (kvT as)) hd1
        have hd5 : upd G2 d1 (.dK (kvT as)) d1 = some (.dK (kvT as)) := upd_same
        have n1 : Same H2 (upd H2 d1 (.dK (kvT as))) := Sm.new hd1
        generalize upd H2 d1 (.dK (kvT as)) = H5 at S5 n1 ⊢
        generalize upd G2 d1 (.dK (kvT as)) = G5 at S5 g5 hd5
        refine ⟨_, rfl, o2, _, _, _, rfl, rfl, SqT.of (n1 _ _ h22), at_2, pb, ps2, kvT as, rfl, SqL.of (n1 _ _ hps2), Paired.mono (fun _ _ z => sqt_sameT z n1) kp2, fun d2 hd2 => ?_⟩
        rw [ma]
        have S7 := S5.alloc (o := .dK (kvT as)) hd2
        have g7 := S5.grow (o := .dK (kvT as)) hd2
        have hd7 : upd G5 d2 (.dK (kvT as)) d2 = some (.dK (kvT as)) := upd_same
        generalize upd H5 d2 (.dK (kvT as)) = H7 at S7 ⊢
        generalize upd G5 d2 (.dK (kvT as)) = G7 at S7 g7 hd7
        refine ⟨d1, d2, kvT as, kvT as, rfl, rfl, S7.s _ _ (g7 _ _ hd5), S7.s _ _ hd7, kvT_txt, kvT_val nd, _, rfl, ?_⟩
        rw [dict_att nd nd]
        exact iteF' (by rw [attD_self]) ⟨G7, S7, Same.trans g5 g7, rfl⟩
      rintro σ' H8 ⟨G8, S8, g28, rfl⟩
      have g08 := Same.trans g2 g28
      have h18 := S8.s _ _ (g08 _ _ h1)
      have h28 := S8.s _ _ (g08 _ _ h2)
      refine ⟨_, rfl, _, rfl, o1, _, _, _, rfl, rfl, SqT.of h18, at_3, _, rfl, r, dxr, _, rfl, S8.hd, rfl, r, dxr, rl, pr, i1, k1, p, rfl, S8.hd, S8.s _ _ (g08 _ _ hpr), by omega, fun t6 ht6 => ?_⟩
      have S9 := S8.alloc (o := .tup ((p ++ [(k1 : Int)]).map V.int)) ht6
      have g9 := S8.grow (o := .tup ((p ++ [(k1 : Int)]).map V.int)) ht6
      have hp9 : PathA (upd G8 t6 (.tup ((p ++ [(k1 : Int)]).map V.int))) t6 (p ++ [(k1 : Int)]) := upd_same
      generalize upd H8 t6 (.tup ((p ++ [(k1 : Int)]).map V.int)) = H9 at S9 ⊢
      generalize upd G8 t6 (.tup ((p ++ [(k1 : Int)]).map V.int)) = G9 at S9 g9 hp9
      refine fun x1 dx1 hx1 hdx1 hne1 => ?_
      have SA := (S9.alloc (o := .own x1) hdx1).add (t := x1) (o := .ins C.Side dx1 []) (by rw [upd_ne hne1.symm]; exact hx1)
      have gA := S9.grow (o := .own x1) hdx1
      have g0A := Same.trans g08 (Same.trans g9 gA)
      have ad1 := adS_dp ks1
      have ad2 := adS_dp ls1
      refine ⟨x1, dx1, pk1, t6, ks1, _, _, rfl, SA, tk1.same g0A, by omega, by omega, fun rl1 GB HB SB gB tr1 => ⟨rfl, ?_⟩⟩
      have g0B := Same.trans g0A gB
      have h2B := SB.s _ _ (g0B _ _ h2)
      have hpB := gB _ _ (gA _ _ hp9)
      refine ⟨_, rfl, o2, _, _, _, rfl, rfl, SqT.of h2B, at_3, _, rfl, n, dxn, _, rfl, SB.up2.hd, rfl, n, dxn, nl, pn, i2, k2, q, rfl, SB.up2.hd, SB.s _ _ (g0B _ _ hpn), by omega, fun t7 ht7 => ?_⟩
      have SC := SB.alloc (o := .tup ((q ++ [(k2 : Int)]).map V.int)) ht7
      have gC := SB.grow (o := .tup ((q ++ [(k2 : Int)]).map V.int)) ht7
      have hpC : PathA (upd GB t7 (.tup ((q ++ [(k2 : Int)]).map V.int))) t7 (q ++ [(k2 : Int)]) := upd_same
      generalize upd HB t7 (.tup ((q ++ [(k2 : Int)]).map V.int)) = HC at SC ⊢
      generalize upd GB t7 (.tup ((q ++ [(k2 : Int)]).map V.int)) = GC at SC gC hpC
      refine fun x2 dx2 hx2 hdx2 hne2 => ?_
      have SD := (SC.alloc (o := .own x2) hdx2).add (t := x2) (o := .ins C.Side dx2 []) (by rw [upd_ne hne2.symm]; exact hx2)
      have gD := SC.grow (o := .own x2) hdx2
      have g0D := Same.trans g0B (Same.trans gC gD)
      refine ⟨x2, dx2, pk2, t7, ls1, _, _, rfl, SD, tk2.same g0D, by omega, by omega, fun rl2 GE HE SE gE tr2 => ⟨rfl, ?_⟩⟩
      have g0E := Same.trans g0D gE
      have gBE := Same.trans gC (Same.trans gD gE)
      have SF := SE.toKids
      have wk := wLk_S ks1
      have l1 := tkS_len ks1
      have l2 := tkS_len ls1
      refine ⟨c, x1, x2, dx, dx1, dx2, dl, ll, pl, rl1, rl2, t6, t7, lts, ps ++ [.ref t3], tkS ks1, tkS ls1, (p ++ [(k1 : Int)]), (q ++ [(k2 : Int)]), z, GE, _, rfl, SF, g0E _ _ hc, tr1.same gBE, tr2, szT_S ks1 (by omega) (by omega), szT_S ls1 (by omega) (by omega), by omega, by omega, gBE _ _ hpB, gE _ _ (gD _ _ hpC), hR, by rw [List.length_append, List.length_singleton]; omega, by rw [List.length_append, List.length_singleton]; omega, by rw [List.length_append, List.length_singleton]; omega, by omega, fun es hz z1 z2 ps2 GG HG SG gG eqp => ?_, fun hz => outE (by rw [hz]; rfl)⟩
      subst hz
      obtain ⟨SH, gH⟩ := SG.drop
      obtain ⟨SI, gI⟩ := SH.drop
      have SJ := SI.back
      rw [List.append_assoc] at SJ
      have gHI := Same.trans gH gI
      have g8E := Same.trans g9 (Same.trans gA (Same.trans gB gBE))
      have g8Z := Same.trans g8E (Same.trans gG gHI)
      refine out _ rfl _ _ _ SJ (Same.trans g08 g8Z) ?_
      exact .cons ((e2.same g28).same g8Z) (eqp.same gHI)
end
end VL

set_option Elab.async false
set_option linter.all false
set_option pp.maxSteps 700
set_option maxRecDepth 100000
set_option maxHeartbeats 4000000
namespace VL
open PySem PySem.Spec PyProof.Rows L2
section
variable {P : Program} {w : World} {K : PySem.W.Frag} {mg : Str → Option Value} {base : Heap} {C : Ad}
theorem rows_S (T : Txt K w mg C) {N : Nat} (Xcompare_nodes : CalX P w K mg base (2 * N + 19) "compare_nodes" (spNodesW C N)) : CalX P w K mg base (2 * N + 20) "compare_rows" (spRowsW C N) := by
  have Mword := ok_word_ (P := P) (base := base) T
  have Mplace := ok_place (P := P) (base := base) T
  have Mstep := ok_step (P := P) (base := base) T
  have Mdrop_marks := ok_dropM (P := P) (base := base) T
  have Xcompare_awaits := ok_awaits (P := P) (base := base) T
  refine calX_of T.d_compare_rows sc_compare_rows (fun vs H Q E h => ?_) (fun f cdv A outer s H vs Q E hr h => ?_)
  · obtain ⟨c, r, n, dx, dxr, dxn, dl, ll, pl, rl, nl, pr, pn, lts, ps, ts, us, p, q, z, G, M, rfl, _⟩ := h
    rfl
  · obtain ⟨c, r, n, dx, dxr, dxn, dl, ll, pl, rl, nl, pr, pn, lts, ps, ts, us, p, q, z, G, M, rfl, S, hc, tr0, tn0, szr0, szn0, lr0, ln0, hpr, hpn, hR, pN, qN, psl, ltl, out, outE⟩ := h
    have big : 10000000 < sizeLine := by decide
    refine ⟨_, (pss_one (ps_while (passes_of rfl) (PW.pt (pw_or (pt_truth (pe_mt0 Mword hr (by omega) (pv 1)) (fun _ => rfl)) (pw_or1 (pt_truth (pe_mt0 Mword hr (by omega) (pv 2)) (fun _ => rfl))))) (pss_cons (ps_set (i := 3) sc_compare_rows.nd rfl (Or.inl rfl) (pe_tup (pa_cons (pe_mt0 Mword hr (by omega) (pv 1)) (pa_cons (pe_mt0 Mword hr (by omega) (pv 2)) pa_nil)))) (pss_one (ps_if (pt_cmpR (op_eqP rfl hr.units) (pv 3) (pe_tup (pa_cons pe_str (pa_cons pe_str pa_nil))) (nomark _)) (pss_one (ps_expr (pe_cX thruX Xcompare_awaits hr (by omega) (by rfl) (pa_cons (pv 0) (pa_cons (pv 1) (pa_cons (pv 2) pa_nil)))))) (pss_one (ps_if (pt_cmpR op_in_seq pe_str (pv 3) rfl) (pss_cons (ps_expr (pe_mt0 Mdrop_marks hr (by omega) (pv 1))) (pss_one (ps_expr (pe_mt0 Mdrop_marks hr (by omega) (pv 2))))) (pss_one (ps_if (pt_cmpR (op_eqP rfl hr.units) (pv 3) (pe_tup (pa_cons pe_str (pa_cons pe_str pa_nil))) (nomark _)) (pss_cons (ps_expr (pe_cX thruX Xcompare_nodes hr (by omega) (by rfl) (pa_cons (pv 0) (pa_cons (pv 1) (pa_cons (pv 2) pa_nil))))) (pss_cons (ps_expr (pe_mt0 Mstep hr (by omega) (pv 1))) (pss_one (ps_expr (pe_mt0 Mstep hr (by omega) (pv 2)))))) (pss_one (ps_if (pt_cmpR op_eq (pe_ix ix_tup (pv 3) pe_int (fun _ _ => rfl)) pe_str (nomark _)) (pss_cons (ps_expr (pe_bm PySem.F.plainAttrs_list PySem.F.slot_list_append PySem.F.type_list_append mt_append (pe_fld (pv 0) rfl) (pa_cons (pe_tup (pa_cons (pe_mt0 Mplace hr (by omega) (pv 2)) (pa_cons pe_str pa_nil))) pa_nil))) (pss_one (ps_expr (pe_mt0 Mstep hr (by omega) (pv 2))))) (pss_one (ps_if (pt_cmpR op_eq (pe_ix ix_tup (pv 3) pe_int (fun _ _ => rfl)) pe_str (nomark _)) (pss_cons (ps_expr (pe_bm PySem.F.plainAttrs_list PySem.F.slot_list_append PySem.F.type_list_append mt_append (pe_fld (pv 0) rfl) (pa_cons (pe_tup (pa_cons (pe_mt0 Mplace hr (by omega) (pv 1)) (pa_cons pe_str pa_nil))) pa_nil))) (pss_one (ps_expr (pe_mt0 Mstep hr (by omega) (pv 1))))) (pss_cons (ps_expr (pe_mt0 Mstep hr (by omega) (pv 1))) (pss_one (ps_expr (pe_mt0 Mstep hr (by omega) (pv 2)))))))))))))))))), ?_⟩
    refine ⟨fun m σ H' => ∃ (rl' nl' : Addr) (ts' us' : List Tok) (i1 k1 i2 k2 : Nat) (z' : Option (List Ew)) (es : List Ew) (ps1 : List V) (G' : Hp) (y3 : Option V), m = (ts'.length - i1) + (us'.length - i2) ∧ i1 ≤ ts'.length ∧ i2 ≤ us'.length ∧ Sb G' H' ((r, sdO C.Side dxr rl' i1 pr k1) :: (n, sdO C.Side dxn nl' i2 pn k2) :: (ll, .lst (lts ++ (ltL es).map V.int)) :: (pl, .lst (ps ++ ps1)) :: M) ∧ Same G G' ∧ TokA G' rl' ts' ∧ TokA G' nl' us' ∧ (∀ t ∈ ts', szT t) ∧ (∀ t ∈ us', szT t) ∧ ts'.length ≤ 100000 ∧ us'.length ≤ 100000 ∧ R N p q k1 k2 (ts'.drop i1) (us'.drop i2) z' ∧ z = z'.map (es ++ ·) ∧ DqAll G' ps1 (prD es) ∧ es.length + wLk (ts'.drop i1) ≤ wLk ts ∧ σ = [some (.ref c), some (.ref r), some (.ref n), y3], ⟨_, rl, nl, ts, us, 0, 0, 0, 0, z, [], [], G, none, rfl, Nat.zero_le _, Nat.zero_le _, ?_, Same.refl _, tr0, tn0, szr0, szn0, lr0, ln0, hR, by cases z <;> simp, .nil, by simp, rfl⟩, ?_⟩
    · show Sb G H ((r, sdO C.Side dxr rl 0 pr 0) :: (n, sdO C.Side dxn nl 0 pn 0) :: (ll, .lst (lts ++ [])) :: (pl, .lst (ps ++ [])) :: M)
      rw [List.append_nil, List.append_nil]
      exact S
    rintro m σ H1 ⟨rl', nl', ts', us', i1, k1, i2, k2, z', es, ps1, G1, y3, rfl, il1, il2, S1, g1, tr, tn, szr, szn, l1, l2, hR1, hz, eqp, wl, rfl⟩
    have okr : ∀ t ∈ ts', okT t := fun t ht => szT_ok (szr t ht)
    have okn : ∀ t ∈ us', okT t := fun t ht => szT_ok (szn t ht)
    have pl1 := eqp.len
    have pl2 := prD_len es
    have ll2 := ltL_len es
    obtain ⟨a, er⟩ : ∃ a, ts'.drop i1 = a := ⟨_, rfl⟩
    obtain ⟨b, eu⟩ : ∃ b, us'.drop i2 = b := ⟨_, rfl⟩
    have wd1 : ∀ {t : Tok} {a' : List Tok}, ts'.drop i1 = t :: a' → wordT ts' i1 = kwdT t ∧ ts'[i1]? = some t ∧ ts'.drop (i1 + 1) = a' ∧ i1 < ts'.length := fun {t a'} h => by
      obtain ⟨h1, h2⟩ := drop_tok h
      exact ⟨by unfold wordT; rw [h1], h1, h2, (List.getElem?_eq_some_iff.mp h1).1⟩
    have wd2 : ∀ {t : Tok} {a' : List Tok}, us'.drop i2 = t :: a' → wordT us' i2 = kwdT t ∧ us'[i2]? = some t ∧ us'.drop (i2 + 1) = a' ∧ i2 < us'.length := fun {t a'} h => by
      obtain ⟨h1, h2⟩ := drop_tok h
      exact ⟨by unfold wordT; rw [h1], h1, h2, (List.getElem?_eq_some_iff.mp h1).1⟩
    have wn1 : ts'.drop i1 = [] → wordT ts' i1 = "" := fun h => by
      have : ts'.length ≤ i1 := List.drop_eq_nil_iff.mp h
      unfold wordT
      rw [List.getElem?_eq_none this]
    have wn2 : us'.drop i2 = [] → wordT us' i2 = "" := fun h => by
      have : us'.length ≤ i2 := List.drop_eq_nil_iff.mp h
      unfold wordT
      rw [List.getElem?_eq_none this]
    rw [er] at wl
    rw [er, eu] at hR1
    cases hR1 with
    | nil =>
      have ew1 := wn1 er
      have ew2 := wn2 eu
      refine ⟨_, rfl, r, dxr, _, rfl, S1.hd, rfl, r, dxr, rl', pr, i1, k1, ts', rfl, S1.hd, tr.same S1.s, okr, il1, ?_⟩
      rw [ew1]
      refine ⟨false, ⟨by decide, by decide⟩, iteF' rfl ?_⟩
      refine ⟨_, rfl, n, dxn, _, rfl, S1.hd2, rfl, n, dxn, nl', pn, i2, k2, us', rfl, S1.hd2, tn.same S1.s, okn, il2, ?_⟩
      rw [ew2]
      refine ⟨false, ⟨by decide, by decide⟩, iteF' rfl ?_⟩
      have hz : z = some es := by rw [hz]; simp
      exact out es hz _ _ ps1 G1 _ S1 g1 eqp
    | @en _ _ _ _ _ ra sa _ hr' =>
      obtain ⟨ew1, t1_, d1_, i1l⟩ := wd1 er
      obtain ⟨ew2, t2_, d2_, i2l⟩ := wd2 eu
      have ew1 : wordT ts' i1 = "end" := ew1
      have ew2 : wordT us' i2 = "end" := ew2
      refine ⟨_, rfl, r, dxr, _, rfl, S1.hd, rfl, r, dxr, rl', pr, i1, k1, ts', rfl, S1.hd, tr.same S1.s, okr, il1, ?_⟩
      rw [ew1]
      refine ⟨true, ⟨by decide, by decide⟩, iteT' rfl (iteT' rfl ?_)⟩
      refine ⟨_, fun σ' H' h => h, ?_⟩
      refine ⟨_, rfl, r, dxr, _, rfl, S1.hd, rfl, r, dxr, rl', pr, i1, k1, ts', rfl, S1.hd, tr.same S1.s, okr, il1, ?_⟩
      rw [ew1]
      refine ⟨_, rfl, n, dxn, _, rfl, S1.hd2, rfl, n, dxn, nl', pn, i2, k2, us', rfl, S1.hd2, tn.same S1.s, okn, il2, ?_⟩
      rw [ew2]
      refine ⟨by show 2 ≤ sizeLine; decide, fun t ht => ?_⟩
      have S2 := S1.alloc (o := (.tup [V.str "end", V.str "end"])) ht
      have g2 := S1.grow (o := (.tup [V.str "end", V.str "end"])) ht
      have ht2 : upd G1 t (.tup [V.str "end", V.str "end"]) t = some (.tup [V.str "end", V.str "end"]) := upd_same
      generalize upd G1 t (.tup [V.str "end", V.str "end"]) = G2 at S2 g2 ht2
      generalize upd H1 t (.tup [V.str "end", V.str "end"]) = H2 at S2 ⊢
      refine ⟨_, rfl, by show 2 ≤ sizeLine; decide, fun t1 ht1 => ?_⟩
      have S3 := S2.alloc (o := (.tup [V.str "await", V.str "await"])) ht1
      have g3 := S2.grow (o := (.tup [V.str "await", V.str "await"])) ht1
      have h31 : upd H2 t1 (.tup [V.str "await", V.str "await"]) t1 = some (.tup [V.str "await", V.str "await"]) := upd_same
      generalize upd H2 t1 (.tup [V.str "await", V.str "await"]) = H3 at S3 h31 ⊢
      generalize upd G2 t1 (.tup [V.str "await", V.str "await"]) = G3 at S3 g3
      have hw3 := S3.s _ _ (g3 _ _ ht2)
      refine ⟨.tuple [.str "end", .str "end"], .tuple [.str "await", .str "await"], .tup (SqT.of hw3) (.cons (.str _) (.cons (.str _) .nil)), .tup (SqT.of h31) (.cons (.str _) (.cons (.str _) .nil)), rfl, rfl, by decide, _, rfl, iteF' (by decide) ?_⟩
      refine ⟨_, rfl, t, _, rfl, .inr (SqT.of hw3), rfl, rfl, _, rfl, iteF' (by decide) ?_⟩
      refine ⟨_, rfl, by show 2 ≤ sizeLine; decide, fun t2 ht2b => ?_⟩
      have S4 := S3.alloc (o := (.tup [V.str "node", V.str "node"])) ht2b
      have g4 := S3.grow (o := (.tup [V.str "node", V.str "node"])) ht2b
      have h41 : upd H3 t2 (.tup [V.str "node", V.str "node"]) t2 = some (.tup [V.str "node", V.str "node"]) := upd_same
      generalize upd H3 t2 (.tup [V.str "node", V.str "node"]) = H4 at S4 h41 ⊢
      generalize upd G3 t2 (.tup [V.str "node", V.str "node"]) = G4 at S4 g4
      have hw4 := S4.s _ _ (g4 _ _ (g3 _ _ ht2))
      refine ⟨.tuple [.str "end", .str "end"], .tuple [.str "node", .str "node"], .tup (SqT.of hw4) (.cons (.str _) (.cons (.str _) .nil)), .tup (SqT.of h41) (.cons (.str _) (.cons (.str _) .nil)), rfl, rfl, by decide, _, rfl, iteF' (by decide) ?_⟩
      have g14 := Same.trans g2 (Same.trans g3 g4)
      refine ⟨_, rfl, t, _, _, _, rfl, rfl, SqT.of hw4, at_1, rfl, _, rfl, iteF' (by decide) ?_⟩
      refine ⟨_, rfl, t, _, _, _, rfl, rfl, SqT.of hw4, at_0, rfl, _, rfl, iteF' (by decide) ?_⟩
      refine ⟨_, rfl, r, dxr, _, rfl, S4.hd, rfl, r, dxr, rl', pr, i1, k1, ts', _, G4, _, rfl, S4, tr.same g14, okr, t1_, fun H5 S5 => ?_⟩
      refine ⟨_, rfl, n, dxn, _, rfl, S5.hd2, rfl, n, dxn, nl', pn, i2, k2, us', _, G4, _, rfl, S5.swap, tn.same g14, okn, t2_, fun H6 S6 => ?_⟩
      refine ⟨ts'.length - (i1 + 1) + (us'.length - (i2 + 1)), by omega, rl', nl', ts', us', i1 + 1, k1, i2 + 1, k2, z', es, ps1, G4, _, rfl, by omega, by omega, S6.swap, Same.trans g1 g14, tr.same g14, tn.same g14, szr, szn, l1, l2, by rw [d1_, d2_]; exact hr', hz, DqAll.same g14 eqp, ?_, rfl⟩
      rw [d1_]
      simp only [wLk, wTk] at wl
      omega
    | @aw _ _ _ _ _ ra sa _ m1 m2 hm hr' =>
      obtain ⟨ew1, t1_, d1_, i1l⟩ := wd1 er
      obtain ⟨ew2, t2_, d2_, i2l⟩ := wd2 eu
      have ew1 : wordT ts' i1 = "await" := ew1
      have ew2 : wordT us' i2 = "await" := ew2
      refine ⟨_, rfl, r, dxr, _, rfl, S1.hd, rfl, r, dxr, rl', pr, i1, k1, ts', rfl, S1.hd, tr.same S1.s, okr, il1, ?_⟩
      rw [ew1]
      refine ⟨true, ⟨by decide, by decide⟩, iteT' rfl (iteT' rfl ?_)⟩
      refine ⟨_, fun σ' H' h => h, ?_⟩
      refine ⟨_, rfl, r, dxr, _, rfl, S1.hd, rfl, r, dxr, rl', pr, i1, k1, ts', rfl, S1.hd, tr.same S1.s, okr, il1, ?_⟩
      rw [ew1]
      refine ⟨_, rfl, n, dxn, _, rfl, S1.hd2, rfl, n, dxn, nl', pn, i2, k2, us', rfl, S1.hd2, tn.same S1.s, okn, il2, ?_⟩
      rw [ew2]
      refine ⟨by show 2 ≤ sizeLine; decide, fun t ht => ?_⟩
      have S2 := S1.alloc (o := (.tup [V.str "await", V.str "await"])) ht
      have g2 := S1.grow (o := (.tup [V.str "await", V.str "await"])) ht
      have ht2 : upd G1 t (.tup [V.str "await", V.str "await"]) t = some (.tup [V.str "await", V.str "await"]) := upd_same
      generalize upd G1 t (.tup [V.str "await", V.str "await"]) = G2 at S2 g2 ht2
      generalize upd H1 t (.tup [V.str "await", V.str "await"]) = H2 at S2 ⊢
      refine ⟨_, rfl, by show 2 ≤ sizeLine; decide, fun t1 ht1 => ?_⟩
      have S3 := S2.alloc (o := (.tup [V.str "await", V.str "await"])) ht1
      have g3 := S2.grow (o := (.tup [V.str "await", V.str "await"])) ht1
      have h31 : upd H2 t1 (.tup [V.str "await", V.str "await"]) t1 = some (.tup [V.str "await", V.str "await"]) := upd_same
      generalize upd H2 t1 (.tup [V.str "await", V.str "await"]) = H3 at S3 h31 ⊢
      generalize upd G2 t1 (.tup [V.str "await", V.str "await"]) = G3 at S3 g3
      have hw3 := S3.s _ _ (g3 _ _ ht2)
      refine ⟨.tuple [.str "await", .str "await"], .tuple [.str "await", .str "await"], .tup (SqT.of hw3) (.cons (.str _) (.cons (.str _) .nil)), .tup (SqT.of h31) (.cons (.str _) (.cons (.str _) .nil)), rfl, rfl, by decide, _, rfl, iteT' (by decide) ?_⟩
      have g13 := Same.trans g2 g3
      refine ⟨_, rfl, _, rfl, _, rfl, c, r, n, dx, dxr, dxn, dl, ll, pl, rl', nl', pr, pn, lts ++ (ltL es).map V.int, i1, k1, i2, k2, ts', us', _, _, m1, m2, G3, _, rfl, S3, g13 _ _ (g1 _ _ hc), tr.same g13, tn.same g13, okr, okn, er, eu, by rw [List.length_append, List.length_map]; omega, ?_⟩
      refine .inr (.inr ⟨hm, fun H6 S6 => ?_⟩)
      refine ⟨ts'.length - (i1 + 1) + (us'.length - (i2 + 1)), by omega, rl', nl', ts', us', i1 + 1, k1, i2 + 1, k2, z', es, ps1, G3, _, rfl, by omega, by omega, S6, Same.trans g1 g13, tr.same g13, tn.same g13, szr, szn, l1, l2, by rw [d1_, d2_]; exact hr', hz, DqAll.same g13 eqp, ?_, rfl⟩
      rw [d1_]
      simp only [wLk, wTk] at wl
      omega
    | @miss _ _ _ _ _ ra sa k0 =>
      obtain ⟨ew1, t1_, d1_, i1l⟩ := wd1 er
      obtain ⟨ew2, t2_, d2_, i2l⟩ := wd2 eu
      have ew1 : wordT ts' i1 = "await" := ew1
      have ew2 : wordT us' i2 = "await" := ew2
      refine ⟨_, rfl, r, dxr, _, rfl, S1.hd, rfl, r, dxr, rl', pr, i1, k1, ts', rfl, S1.hd, tr.same S1.s, okr, il1, ?_⟩
      rw [ew1]
      refine ⟨true, ⟨by decide, by decide⟩, iteT' rfl (iteT' rfl ?_)⟩
      refine ⟨_, fun σ' H' h => h, ?_⟩
      refine ⟨_, rfl, r, dxr, _, rfl, S1.hd, rfl, r, dxr, rl', pr, i1, k1, ts', rfl, S1.hd, tr.same S1.s, okr, il1, ?_⟩
      rw [ew1]
      refine ⟨_, rfl, n, dxn, _, rfl, S1.hd2, rfl, n, dxn, nl', pn, i2, k2, us', rfl, S1.hd2, tn.same S1.s, okn, il2, ?_⟩
      rw [ew2]
      refine ⟨by show 2 ≤ sizeLine; decide, fun t ht => ?_⟩
      have S2 := S1.alloc (o := (.tup [V.str "await", V.str "await"])) ht
      have g2 := S1.grow (o := (.tup [V.str "await", V.str "await"])) ht
      have ht2 : upd G1 t (.tup [V.str "await", V.str "await"]) t = some (.tup [V.str "await", V.str "await"]) := upd_same
      generalize upd G1 t (.tup [V.str "await", V.str "await"]) = G2 at S2 g2 ht2
      generalize upd H1 t (.tup [V.str "await", V.str "await"]) = H2 at S2 ⊢
      refine ⟨_, rfl, by show 2 ≤ sizeLine; decide, fun t1 ht1 => ?_⟩
      have S3 := S2.alloc (o := (.tup [V.str "await", V.str "await"])) ht1
      have g3 := S2.grow (o := (.tup [V.str "await", V.str "await"])) ht1
      have h31 : upd H2 t1 (.tup [V.str "await", V.str "await"]) t1 = some (.tup [V.str "await", V.str "await"]) := upd_same
      generalize upd H2 t1 (.tup [V.str "await", V.str "await"]) = H3 at S3 h31 ⊢
      generalize upd G2 t1 (.tup [V.str "await", V.str "await"]) = G3 at S3 g3
      have hw3 := S3.s _ _ (g3 _ _ ht2)
      refine ⟨.tuple [.str "await", .str "await"], .tuple [.str "await", .str "await"], .tup (SqT.of hw3) (.cons (.str _) (.cons (.str _) .nil)), .tup (SqT.of h31) (.cons (.str _) (.cons (.str _) .nil)), rfl, rfl, by decide, _, rfl, iteT' (by decide) ?_⟩
      have g13 := Same.trans g2 g3
      refine ⟨_, rfl, _, rfl, _, rfl, c, r, n, dx, dxr, dxn, dl, ll, pl, rl', nl', pr, pn, lts ++ (ltL es).map V.int, i1, k1, i2, k2, ts', us', _, _, none, (some k0), G3, _, rfl, S3, g13 _ _ (g1 _ _ hc), tr.same g13, tn.same g13, okr, okn, er, eu, by rw [List.length_append, List.length_map]; omega, ?_⟩
      exact .inl ⟨rfl, by simp, outE (by rw [hz]; rfl)⟩
    | @late _ _ _ _ _ ksl lsl ra sa z2 k0 hr' =>
      obtain ⟨ew1, t1_, d1_, i1l⟩ := wd1 er
      obtain ⟨ew2, t2_, d2_, i2l⟩ := wd2 eu
      have ew1 : wordT ts' i1 = "await" := ew1
      have ew2 : wordT us' i2 = "await" := ew2
      refine ⟨_, rfl, r, dxr, _, rfl, S1.hd, rfl, r, dxr, rl', pr, i1, k1, ts', rfl, S1.hd, tr.same S1.s, okr, il1, ?_⟩
      rw [ew1]
      refine ⟨true, ⟨by decide, by decide⟩, iteT' rfl (iteT' rfl ?_)⟩
      refine ⟨_, fun σ' H' h => h, ?_⟩
      refine ⟨_, rfl, r, dxr, _, rfl, S1.hd, rfl, r, dxr, rl', pr, i1, k1, ts', rfl, S1.hd, tr.same S1.s, okr, il1, ?_⟩
      rw [ew1]
      refine ⟨_, rfl, n, dxn, _, rfl, S1.hd2, rfl, n, dxn, nl', pn, i2, k2, us', rfl, S1.hd2, tn.same S1.s, okn, il2, ?_⟩
      rw [ew2]
      refine ⟨by show 2 ≤ sizeLine; decide, fun t ht => ?_⟩
      have S2 := S1.alloc (o := (.tup [V.str "await", V.str "await"])) ht
      have g2 := S1.grow (o := (.tup [V.str "await", V.str "await"])) ht
      have ht2 : upd G1 t (.tup [V.str "await", V.str "await"]) t = some (.tup [V.str "await", V.str "await"]) := upd_same
      generalize upd G1 t (.tup [V.str "await", V.str "await"]) = G2 at S2 g2 ht2
      generalize upd H1 t (.tup [V.str "await", V.str "await"]) = H2 at S2 ⊢
      refine ⟨_, rfl, by show 2 ≤ sizeLine; decide, fun t1 ht1 => ?_⟩
      have S3 := S2.alloc (o := (.tup [V.str "await", V.str "await"])) ht1
      have g3 := S2.grow (o := (.tup [V.str "await", V.str "await"])) ht1
      have h31 : upd H2 t1 (.tup [V.str "await", V.str "await"]) t1 = some (.tup [V.str "await", V.str "await"]) := upd_same
      generalize upd H2 t1 (.tup [V.str "await", V.str "await"]) = H3 at S3 h31 ⊢
      generalize upd G2 t1 (.tup [V.str "await", V.str "await"]) = G3 at S3 g3
      have hw3 := S3.s _ _ (g3 _ _ ht2)
      refine ⟨.tuple [.str "await", .str "await"], .tuple [.str "await", .str "await"], .tup (SqT.of hw3) (.cons (.str _) (.cons (.str _) .nil)), .tup (SqT.of h31) (.cons (.str _) (.cons (.str _) .nil)), rfl, rfl, by decide, _, rfl, iteT' (by decide) ?_⟩
      have g13 := Same.trans g2 g3
      refine ⟨_, rfl, _, rfl, _, rfl, c, r, n, dx, dxr, dxn, dl, ll, pl, rl', nl', pr, pn, lts ++ (ltL es).map V.int, i1, k1, i2, k2, ts', us', _, _, (some k0), none, G3, _, rfl, S3, g13 _ _ (g1 _ _ hc), tr.same g13, tn.same g13, okr, okn, er, eu, by rw [List.length_append, List.length_map]; omega, ?_⟩
      refine .inr (.inl ⟨k0, ksl, lsl, ra, sa, rfl, rfl, rfl, rfl, fun i1' i2' H6 e1 e2 b1 b2 S6 => ?_⟩)
      have c1 := congrArg List.length er
      have c2 := congrArg List.length eu
      have c3 := congrArg List.length e1
      have c4 := congrArg List.length e2
      simp only [List.length_drop, List.length_cons, List.length_append] at c1 c2 c3 c4
      refine ⟨ts'.length - i1' + (us'.length - i2'), by omega, rl', nl', ts', us', i1', k1 + cS ksl, i2', k2 + cS lsl, z2, es ++ [.lt k0], ps1, G3, _, rfl, b1, b2, ?_, Same.trans g1 g13, tr.same g13, tn.same g13, szr, szn, l1, l2, by rw [e1, e2]; exact hr', ?_, ?_, ?_, rfl⟩
      · rw [ltL_app, List.map_append, ← List.append_assoc]
        exact S6
      · rw [hz]
        cases z2 <;> simp
      · rw [prD_app]
        show DqAll _ _ (prD es ++ [])
        rw [List.append_nil]
        exact DqAll.same g13 eqp
      · rw [e1]
        simp only [wLk, wTk, wLk_app] at wl
        simp only [List.length_append, List.length_singleton]
        omega
    | @tx _ _ _ _ _ ra sa z2 x hr' =>
      obtain ⟨ew1, t1_, d1_, i1l⟩ := wd1 er
      obtain ⟨ew2, t2_, d2_, i2l⟩ := wd2 eu
      have ew1 : wordT ts' i1 = "node" := ew1
      have ew2 : wordT us' i2 = "node" := ew2
      have sz1 := (szr _ (List.mem_of_getElem? t1_)).2
      have sz2 := (szn _ (List.mem_of_getElem? t2_)).2
      simp only [wLk, wTk] at wl
      refine ⟨_, rfl, r, dxr, _, rfl, S1.hd, rfl, r, dxr, rl', pr, i1, k1, ts', rfl, S1.hd, tr.same S1.s, okr, il1, ?_⟩
      rw [ew1]
      refine ⟨true, ⟨by decide, by decide⟩, iteT' rfl (iteT' rfl ?_)⟩
      refine ⟨_, fun σ' H' h => h, ?_⟩
      refine ⟨_, rfl, r, dxr, _, rfl, S1.hd, rfl, r, dxr, rl', pr, i1, k1, ts', rfl, S1.hd, tr.same S1.s, okr, il1, ?_⟩
      rw [ew1]
      refine ⟨_, rfl, n, dxn, _, rfl, S1.hd2, rfl, n, dxn, nl', pn, i2, k2, us', rfl, S1.hd2, tn.same S1.s, okn, il2, ?_⟩
      rw [ew2]
      refine ⟨by show 2 ≤ sizeLine; decide, fun t ht => ?_⟩
      have S2 := S1.alloc (o := (.tup [V.str "node", V.str "node"])) ht
      have g2 := S1.grow (o := (.tup [V.str "node", V.str "node"])) ht
      have ht2 : upd G1 t (.tup [V.str "node", V.str "node"]) t = some (.tup [V.str "node", V.str "node"]) := upd_same
      generalize upd G1 t (.tup [V.str "node", V.str "node"]) = G2 at S2 g2 ht2
      generalize upd H1 t (.tup [V.str "node", V.str "node"]) = H2 at S2 ⊢
      refine ⟨_, rfl, by show 2 ≤ sizeLine; decide, fun t1 ht1 => ?_⟩
      have S3 := S2.alloc (o := (.tup [V.str "await", V.str "await"])) ht1
      have g3 := S2.grow (o := (.tup [V.str "await", V.str "await"])) ht1
      have h31 : upd H2 t1 (.tup [V.str "await", V.str "await"]) t1 = some (.tup [V.str "await", V.str "await"]) := upd_same
      generalize upd H2 t1 (.tup [V.str "await", V.str "await"]) = H3 at S3 h31 ⊢
      generalize upd G2 t1 (.tup [V.str "await", V.str "await"]) = G3 at S3 g3
      have hw3 := S3.s _ _ (g3 _ _ ht2)
      refine ⟨.tuple [.str "node", .str "node"], .tuple [.str "await", .str "await"], .tup (SqT.of hw3) (.cons (.str _) (.cons (.str _) .nil)), .tup (SqT.of h31) (.cons (.str _) (.cons (.str _) .nil)), rfl, rfl, by decide, _, rfl, iteF' (by decide) ?_⟩
      refine ⟨_, rfl, t, _, rfl, .inr (SqT.of hw3), rfl, rfl, _, rfl, iteF' (by decide) ?_⟩
      refine ⟨_, rfl, by show 2 ≤ sizeLine; decide, fun t2 ht2b => ?_⟩
      have S4 := S3.alloc (o := (.tup [V.str "node", V.str "node"])) ht2b
      have g4 := S3.grow (o := (.tup [V.str "node", V.str "node"])) ht2b
      have h41 : upd H3 t2 (.tup [V.str "node", V.str "node"]) t2 = some (.tup [V.str "node", V.str "node"]) := upd_same
      generalize upd H3 t2 (.tup [V.str "node", V.str "node"]) = H4 at S4 h41 ⊢
      generalize upd G3 t2 (.tup [V.str "node", V.str "node"]) = G4 at S4 g4
      have hw4 := S4.s _ _ (g4 _ _ (g3 _ _ ht2))
      refine ⟨.tuple [.str "node", .str "node"], .tuple [.str "node", .str "node"], .tup (SqT.of hw4) (.cons (.str _) (.cons (.str _) .nil)), .tup (SqT.of h41) (.cons (.str _) (.cons (.str _) .nil)), rfl, rfl, by decide, _, rfl, iteT' (by decide) ?_⟩
      have g14 := Same.trans g2 (Same.trans g3 g4)
      have hN : NR N p q k1 k2 (.tx x) (.tx x) (some [.pr (p ++ [(k1 : Int)]) (q ++ [(k2 : Int)])]) := NR.tx
      refine ⟨_, rfl, _, rfl, _, rfl, c, r, n, dx, dxr, dxn, dl, ll, pl, rl', nl', pr, pn, lts ++ (ltL es).map V.int, ps ++ ps1, i1, k1, i2, k2, ts', us', (.tx x), (.tx x), p, q, (some [.pr (p ++ [(k1 : Int)]) (q ++ [(k2 : Int)])]), G4, _, rfl, S4, g14 _ _ (g1 _ _ hc), tr.same g14, tn.same g14, t1_, t2_, sz1, sz2, g14 _ _ (g1 _ _ hpr), g14 _ _ (g1 _ _ hpn), hN, pN, qN, by rw [List.length_append]; omega, by rw [List.length_append, List.length_map]; omega, ?_, ?_⟩
      · intro es' he ps2 G5 H5 S5 g5 eqp5
        obtain rfl := Option.some.inj he
        refine ⟨_, rfl, r, dxr, _, rfl, S5.hd, rfl, r, dxr, rl', pr, i1, k1, ts', _, G5, _, rfl, S5, (tr.same g14).same g5, okr, t1_, fun H6 S6 => ?_⟩
        refine ⟨_, rfl, n, dxn, _, rfl, S6.hd2, rfl, n, dxn, nl', pn, i2, k2, us', _, G5, _, rfl, S6.swap, (tn.same g14).same g5, okn, t2_, fun H7 S7 => ?_⟩
        have g15 := Same.trans g14 g5
        refine ⟨ts'.length - (i1 + 1) + (us'.length - (i2 + 1)), by omega, rl', nl', ts', us', i1 + 1, k1 + 1, i2 + 1, k2 + 1, z2, es ++ [.pr (p ++ [(k1 : Int)]) (q ++ [(k2 : Int)])], ps1 ++ ps2, G5, _, rfl, by omega, by omega, ?_, Same.trans g1 g15, tr.same g15, tn.same g15, szr, szn, l1, l2, by rw [d1_, d2_]; exact hr', ?_, ?_, ?_, rfl⟩
        · rw [ltL_app, List.map_append, ← List.append_assoc, ← List.append_assoc]
          exact S7.swap
        · rw [hz]
          cases z2 <;> simp
        · rw [prD_app]
          exact dqAll_ap (DqAll.same g15 eqp) eqp5
        · rw [d1_]
          simp only [ndN] at wl
          simp only [List.length_append, List.length_cons, List.length_nil]
          omega
      · exact fun e => nomatch e
    | @el N' _ _ _ _ ra sa z2 tg as ksl lsl es0 nd al hk hr' =>
      obtain ⟨ew1, t1_, d1_, i1l⟩ := wd1 er
      obtain ⟨ew2, t2_, d2_, i2l⟩ := wd2 eu
      have ew1 : wordT ts' i1 = "node" := ew1
      have ew2 : wordT us' i2 = "node" := ew2
      have sz1 := (szr _ (List.mem_of_getElem? t1_)).2
      have sz2 := (szn _ (List.mem_of_getElem? t2_)).2
      have hl := R_len hk es0 rfl
      have hl2 := wLk_S ksl
      simp only [wLk, wTk] at wl
      refine ⟨_, rfl, r, dxr, _, rfl, S1.hd, rfl, r, dxr, rl', pr, i1, k1, ts', rfl, S1.hd, tr.same S1.s, okr, il1, ?_⟩
      rw [ew1]
      refine ⟨true, ⟨by decide, by decide⟩, iteT' rfl (iteT' rfl ?_)⟩
      refine ⟨_, fun σ' H' h => h, ?_⟩
      refine ⟨_, rfl, r, dxr, _, rfl, S1.hd, rfl, r, dxr, rl', pr, i1, k1, ts', rfl, S1.hd, tr.same S1.s, okr, il1, ?_⟩
      rw [ew1]
      refine ⟨_, rfl, n, dxn, _, rfl, S1.hd2, rfl, n, dxn, nl', pn, i2, k2, us', rfl, S1.hd2, tn.same S1.s, okn, il2, ?_⟩
      rw [ew2]
      refine ⟨by show 2 ≤ sizeLine; decide, fun t ht => ?_⟩
      have S2 := S1.alloc (o := (.tup [V.str "node", V.str "node"])) ht
      have g2 := S1.grow (o := (.tup [V.str "node", V.str "node"])) ht
      have ht2 : upd G1 t (.tup [V.str "node", V.str "node"]) t = some (.tup [V.str "node", V.str "node"]) := upd_same
      generalize upd G1 t (.tup [V.str "node", V.str "node"]) = G2 at S2 g2 ht2
      generalize upd H1 t (.tup [V.str "node", V.str "node"]) = H2 at S2 ⊢
      refine ⟨_, rfl, by show 2 ≤ sizeLine; decide, fun t1 ht1 => ?_⟩
      have S3 := S2.alloc (o := (.tup [V.str "await", V.str "await"])) ht1
      have g3 := S2.grow (o := (.tup [V.str "await", V.str "await"])) ht1
      have h31 : upd H2 t1 (.tup [V.str "await", V.str "await"]) t1 = some (.tup [V.str "await", V.str "await"]) := upd_same
      generalize upd H2 t1 (.tup [V.str "await", V.str "await"]) = H3 at S3 h31 ⊢
      generalize upd G2 t1 (.tup [V.str "await", V.str "await"]) = G3 at S3 g3
      have hw3 := S3.s _ _ (g3 _ _ ht2)
      refine ⟨.tuple [.str "node", .str "node"], .tuple [.str "await", .str "await"], .tup (SqT.of hw3) (.cons (.str _) (.cons (.str _) .nil)), .tup (SqT.of h31) (.cons (.str _) (.cons (.str _) .nil)), rfl, rfl, by decide, _, rfl, iteF' (by decide) ?_⟩
      refine ⟨_, rfl, t, _, rfl, .inr (SqT.of hw3), rfl, rfl, _, rfl, iteF' (by decide) ?_⟩
      refine ⟨_, rfl, by show 2 ≤ sizeLine; decide, fun t2 ht2b => ?_⟩
      have S4 := S3.alloc (o := (.tup [V.str "node", V.str "node"])) ht2b
      have g4 := S3.grow (o := (.tup [V.str "node", V.str "node"])) ht2b
      have h41 : upd H3 t2 (.tup [V.str "node", V.str "node"]) t2 = some (.tup [V.str "node", V.str "node"]) := upd_same
      generalize upd H3 t2 (.tup [V.str "node", V.str "node"]) = H4 at S4 h41 ⊢
      generalize upd G3 t2 (.tup [V.str "node", V.str "node"]) = G4 at S4 g4
      have hw4 := S4.s _ _ (g4 _ _ (g3 _ _ ht2))
      refine ⟨.tuple [.str "node", .str "node"], .tuple [.str "node", .str "node"], .tup (SqT.of hw4) (.cons (.str _) (.cons (.str _) .nil)), .tup (SqT.of h41) (.cons (.str _) (.cons (.str _) .nil)), rfl, rfl, by decide, _, rfl, iteT' (by decide) ?_⟩
      have g14 := Same.trans g2 (Same.trans g3 g4)
      have hN : NR (N' + 1) p q k1 k2 (.el tg as ksl) (.el tg as lsl) (some (.pr (p ++ [(k1 : Int)]) (q ++ [(k2 : Int)]) :: es0)) := NR.el nd al hk
      refine ⟨_, rfl, _, rfl, _, rfl, c, r, n, dx, dxr, dxn, dl, ll, pl, rl', nl', pr, pn, lts ++ (ltL es).map V.int, ps ++ ps1, i1, k1, i2, k2, ts', us', (.el tg as ksl), (.el tg as lsl), p, q, (some (.pr (p ++ [(k1 : Int)]) (q ++ [(k2 : Int)]) :: es0)), G4, _, rfl, S4, g14 _ _ (g1 _ _ hc), tr.same g14, tn.same g14, t1_, t2_, sz1, sz2, g14 _ _ (g1 _ _ hpr), g14 _ _ (g1 _ _ hpn), hN, pN, qN, by rw [List.length_append]; omega, by rw [List.length_append, List.length_map]; omega, ?_, ?_⟩
      · intro es' he ps2 G5 H5 S5 g5 eqp5
        obtain rfl := Option.some.inj he
        refine ⟨_, rfl, r, dxr, _, rfl, S5.hd, rfl, r, dxr, rl', pr, i1, k1, ts', _, G5, _, rfl, S5, (tr.same g14).same g5, okr, t1_, fun H6 S6 => ?_⟩
        refine ⟨_, rfl, n, dxn, _, rfl, S6.hd2, rfl, n, dxn, nl', pn, i2, k2, us', _, G5, _, rfl, S6.swap, (tn.same g14).same g5, okn, t2_, fun H7 S7 => ?_⟩
        have g15 := Same.trans g14 g5
        refine ⟨ts'.length - (i1 + 1) + (us'.length - (i2 + 1)), by omega, rl', nl', ts', us', i1 + 1, k1 + 1, i2 + 1, k2 + 1, z2, es ++ (.pr (p ++ [(k1 : Int)]) (q ++ [(k2 : Int)]) :: es0), ps1 ++ ps2, G5, _, rfl, by omega, by omega, ?_, Same.trans g1 g15, tr.same g15, tn.same g15, szr, szn, l1, l2, by rw [d1_, d2_]; exact hr', ?_, ?_, ?_, rfl⟩
        · rw [ltL_app, List.map_append, ← List.append_assoc, ← List.append_assoc]
          exact S7.swap
        · rw [hz]
          cases z2 <;> simp
        · rw [prD_app]
          exact dqAll_ap (DqAll.same g15 eqp) eqp5
        · rw [d1_]
          simp only [ndN] at wl
          simp only [List.length_append, List.length_cons, List.length_nil]
          omega
      · exact fun e => nomatch e
    | @elM N' _ _ _ _ ra sa tg as ksl lsl nd al hk =>
      obtain ⟨ew1, t1_, d1_, i1l⟩ := wd1 er
      obtain ⟨ew2, t2_, d2_, i2l⟩ := wd2 eu
      have ew1 : wordT ts' i1 = "node" := ew1
      have ew2 : wordT us' i2 = "node" := ew2
      have sz1 := (szr _ (List.mem_of_getElem? t1_)).2
      have sz2 := (szn _ (List.mem_of_getElem? t2_)).2
      simp only [wLk, wTk] at wl
      refine ⟨_, rfl, r, dxr, _, rfl, S1.hd, rfl, r, dxr, rl', pr, i1, k1, ts', rfl, S1.hd, tr.same S1.s, okr, il1, ?_⟩
      rw [ew1]
      refine ⟨true, ⟨by decide, by decide⟩, iteT' rfl (iteT' rfl ?_)⟩
      refine ⟨_, fun σ' H' h => h, ?_⟩
      refine ⟨_, rfl, r, dxr, _, rfl, S1.hd, rfl, r, dxr, rl', pr, i1, k1, ts', rfl, S1.hd, tr.same S1.s, okr, il1, ?_⟩
      rw [ew1]
      refine ⟨_, rfl, n, dxn, _, rfl, S1.hd2, rfl, n, dxn, nl', pn, i2, k2, us', rfl, S1.hd2, tn.same S1.s, okn, il2, ?_⟩
      rw [ew2]
      refine ⟨by show 2 ≤ sizeLine; decide, fun t ht => ?_⟩
      have S2 := S1.alloc (o := (.tup [V.str "node", V.str "node"])) ht
      have g2 := S1.grow (o := (.tup [V.str "node", V.str "node"])) ht
      have ht2 : upd G1 t (.tup [V.str "node", V.str "node"]) t = some (.tup [V.str "node", V.str "node"]) := upd_same
      generalize upd G1 t (.tup [V.str "node", V.str "node"]) = G2 at S2 g2 ht2
      generalize upd H1 t (.tup [V.str "node", V.str "node"]) = H2 at S2 ⊢
      refine ⟨_, rfl, by show 2 ≤ sizeLine; decide, fun t1 ht1 => ?_⟩
      have S3 := S2.alloc (o := (.tup [V.str "await", V.str "await"])) ht1
      have g3 := S2.grow (o := (.tup [V.str "await", V.str "await"])) ht1
      have h31 : upd H2 t1 (.tup [V.str "await", V.str "await"]) t1 = some (.tup [V.str "await", V.str "await"]) := upd_same
      generalize upd H2 t1 (.tup [V.str "await", V.str "await"]) = H3 at S3 h31 ⊢
      generalize upd G2 t1 (.tup [V.str "await", V.str "await"]) = G3 at S3 g3
      have hw3 := S3.s _ _ (g3 _ _ ht2)
      refine ⟨.tuple [.str "node", .str "node"], .tuple [.str "await", .str "await"], .tup (SqT.of hw3) (.cons (.str _) (.cons (.str _) .nil)), .tup (SqT.of h31) (.cons (.str _) (.cons (.str _) .nil)), rfl, rfl, by decide, _, rfl, iteF' (by decide) ?_⟩
      refine ⟨_, rfl, t, _, rfl, .inr (SqT.of hw3), rfl, rfl, _, rfl, iteF' (by decide) ?_⟩
      refine ⟨_, rfl, by show 2 ≤ sizeLine; decide, fun t2 ht2b => ?_⟩
      have S4 := S3.alloc (o := (.tup [V.str "node", V.str "node"])) ht2b
      have g4 := S3.grow (o := (.tup [V.str "node", V.str "node"])) ht2b
      have h41 : upd H3 t2 (.tup [V.str "node", V.str "node"]) t2 = some (.tup [V.str "node", V.str "node"]) := upd_same
      generalize upd H3 t2 (.tup [V.str "node", V.str "node"]) = H4 at S4 h41 ⊢
      generalize upd G3 t2 (.tup [V.str "node", V.str "node"]) = G4 at S4 g4
      have hw4 := S4.s _ _ (g4 _ _ (g3 _ _ ht2))
      refine ⟨.tuple [.str "node", .str "node"], .tuple [.str "node", .str "node"], .tup (SqT.of hw4) (.cons (.str _) (.cons (.str _) .nil)), .tup (SqT.of h41) (.cons (.str _) (.cons (.str _) .nil)), rfl, rfl, by decide, _, rfl, iteT' (by decide) ?_⟩
      have g14 := Same.trans g2 (Same.trans g3 g4)
      have hN : NR (N' + 1) p q k1 k2 (.el tg as ksl) (.el tg as lsl) none := NR.el nd al hk
      refine ⟨_, rfl, _, rfl, _, rfl, c, r, n, dx, dxr, dxn, dl, ll, pl, rl', nl', pr, pn, lts ++ (ltL es).map V.int, ps ++ ps1, i1, k1, i2, k2, ts', us', (.el tg as ksl), (.el tg as lsl), p, q, none, G4, _, rfl, S4, g14 _ _ (g1 _ _ hc), tr.same g14, tn.same g14, t1_, t2_, sz1, sz2, g14 _ _ (g1 _ _ hpr), g14 _ _ (g1 _ _ hpn), hN, pN, qN, by rw [List.length_append]; omega, by rw [List.length_append, List.length_map]; omega, ?_, ?_⟩
      · exact fun es' e => nomatch e
      · exact fun _ => outE (by rw [hz]; rfl)
    | drop hb hd =>
      rcases Bool.eq_false_or_eq_true (isAw a) with ha | ha
      · rw [ha] at hb
        have hb : isAw b = false := by cases h : isAw b <;> simp [h] at hb ⊢
        cases a with
        | nil => exact nomatch ha
        | cons t0 ra =>
          cases t0 with
          | nd d => exact nomatch ha
          | en => exact nomatch ha
          | aw m0 =>
            obtain ⟨ew1, _, _, i1l⟩ := wd1 er
            have ew1 : wordT ts' i1 = "await" := ew1
            cases b with
            | nil =>
              have ew2 := wn2 eu
              refine ⟨_, rfl, r, dxr, _, rfl, S1.hd, rfl, r, dxr, rl', pr, i1, k1, ts', rfl, S1.hd, tr.same S1.s, okr, il1, ?_⟩
              rw [ew1]
              refine ⟨true, ⟨by decide, by decide⟩, iteT' rfl (iteT' rfl ?_)⟩
              refine ⟨_, fun σ' H' h => h, ?_⟩
              refine ⟨_, rfl, r, dxr, _, rfl, S1.hd, rfl, r, dxr, rl', pr, i1, k1, ts', rfl, S1.hd, tr.same S1.s, okr, il1, ?_⟩
              rw [ew1]
              refine ⟨_, rfl, n, dxn, _, rfl, S1.hd2, rfl, n, dxn, nl', pn, i2, k2, us', rfl, S1.hd2, tn.same S1.s, okn, il2, ?_⟩
              rw [ew2]
              refine ⟨by show 2 ≤ sizeLine; decide, fun t ht => ?_⟩
              have S2 := S1.alloc (o := (.tup [V.str "await", V.str ""])) ht
              have g2 := S1.grow (o := (.tup [V.str "await", V.str ""])) ht
              have ht2 : upd G1 t (.tup [V.str "await", V.str ""]) t = some (.tup [V.str "await", V.str ""]) := upd_same
              generalize upd G1 t (.tup [V.str "await", V.str ""]) = G2 at S2 g2 ht2
              generalize upd H1 t (.tup [V.str "await", V.str ""]) = H2 at S2 ⊢
              refine ⟨_, rfl, by show 2 ≤ sizeLine; decide, fun t1 ht1 => ?_⟩
              have S3 := S2.alloc (o := (.tup [V.str "await", V.str "await"])) ht1
              have g3 := S2.grow (o := (.tup [V.str "await", V.str "await"])) ht1
              have h31 : upd H2 t1 (.tup [V.str "await", V.str "await"]) t1 = some (.tup [V.str "await", V.str "await"]) := upd_same
              generalize upd H2 t1 (.tup [V.str "await", V.str "await"]) = H3 at S3 h31 ⊢
              generalize upd G2 t1 (.tup [V.str "await", V.str "await"]) = G3 at S3 g3
              have hw3 := S3.s _ _ (g3 _ _ ht2)
              refine ⟨.tuple [.str "await", .str ""], .tuple [.str "await", .str "await"], .tup (SqT.of hw3) (.cons (.str _) (.cons (.str _) .nil)), .tup (SqT.of h31) (.cons (.str _) (.cons (.str _) .nil)), rfl, rfl, by decide, _, rfl, iteF' (by decide) ?_⟩
              refine ⟨_, rfl, t, _, rfl, .inr (SqT.of hw3), rfl, rfl, _, rfl, iteT' (by decide) ?_⟩
              have g13 := Same.trans g2 g3
              refine ⟨_, rfl, r, dxr, _, rfl, S3.hd, rfl, r, dxr, rl', pr, i1, k1, ts', G3, _, rfl, S3, tr.same g13, okr, il1, l1, fun rl2 G5 H5 S5 g5 tr5 => ?_⟩
              refine ⟨_, rfl, n, dxn, _, rfl, S5.hd2, rfl, n, dxn, nl', pn, i2, k2, us', G5, _, rfl, S5.swap, (tn.same g13).same g5, okn, il2, l2, fun nl2 G6 H6 S6 g6 tn6 => ?_⟩
              have b1 : (nds (ts'.drop i1)).length ≤ ts'.length - i1 := by rw [← List.length_drop]; exact nds_le _
              have b2 : (nds (us'.drop i2)).length ≤ us'.length - i2 := by rw [← List.length_drop]; exact nds_le _
              have b3 : (nds (ts'.drop i1)).length < ts'.length - i1 := by rw [← List.length_drop]; exact nds_lt (by rw [er]; rfl)
              have g16 := Same.trans g13 (Same.trans g5 g6)
              have wn := wLk_nds (ts'.drop i1)
              have we := congrArg wLk er
              refine ⟨(nds (ts'.drop i1)).length - 0 + ((nds (us'.drop i2)).length - 0), by omega, rl2, nl2, nds (ts'.drop i1), nds (us'.drop i2), 0, k1, 0, k2, z', es, ps1, G6, _, rfl, Nat.zero_le _, Nat.zero_le _, S6.swap, Same.trans g1 g16, tr5.same g6, tn6, fun t ht => szr t (List.mem_of_mem_drop (nds_mem ht)), fun t ht => szn t (List.mem_of_mem_drop (nds_mem ht)), by omega, by omega, ?_, hz, DqAll.same g16 eqp, ?_, rfl⟩
              · rw [List.drop_zero, List.drop_zero, er, eu]
                exact hd
              · rw [List.drop_zero]
                omega
            | cons u0 sa =>
              obtain ⟨ew2, _, _, i2l⟩ := wd2 eu
              cases u0 with
              | aw m1 => exact nomatch hb
              | nd d =>
                have ew2 : wordT us' i2 = "node" := ew2
                refine ⟨_, rfl, r, dxr, _, rfl, S1.hd, rfl, r, dxr, rl', pr, i1, k1, ts', rfl, S1.hd, tr.same S1.s, okr, il1, ?_⟩
                rw [ew1]
                refine ⟨true, ⟨by decide, by decide⟩, iteT' rfl (iteT' rfl ?_)⟩
                refine ⟨_, fun σ' H' h => h, ?_⟩
                refine ⟨_, rfl, r, dxr, _, rfl, S1.hd, rfl, r, dxr, rl', pr, i1, k1, ts', rfl, S1.hd, tr.same S1.s, okr, il1, ?_⟩
                rw [ew1]
                refine ⟨_, rfl, n, dxn, _, rfl, S1.hd2, rfl, n, dxn, nl', pn, i2, k2, us', rfl, S1.hd2, tn.same S1.s, okn, il2, ?_⟩
                rw [ew2]
                refine ⟨by show 2 ≤ sizeLine; decide, fun t ht => ?_⟩
                have S2 := S1.alloc (o := (.tup [V.str "await", V.str "node"])) ht
                have g2 := S1.grow (o := (.tup [V.str "await", V.str "node"])) ht
                have ht2 : upd G1 t (.tup [V.str "await", V.str "node"]) t = some (.tup [V.str "await", V.str "node"]) := upd_same
                generalize upd G1 t (.tup [V.str "await", V.str "node"]) = G2 at S2 g2 ht2
                generalize upd H1 t (.tup [V.str "await", V.str "node"]) = H2 at S2 ⊢
                refine ⟨_, rfl, by show 2 ≤ sizeLine; decide, fun t1 ht1 => ?_⟩
                have S3 := S2.alloc (o := (.tup [V.str "await", V.str "await"])) ht1
                have g3 := S2.grow (o := (.tup [V.str "await", V.str "await"])) ht1
                have h31 : upd H2 t1 (.tup [V.str "await", V.str "await"]) t1 = some (.tup [V.str "await", V.str "await"]) := upd_same
                generalize upd H2 t1 (.tup [V.str "await", V.str "await"]) = H3 at S3 h31 ⊢
                generalize upd G2 t1 (.tup [V.str "await", V.str "await"]) = G3 at S3 g3
                have hw3 := S3.s _ _ (g3 _ _ ht2)
                refine ⟨.tuple [.str "await", .str "node"], .tuple [.str "await", .str "await"], .tup (SqT.of hw3) (.cons (.str _) (.cons (.str _) .nil)), .tup (SqT.of h31) (.cons (.str _) (.cons (.str _) .nil)), rfl, rfl, by decide, _, rfl, iteF' (by decide) ?_⟩
                refine ⟨_, rfl, t, _, rfl, .inr (SqT.of hw3), rfl, rfl, _, rfl, iteT' (by decide) ?_⟩
                have g13 := Same.trans g2 g3
                refine ⟨_, rfl, r, dxr, _, rfl, S3.hd, rfl, r, dxr, rl', pr, i1, k1, ts', G3, _, rfl, S3, tr.same g13, okr, il1, l1, fun rl2 G5 H5 S5 g5 tr5 => ?_⟩
                refine ⟨_, rfl, n, dxn, _, rfl, S5.hd2, rfl, n, dxn, nl', pn, i2, k2, us', G5, _, rfl, S5.swap, (tn.same g13).same g5, okn, il2, l2, fun nl2 G6 H6 S6 g6 tn6 => ?_⟩
                have b1 : (nds (ts'.drop i1)).length ≤ ts'.length - i1 := by rw [← List.length_drop]; exact nds_le _
                have b2 : (nds (us'.drop i2)).length ≤ us'.length - i2 := by rw [← List.length_drop]; exact nds_le _
                have b3 : (nds (ts'.drop i1)).length < ts'.length - i1 := by rw [← List.length_drop]; exact nds_lt (by rw [er]; rfl)
                have g16 := Same.trans g13 (Same.trans g5 g6)
                have wn := wLk_nds (ts'.drop i1)
                have we := congrArg wLk er
                refine ⟨(nds (ts'.drop i1)).length - 0 + ((nds (us'.drop i2)).length - 0), by omega, rl2, nl2, nds (ts'.drop i1), nds (us'.drop i2), 0, k1, 0, k2, z', es, ps1, G6, _, rfl, Nat.zero_le _, Nat.zero_le _, S6.swap, Same.trans g1 g16, tr5.same g6, tn6, fun t ht => szr t (List.mem_of_mem_drop (nds_mem ht)), fun t ht => szn t (List.mem_of_mem_drop (nds_mem ht)), by omega, by omega, ?_, hz, DqAll.same g16 eqp, ?_, rfl⟩
                · rw [List.drop_zero, List.drop_zero, er, eu]
                  exact hd
                · rw [List.drop_zero]
                  omega
              | en =>
                have ew2 : wordT us' i2 = "end" := ew2
                refine ⟨_, rfl, r, dxr, _, rfl, S1.hd, rfl, r, dxr, rl', pr, i1, k1, ts', rfl, S1.hd, tr.same S1.s, okr, il1, ?_⟩
                rw [ew1]
                refine ⟨true, ⟨by decide, by decide⟩, iteT' rfl (iteT' rfl ?_)⟩
                refine ⟨_, fun σ' H' h => h, ?_⟩
                refine ⟨_, rfl, r, dxr, _, rfl, S1.hd, rfl, r, dxr, rl', pr, i1, k1, ts', rfl, S1.hd, tr.same S1.s, okr, il1, ?_⟩
                rw [ew1]
                refine ⟨_, rfl, n, dxn, _, rfl, S1.hd2, rfl, n, dxn, nl', pn, i2, k2, us', rfl, S1.hd2, tn.same S1.s, okn, il2, ?_⟩
                rw [ew2]
                refine ⟨by show 2 ≤ sizeLine; decide, fun t ht => ?_⟩
                have S2 := S1.alloc (o := (.tup [V.str "await", V.str "end"])) ht
                have g2 := S1.grow (o := (.tup [V.str "await", V.str "end"])) ht
                have ht2 : upd G1 t (.tup [V.str "await", V.str "end"]) t = some (.tup [V.str "await", V.str "end"]) := upd_same
                generalize upd G1 t (.tup [V.str "await", V.str "end"]) = G2 at S2 g2 ht2
                generalize upd H1 t (.tup [V.str "await", V.str "end"]) = H2 at S2 ⊢
                refine ⟨_, rfl, by show 2 ≤ sizeLine; decide, fun t1 ht1 => ?_⟩
                have S3 := S2.alloc (o := (.tup [V.str "await", V.str "await"])) ht1
                have g3 := S2.grow (o := (.tup [V.str "await", V.str "await"])) ht1
                have h31 : upd H2 t1 (.tup [V.str "await", V.str "await"]) t1 = some (.tup [V.str "await", V.str "await"]) := upd_same
                generalize upd H2 t1 (.tup [V.str "await", V.str "await"]) = H3 at S3 h31 ⊢
                generalize upd G2 t1 (.tup [V.str "await", V.str "await"]) = G3 at S3 g3
                have hw3 := S3.s _ _ (g3 _ _ ht2)
                refine ⟨.tuple [.str "await", .str "end"], .tuple [.str "await", .str "await"], .tup (SqT.of hw3) (.cons (.str _) (.cons (.str _) .nil)), .tup (SqT.of h31) (.cons (.str _) (.cons (.str _) .nil)), rfl, rfl, by decide, _, rfl, iteF' (by decide) ?_⟩
                refine ⟨_, rfl, t, _, rfl, .inr (SqT.of hw3), rfl, rfl, _, rfl, iteT' (by decide) ?_⟩
                have g13 := Same.trans g2 g3
                refine ⟨_, rfl, r, dxr, _, rfl, S3.hd, rfl, r, dxr, rl', pr, i1, k1, ts', G3, _, rfl, S3, tr.same g13, okr, il1, l1, fun rl2 G5 H5 S5 g5 tr5 => ?_⟩
                refine ⟨_, rfl, n, dxn, _, rfl, S5.hd2, rfl, n, dxn, nl', pn, i2, k2, us', G5, _, rfl, S5.swap, (tn.same g13).same g5, okn, il2, l2, fun nl2 G6 H6 S6 g6 tn6 => ?_⟩
                have b1 : (nds (ts'.drop i1)).length ≤ ts'.length - i1 := by rw [← List.length_drop]; exact nds_le _
                have b2 : (nds (us'.drop i2)).length ≤ us'.length - i2 := by rw [← List.length_drop]; exact nds_le _
                have b3 : (nds (ts'.drop i1)).length < ts'.length - i1 := by rw [← List.length_drop]; exact nds_lt (by rw [er]; rfl)
                have g16 := Same.trans g13 (Same.trans g5 g6)
                have wn := wLk_nds (ts'.drop i1)
                have we := congrArg wLk er
                refine ⟨(nds (ts'.drop i1)).length - 0 + ((nds (us'.drop i2)).length - 0), by omega, rl2, nl2, nds (ts'.drop i1), nds (us'.drop i2), 0, k1, 0, k2, z', es, ps1, G6, _, rfl, Nat.zero_le _, Nat.zero_le _, S6.swap, Same.trans g1 g16, tr5.same g6, tn6, fun t ht => szr t (List.mem_of_mem_drop (nds_mem ht)), fun t ht => szn t (List.mem_of_mem_drop (nds_mem ht)), by omega, by omega, ?_, hz, DqAll.same g16 eqp, ?_, rfl⟩
                · rw [List.drop_zero, List.drop_zero, er, eu]
                  exact hd
                · rw [List.drop_zero]
                  omega
      · rw [ha] at hb
        have hb : isAw b = true := by cases h : isAw b <;> simp [h] at hb ⊢
        cases b with
        | nil => exact nomatch hb
        | cons u0 sa =>
          cases u0 with
          | nd d => exact nomatch hb
          | en => exact nomatch hb
          | aw m0 =>
            obtain ⟨ew2, _, _, i2l⟩ := wd2 eu
            have ew2 : wordT us' i2 = "await" := ew2
            cases a with
            | nil =>
              have ew1 := wn1 er
              refine ⟨_, rfl, r, dxr, _, rfl, S1.hd, rfl, r, dxr, rl', pr, i1, k1, ts', rfl, S1.hd, tr.same S1.s, okr, il1, ?_⟩
              rw [ew1]
              refine ⟨false, ⟨by decide, by decide⟩, iteF' rfl ?_⟩
              refine ⟨_, rfl, n, dxn, _, rfl, S1.hd2, rfl, n, dxn, nl', pn, i2, k2, us', rfl, S1.hd2, tn.same S1.s, okn, il2, ?_⟩
              rw [ew2]
              refine ⟨true, ⟨by decide, by decide⟩, iteT' rfl ?_⟩
              refine ⟨_, fun σ' H' h => h, ?_⟩
              refine ⟨_, rfl, r, dxr, _, rfl, S1.hd, rfl, r, dxr, rl', pr, i1, k1, ts', rfl, S1.hd, tr.same S1.s, okr, il1, ?_⟩
              rw [ew1]
              refine ⟨_, rfl, n, dxn, _, rfl, S1.hd2, rfl, n, dxn, nl', pn, i2, k2, us', rfl, S1.hd2, tn.same S1.s, okn, il2, ?_⟩
              rw [ew2]
              refine ⟨by show 2 ≤ sizeLine; decide, fun t ht => ?_⟩
              have S2 := S1.alloc (o := (.tup [V.str "", V.str "await"])) ht
              have g2 := S1.grow (o := (.tup [V.str "", V.str "await"])) ht
              have ht2 : upd G1 t (.tup [V.str "", V.str "await"]) t = some (.tup [V.str "", V.str "await"]) := upd_same
              generalize upd G1 t (.tup [V.str "", V.str "await"]) = G2 at S2 g2 ht2
              generalize upd H1 t (.tup [V.str "", V.str "await"]) = H2 at S2 ⊢
              refine ⟨_, rfl, by show 2 ≤ sizeLine; decide, fun t1 ht1 => ?_⟩
              have S3 := S2.alloc (o := (.tup [V.str "await", V.str "await"])) ht1
              have g3 := S2.grow (o := (.tup [V.str "await", V.str "await"])) ht1
              have h31 : upd H2 t1 (.tup [V.str "await", V.str "await"]) t1 = some (.tup [V.str "await", V.str "await"]) := upd_same
              generalize upd H2 t1 (.tup [V.str "await", V.str "await"]) = H3 at S3 h31 ⊢
              generalize upd G2 t1 (.tup [V.str "await", V.str "await"]) = G3 at S3 g3
              have hw3 := S3.s _ _ (g3 _ _ ht2)
              refine ⟨.tuple [.str "", .str "await"], .tuple [.str "await", .str "await"], .tup (SqT.of hw3) (.cons (.str _) (.cons (.str _) .nil)), .tup (SqT.of h31) (.cons (.str _) (.cons (.str _) .nil)), rfl, rfl, by decide, _, rfl, iteF' (by decide) ?_⟩
              refine ⟨_, rfl, t, _, rfl, .inr (SqT.of hw3), rfl, rfl, _, rfl, iteT' (by decide) ?_⟩
              have g13 := Same.trans g2 g3
              refine ⟨_, rfl, r, dxr, _, rfl, S3.hd, rfl, r, dxr, rl', pr, i1, k1, ts', G3, _, rfl, S3, tr.same g13, okr, il1, l1, fun rl2 G5 H5 S5 g5 tr5 => ?_⟩
              refine ⟨_, rfl, n, dxn, _, rfl, S5.hd2, rfl, n, dxn, nl', pn, i2, k2, us', G5, _, rfl, S5.swap, (tn.same g13).same g5, okn, il2, l2, fun nl2 G6 H6 S6 g6 tn6 => ?_⟩
              have b1 : (nds (ts'.drop i1)).length ≤ ts'.length - i1 := by rw [← List.length_drop]; exact nds_le _
              have b2 : (nds (us'.drop i2)).length ≤ us'.length - i2 := by rw [← List.length_drop]; exact nds_le _
              have b3 : (nds (us'.drop i2)).length < us'.length - i2 := by rw [← List.length_drop]; exact nds_lt (by rw [eu]; rfl)
              have g16 := Same.trans g13 (Same.trans g5 g6)
              have wn := wLk_nds (ts'.drop i1)
              have we := congrArg wLk er
              refine ⟨(nds (ts'.drop i1)).length - 0 + ((nds (us'.drop i2)).length - 0), by omega, rl2, nl2, nds (ts'.drop i1), nds (us'.drop i2), 0, k1, 0, k2, z', es, ps1, G6, _, rfl, Nat.zero_le _, Nat.zero_le _, S6.swap, Same.trans g1 g16, tr5.same g6, tn6, fun t ht => szr t (List.mem_of_mem_drop (nds_mem ht)), fun t ht => szn t (List.mem_of_mem_drop (nds_mem ht)), by omega, by omega, ?_, hz, DqAll.same g16 eqp, ?_, rfl⟩
              · rw [List.drop_zero, List.drop_zero, er, eu]
                exact hd
              · rw [List.drop_zero]
                omega
            | cons t0 ra =>
              obtain ⟨ew1, _, _, i1l⟩ := wd1 er
              cases t0 with
              | aw m1 => exact nomatch ha
              | nd d =>
                have ew1 : wordT ts' i1 = "node" := ew1
                refine ⟨_, rfl, r, dxr, _, rfl, S1.hd, rfl, r, dxr, rl', pr, i1, k1, ts', rfl, S1.hd, tr.same S1.s, okr, il1, ?_⟩
                rw [ew1]
                refine ⟨true, ⟨by decide, by decide⟩, iteT' rfl (iteT' rfl ?_)⟩
                refine ⟨_, fun σ' H' h => h, ?_⟩
                refine ⟨_, rfl, r, dxr, _, rfl, S1.hd, rfl, r, dxr, rl', pr, i1, k1, ts', rfl, S1.hd, tr.same S1.s, okr, il1, ?_⟩
                rw [ew1]
                refine ⟨_, rfl, n, dxn, _, rfl, S1.hd2, rfl, n, dxn, nl', pn, i2, k2, us', rfl, S1.hd2, tn.same S1.s, okn, il2, ?_⟩
                rw [ew2]
                refine ⟨by show 2 ≤ sizeLine; decide, fun t ht => ?_⟩
                have S2 := S1.alloc (o := (.tup [V.str "node", V.str "await"])) ht
                have g2 := S1.grow (o := (.tup [V.str "node", V.str "await"])) ht
                have ht2 : upd G1 t (.tup [V.str "node", V.str "await"]) t = some (.tup [V.str "node", V.str "await"]) := upd_same
                generalize upd G1 t (.tup [V.str "node", V.str "await"]) = G2 at S2 g2 ht2
                generalize upd H1 t (.tup [V.str "node", V.str "await"]) = H2 at S2 ⊢
                refine ⟨_, rfl, by show 2 ≤ sizeLine; decide, fun t1 ht1 => ?_⟩
                have S3 := S2.alloc (o := (.tup [V.str "await", V.str "await"])) ht1
                have g3 := S2.grow (o := (.tup [V.str "await", V.str "await"])) ht1
                have h31 : upd H2 t1 (.tup [V.str "await", V.str "await"]) t1 = some (.tup [V.str "await", V.str "await"]) := upd_same
                generalize upd H2 t1 (.tup [V.str "await", V.str "await"]) = H3 at S3 h31 ⊢
                generalize upd G2 t1 (.tup [V.str "await", V.str "await"]) = G3 at S3 g3
                have hw3 := S3.s _ _ (g3 _ _ ht2)
                refine ⟨.tuple [.str "node", .str "await"], .tuple [.str "await", .str "await"], .tup (SqT.of hw3) (.cons (.str _) (.cons (.str _) .nil)), .tup (SqT.of h31) (.cons (.str _) (.cons (.str _) .nil)), rfl, rfl, by decide, _, rfl, iteF' (by decide) ?_⟩
                refine ⟨_, rfl, t, _, rfl, .inr (SqT.of hw3), rfl, rfl, _, rfl, iteT' (by decide) ?_⟩
                have g13 := Same.trans g2 g3
                refine ⟨_, rfl, r, dxr, _, rfl, S3.hd, rfl, r, dxr, rl', pr, i1, k1, ts', G3, _, rfl, S3, tr.same g13, okr, il1, l1, fun rl2 G5 H5 S5 g5 tr5 => ?_⟩
                refine ⟨_, rfl, n, dxn, _, rfl, S5.hd2, rfl, n, dxn, nl', pn, i2, k2, us', G5, _, rfl, S5.swap, (tn.same g13).same g5, okn, il2, l2, fun nl2 G6 H6 S6 g6 tn6 => ?_⟩
                have b1 : (nds (ts'.drop i1)).length ≤ ts'.length - i1 := by rw [← List.length_drop]; exact nds_le _
                have b2 : (nds (us'.drop i2)).length ≤ us'.length - i2 := by rw [← List.length_drop]; exact nds_le _
                have b3 : (nds (us'.drop i2)).length < us'.length - i2 := by rw [← List.length_drop]; exact nds_lt (by rw [eu]; rfl)
                have g16 := Same.trans g13 (Same.trans g5 g6)
                have wn := wLk_nds (ts'.drop i1)
                have we := congrArg wLk er
                refine ⟨(nds (ts'.drop i1)).length - 0 + ((nds (us'.drop i2)).length - 0), by omega, rl2, nl2, nds (ts'.drop i1), nds (us'.drop i2), 0, k1, 0, k2, z', es, ps1, G6, _, rfl, Nat.zero_le _, Nat.zero_le _, S6.swap, Same.trans g1 g16, tr5.same g6, tn6, fun t ht => szr t (List.mem_of_mem_drop (nds_mem ht)), fun t ht => szn t (List.mem_of_mem_drop (nds_mem ht)), by omega, by omega, ?_, hz, DqAll.same g16 eqp, ?_, rfl⟩
                · rw [List.drop_zero, List.drop_zero, er, eu]
                  exact hd
                · rw [List.drop_zero]
                  omega
              | en =>
                have ew1 : wordT ts' i1 = "end" := ew1
                refine ⟨_, rfl, r, dxr, _, rfl, S1.hd, rfl, r, dxr, rl', pr, i1, k1, ts', rfl, S1.hd, tr.same S1.s, okr, il1, ?_⟩
                rw [ew1]
                refine ⟨true, ⟨by decide, by decide⟩, iteT' rfl (iteT' rfl ?_)⟩
                refine ⟨_, fun σ' H' h => h, ?_⟩
                refine ⟨_, rfl, r, dxr, _, rfl, S1.hd, rfl, r, dxr, rl', pr, i1, k1, ts', rfl, S1.hd, tr.same S1.s, okr, il1, ?_⟩
                rw [ew1]
                refine ⟨_, rfl, n, dxn, _, rfl, S1.hd2, rfl, n, dxn, nl', pn, i2, k2, us', rfl, S1.hd2, tn.same S1.s, okn, il2, ?_⟩
                rw [ew2]
                refine ⟨by show 2 ≤ sizeLine; decide, fun t ht => ?_⟩
                have S2 := S1.alloc (o := (.tup [V.str "end", V.str "await"])) ht
                have g2 := S1.grow (o := (.tup [V.str "end", V.str "await"])) ht
                have ht2 : upd G1 t (.tup [V.str "end", V.str "await"]) t = some (.tup [V.str "end", V.str "await"]) := upd_same
                generalize upd G1 t (.tup [V.str "end", V.str "await"]) = G2 at S2 g2 ht2
                generalize upd H1 t (.tup [V.str "end", V.str "await"]) = H2 at S2 ⊢
                refine ⟨_, rfl, by show 2 ≤ sizeLine; decide, fun t1 ht1 => ?_⟩
                have S3 := S2.alloc (o := (.tup [V.str "await", V.str "await"])) ht1
                have g3 := S2.grow (o := (.tup [V.str "await", V.str "await"])) ht1
                have h31 : upd H2 t1 (.tup [V.str "await", V.str "await"]) t1 = some (.tup [V.str "await", V.str "await"]) := upd_same
                generalize upd H2 t1 (.tup [V.str "await", V.str "await"]) = H3 at S3 h31 ⊢
                generalize upd G2 t1 (.tup [V.str "await", V.str "await"]) = G3 at S3 g3
                have hw3 := S3.s _ _ (g3 _ _ ht2)
                refine ⟨.tuple [.str "end", .str "await"], .tuple [.str "await", .str "await"], .tup (SqT.of hw3) (.cons (.str _) (.cons (.str _) .nil)), .tup (SqT.of h31) (.cons (.str _) (.cons (.str _) .nil)), rfl, rfl, by decide, _, rfl, iteF' (by decide) ?_⟩
                refine ⟨_, rfl, t, _, rfl, .inr (SqT.of hw3), rfl, rfl, _, rfl, iteT' (by decide) ?_⟩
                have g13 := Same.trans g2 g3
                refine ⟨_, rfl, r, dxr, _, rfl, S3.hd, rfl, r, dxr, rl', pr, i1, k1, ts', G3, _, rfl, S3, tr.same g13, okr, il1, l1, fun rl2 G5 H5 S5 g5 tr5 => ?_⟩
                refine ⟨_, rfl, n, dxn, _, rfl, S5.hd2, rfl, n, dxn, nl', pn, i2, k2, us', G5, _, rfl, S5.swap, (tn.same g13).same g5, okn, il2, l2, fun nl2 G6 H6 S6 g6 tn6 => ?_⟩
                have b1 : (nds (ts'.drop i1)).length ≤ ts'.length - i1 := by rw [← List.length_drop]; exact nds_le _
                have b2 : (nds (us'.drop i2)).length ≤ us'.length - i2 := by rw [← List.length_drop]; exact nds_le _
                have b3 : (nds (us'.drop i2)).length < us'.length - i2 := by rw [← List.length_drop]; exact nds_lt (by rw [eu]; rfl)
                have g16 := Same.trans g13 (Same.trans g5 g6)
                have wn := wLk_nds (ts'.drop i1)
                have we := congrArg wLk er
                refine ⟨(nds (ts'.drop i1)).length - 0 + ((nds (us'.drop i2)).length - 0), by omega, rl2, nl2, nds (ts'.drop i1), nds (us'.drop i2), 0, k1, 0, k2, z', es, ps1, G6, _, rfl, Nat.zero_le _, Nat.zero_le _, S6.swap, Same.trans g1 g16, tr5.same g6, tn6, fun t ht => szr t (List.mem_of_mem_drop (nds_mem ht)), fun t ht => szn t (List.mem_of_mem_drop (nds_mem ht)), by omega, by omega, ?_, hz, DqAll.same g16 eqp, ?_, rfl⟩
                · rw [List.drop_zero, List.drop_zero, er, eu]
                  exact hd
                · rw [List.drop_zero]
                  omega
end
end VL

set_option Elab.async false
set_option linter.all false
set_option maxRecDepth 100000
set_option maxHeartbeats 4000000
namespace VL
open PySem PySem.Spec PyProof.Rows L2
/-! ### a def that may raise, called where it does not -/
theorem FnOk.dry {P : Program} {w : World} {K : PySem.W.Frag} {mg : Str → Option Value} {base : Heap} {k : Nat} {f : Addr} {fd : FuncData} {ps : List Str} {sp : Sp} (F : FnOk P w K mg base (L2.CX P w) k f fd ps sp) : FnOk P w K mg base CX0 k f fd ps (fun vs H Q _ => sp vs H Q (fun _ _ _ => False)) :=
  ⟨fun vs H Q E h => F.len vs H Q _ h, fun A outer s H args us vs Q E hr he hb hv hs => codeAny_mono (F.run A outer s H args us vs Q (fun _ _ _ => False) hr he hb hv hs) fun r s' h => by
    cases r with
    | ok c => cases c <;> exact h
    | error e =>
      obtain ⟨a, B, H', cls, d, _, _, _, _, _, _, _, hf⟩ := h
      exact hf.elim⟩
theorem CalX.dry {P : Program} {w : World} {K : PySem.W.Frag} {mg : Str → Option Value} {base : Heap} {k : Nat} {x : Str} {sp : Sp} (c : CalX P w K mg base k x sp) : Cal P w K mg base k x (fun vs H Q _ => sp vs H Q (fun _ _ _ => False)) := by
  obtain ⟨f, fd, ps, F, hm, kp, b⟩ := c.ex
  exact ⟨f, fd, ps, FnOk.dry F, hm, kp, b⟩
end VL

set_option Elab.async false
set_option linter.all false
set_option pp.maxSteps 700
set_option maxRecDepth 100000
set_option maxHeartbeats 4000000
namespace VL
open PySem PySem.Spec PyProof.Rows L2
def spTrees (C : Ad) : Sp := fun vs H Q E => ∃ (a b : Addr) (ks ls : List Nd) (z : Option (List Ew)) (G : Hp) (M : List (Addr × HO)), vs = [.ref a, .ref b] ∧ Sb G H M ∧ TreeA G a ks ∧ TreeA G b ls ∧ ndS ks ≤ 20000 ∧ ndS ls ≤ 20000 ∧ dpS ks ≤ 12 ∧ dpS ls ≤ 12 ∧ R 8 [] [] 0 0 (tkS ks) (tkS ls) z ∧
  (∀ es, z = some es → ∀ c dx dl ll pl ps G' H', Sb G' H' M → Same G G' → G' c = some (cmO C.Comparison dx dl ll pl) → G' dl = some (.lst []) → G' ll = some (.lst ((ltL es).map V.int)) → G' pl = some (.lst ps) → DqAll G' ps (prD es) → Q (.ref c) H') ∧ (z = none → ∀ H', E (.ref C.MissingAnswer) none H')
section
variable {P : Program} {w : World} {K : PySem.W.Frag} {mg : Str → Option Value} {base : Heap} {C : Ad}
theorem rows_0 (T : Txt K w mg C) {k : Nat} : CalX P w K mg base (k + 1) "compare_rows" spFalse := calX_of T.d_compare_rows sc_compare_rows (fun vs H Q E h => h.elim) (fun f cdv A outer s H vs Q E hr h => h.elim)
theorem rows_N (T : Txt K w mg C) : ∀ n : Nat, CalX P w K mg base (2 * n + 20) "compare_rows" (spRowsW C n)
  | 0 => rows_S T (nodes_S T (N := 0) (sp := spFalse) (fun m h => by omega) (rows_0 T))
  | n + 1 => rows_S T (nodes_S T (N := n + 1) (sp := spRowsW C n) (fun m h => by rw [Nat.succ.inj h]) (rows_N T n))
theorem sc_compare_trees : FnScope ["read", "now", "comparison"] ["read", "now"] (defScope s_compare_trees) := ⟨rfl, rfl, rfl, by decide +kernel, rfl, by decide +kernel, by decide +kernel⟩
theorem ok_treesX (T : Txt K w mg C) : CalX P w K mg base 37 "compare_trees" (spTrees C) := by
  have Xcompare_rows := rows_N (P := P) (base := base) T 8
  have KSide := ok_sinit (P := P) (base := base) T
  have KComparison := ok_cinit (P := P) (base := base) T
  refine calX_of T.d_compare_trees sc_compare_trees (fun vs H Q E h => ?_) (fun f cdv A outer s H vs Q E hr h => ?_)
  · obtain ⟨a, b, ks, ls, z, G, M, rfl, _⟩ := h
    rfl
  · obtain ⟨a, b, ks, ls, z, G, M, rfl, S, ta, tb, na, nb, da, db, hR, q, qE⟩ := h
    refine ⟨_, (pss_cons (ps_set (i := 2) sc_compare_trees.nd rfl (Or.inl rfl) (pe_mk0 KComparison hr (by decide) (by rfl))) (pss_cons (ps_expr (pe_cX thruX Xcompare_rows hr (by decide) (by rfl) (pa_cons (pv 2) (pa_cons (pe_mk KSide hr (by decide) (by rfl) (pa_cons (pv 0) (pa_cons (pe_tup pa_nil) pa_nil))) (pa_cons (pe_mk KSide hr (by decide) (by rfl) (pa_cons (pv 1) (pa_cons (pe_tup pa_nil) pa_nil))) pa_nil))))) (pss_one (ps_ret (pv 2))))), ?_⟩
    refine fun c dx hc hdx hne => ?_
    have SA := (S.alloc (o := .own c) hdx).add (t := c) (o := .ins C.Comparison dx []) (by rw [upd_ne hne.symm]; exact hc)
    have gA := S.grow (o := .own c) hdx
    refine ⟨c, dx, _, _, rfl, SA, fun d l p H1 S1 => ⟨rfl, ?_⟩⟩
    -- the comparison and its list of differences stay as they are
    obtain ⟨S2, g2⟩ := S1.drop
    have hc2 : upd (upd G dx (.own c)) c (.ins C.Comparison dx [("differences", .ref d), ("late", .ref l), ("partners", .ref p)]) c = some (cmO C.Comparison dx d l p) := upd_same
    have g02 := Same.trans gA g2
    generalize upd (upd G dx (.own c)) c (.ins C.Comparison dx [("differences", .ref d), ("late", .ref l), ("partners", .ref p)]) = G2 at S2 g2 hc2 g02
    obtain ⟨S2b, g2b⟩ := S2.up2.drop
    have S3 := S2b.swap
    have hd3 : upd G2 d (.lst []) d = some (.lst []) := upd_same
    have hc3 := g2b _ _ hc2
    have g03 := Same.trans g02 g2b
    generalize upd G2 d (.lst []) = G3 at S3 g2b hd3 hc3 g03
    clear S2 S2b S1 SA gA g2 g02 hc2
    refine ⟨_, rfl, _, rfl, by show 0 ≤ sizeLine; decide, fun e1 he1 => ?_⟩
    have S4 := S3.alloc (o := .tup []) he1
    have g4 := S3.grow (o := .tup []) he1
    have he4 : PathA (upd G3 e1 (.tup [])) e1 [] := upd_same
    generalize upd H1 e1 (.tup []) = H4 at S4 ⊢
    generalize upd G3 e1 (.tup []) = G4 at S4 g4 he4
    refine fun x1 dx1 hx1 hdx1 hne1 => ?_
    have SA := (S4.alloc (o := .own x1) hdx1).add (t := x1) (o := .ins C.Side dx1 []) (by rw [upd_ne hne1.symm]; exact hx1)
    have gA := S4.grow (o := .own x1) hdx1
    have g0A := Same.trans g03 (Same.trans g4 gA)
    have ad1 := adS_dp ks
    have ad2 := adS_dp ls
    refine ⟨x1, dx1, a, e1, ks, _, _, rfl, SA, ta.same g0A, by omega, na, fun rl1 GB HB SB gB tr1 => ⟨rfl, ?_⟩⟩
    refine ⟨_, rfl, by show 0 ≤ sizeLine; decide, fun e2 he2 => ?_⟩
    have SC := SB.alloc (o := .tup []) he2
    have gC := SB.grow (o := .tup []) he2
    have heC : PathA (upd GB e2 (.tup [])) e2 [] := upd_same
    generalize upd HB e2 (.tup []) = HC at SC ⊢
    generalize upd GB e2 (.tup []) = GC at SC gC heC
    refine fun x2 dx2 hx2 hdx2 hne2 => ?_
    have SD := (SC.alloc (o := .own x2) hdx2).add (t := x2) (o := .ins C.Side dx2 []) (by rw [upd_ne hne2.symm]; exact hx2)
    have gD := SC.grow (o := .own x2) hdx2
    have g4B := Same.trans gA gB
    have g0D := Same.trans g0A (Same.trans gB (Same.trans gC gD))
    refine ⟨x2, dx2, b, e2, ls, _, _, rfl, SD, tb.same g0D, by omega, nb, fun rl2 GE HE SE gE tr2 => ⟨rfl, ?_⟩⟩
    have gBE := Same.trans gC (Same.trans gD gE)
    have g4E := Same.trans g4B gBE
    have g3E := Same.trans g4 g4E
    have wk := wLk_S ks
    have l1 := tkS_len ks
    have l2 := tkS_len ls
    refine ⟨c, x1, x2, dx, dx1, dx2, d, l, p, rl1, rl2, e1, e2, [], [], tkS ks, tkS ls, [], [], z, GE, _, rfl, SE.swap, g3E _ _ hc3, tr1.same gBE, tr2, szT_S ks na da, szT_S ls nb db, by omega, by omega, g4E _ _ he4, gE _ _ (gD _ _ heC), hR, by decide, by decide, by simp only [List.length_nil]; omega, by simp only [List.length_nil]; omega, fun es hz z1 z2 ps GF HF SF gF eqp => ?_, fun hz => qE hz⟩
    obtain ⟨SG, gG⟩ := SF.drop
    obtain ⟨SH, gH⟩ := SG.drop
    obtain ⟨SI, gI⟩ := SH.drop
    obtain ⟨SJ, gJ⟩ := SI.drop
    have g1 := Same.trans gG gH
    have g2' := Same.trans gI gJ
    have gz := Same.trans g1 g2'
    have g0Z := Same.trans g03 (Same.trans g3E (Same.trans gF gz))
    exact ⟨_, rfl, q es hz c dx d l p ([] ++ ps) _ _ SJ g0Z (gz _ _ (gF _ _ (g3E _ _ hc3))) (gz _ _ (gF _ _ (g3E _ _ hd3))) (gJ _ _ upd_same) upd_same (DqAll.same gz eqp)⟩
end
end VL

set_option Elab.async false
set_option linter.all false
set_option pp.maxSteps 700
set_option maxRecDepth 100000
set_option maxHeartbeats 4000000
namespace VL
open PySem PySem.Spec PyProof.Rows L2
theorem bS_app (a b : List Nd) : bS (a ++ b) = bS a ++ bS b := by
  induction a with
  | nil => simp [bS]
  | cons d a ih => simp [bS, ih]
mutual
theorem nd_bN : ∀ d : Nd, ndS (bN d) ≤ ndN d
  | .tx x => by simp [bN, ndS, ndN]
  | .el t as ks => by
    have := nd_bS ks
    simp only [bN, ndS, ndN]
    omega
  | .aw _ ks => by
    have := nd_bS ks
    simp only [bN, ndN]
    omega
theorem nd_bS : ∀ ks : List Nd, ndS (bS ks) ≤ ndS ks
  | [] => by simp [bS]
  | d :: r => by
    have := nd_bN d
    have := nd_bS r
    simp only [bS, ndS_app, ndS]
    omega
end
mutual
theorem dp_bN : ∀ d : Nd, dpS (bN d) ≤ dpN d
  | .tx x => by simp [bN, dpS, dpN]
  | .el t as ks => by
    have := dp_bS ks
    simp only [bN, dpS, dpN]
    omega
  | .aw _ ks => by
    have := dp_bS ks
    simp only [bN, dpN]
    omega
theorem dp_bS : ∀ ks : List Nd, dpS (bS ks) ≤ dpS ks
  | [] => by simp [bS, dpS]
  | d :: r => by
    have := dp_bN d
    have := dp_bS r
    simp only [bS, dpS_app, dpS]
    omega
end
mutual
theorem gd_shN : ∀ (d : Nd) (n : Nat), shN d → dpN d ≤ n → gdN d n
  | .tx x, n, _, _ => by simp only [gdN]
  | .el t as ks, n, h, hn => by
    simp only [shN] at h
    simp only [dpN] at hn
    simp only [gdN]
    obtain ⟨m, rfl⟩ : ∃ m, n = m + 1 := ⟨n - 1, by omega⟩
    exact ⟨m, rfl, h.2.2.2.1, Nat.le_trans h.2.1 (by decide), gd_shS ks m h.2.2.2.2.2 (by omega)⟩
  | .aw _ ks, n, h, hn => by
    simp only [shN] at h
    simp only [dpN] at hn
    simp only [gdN]
    exact gd_shS ks n h (by omega)
theorem gd_shS : ∀ (ks : List Nd) (n : Nat), shS ks → dpS ks ≤ n → gdS ks n
  | [], n, _, _ => by simp only [gdS]
  | d :: r, n, h, hn => by
    simp only [shS] at h
    simp only [dpS] at hn
    simp only [gdS]
    exact ⟨gd_shN d n h.1 (by omega), gd_shS r n h.2 (by omega)⟩
end
theorem sh_mem : ∀ {ks : List Nd} {d : Nd}, shS ks → d ∈ ks → shN d
  | e :: r, d, h, hm => by
    simp only [shS] at h
    rcases List.mem_cons.mp hm with rfl | hm
    · exact h.1
    · exact sh_mem h.2 hm
theorem alS_app {n : Nat} : ∀ {a ls b ms : List Nd}, alS a n ls → alS b n ms → alS (a ++ b) n (ls ++ ms)
  | [], ls, b, ms, h1, h2 => by
    simp only [alS] at h1
    subst h1
    exact h2
  | d :: r, ls, b, ms, h1, h2 => by
    simp only [alS] at h1
    obtain ⟨e, s, rfl, h3, h4⟩ := h1
    simp only [List.cons_append, alS]
    exact ⟨e, s ++ ms, rfl, h3, alS_app h4 h2⟩
theorem alS_len {n : Nat} : ∀ {a ls : List Nd}, alS a n ls → a.length = ls.length
  | [], ls, h1 => by
    simp only [alS] at h1
    subst h1
    rfl
  | d :: r, ls, h1 => by
    simp only [alS] at h1
    obtain ⟨e, s, rfl, h3, h4⟩ := h1
    simp only [List.length_cons, alS_len h4]
theorem alS_at {n : Nat} : ∀ {a ls : List Nd} {i : Nat} {d e : Nd}, alS a n ls → a[i]? = some d → ls[i]? = some e → alN d n e
  | [], ls, i, d, e, h1, h2, h3 => by simp at h2
  | x :: r, ls, i, d, e, h1, h2, h3 => by
    simp only [alS] at h1
    obtain ⟨y, s, rfl, h4, h5⟩ := h1
    cases i with
    | zero =>
      obtain rfl := Option.some.inj h2
      obtain rfl := Option.some.inj h3
      exact h4
    | succ i => exact alS_at h5 h2 h3
theorem reS_app {p q : List Int} : ∀ {a ls b ms : List Nd} {i j : Nat}, a.length = ls.length → reS p q i j (a ++ b) (ls ++ ms) = (reS p q i j a ls).bind fun x => (reS p q (i + cS a) (j + cS ls) b ms).map (x ++ ·)
  | [], ls, b, ms, i, j, h => by
    have : ls = [] := List.eq_nil_of_length_eq_zero h.symm
    subst this
    simp [reS, cS]
  | d :: r, ls, b, ms, i, j, h => by
    cases ls with
    | nil => simp at h
    | cons e s =>
      have h' : r.length = s.length := by simpa using h
      have ih := reS_app (p := p) (q := q) (b := b) (ms := ms) (i := i + cN d) (j := j + cN e) h'
      simp only [List.cons_append, reS, cS]
      rw [ih, ← Nat.add_assoc, ← Nat.add_assoc]
      cases reN p q i j d e with
      | none => rfl
      | some a1 =>
        cases reS p q (i + cN d) (j + cN e) r s with
        | none => rfl
        | some a2 =>
          simp only [Option.bind_some, Option.map_some]
          cases reS p q (i + cN d + cS r) (j + cN e + cS s) b ms with
          | none => rfl
          | some a3 => simp
theorem reS_one {p q : List Int} {i j : Nat} {d e : Nd} : reS p q i j [d] [e] = reN p q i j d e := by
  simp only [reS]
  cases reN p q i j d e <;> simp
theorem reS_split {p q : List Int} {a ls b ms : List Nd} {i j : Nat} {es : List Ew} (h : a.length = ls.length) (hr : reS p q i j (a ++ b) (ls ++ ms) = some es) : ∃ x y, reS p q i j a ls = some x ∧ reS p q (i + cS a) (j + cS ls) b ms = some y ∧ es = x ++ y := by
  rw [reS_app h] at hr
  cases h1 : reS p q i j a ls with
  | none => rw [h1] at hr; exact nomatch hr
  | some x =>
    rw [h1] at hr
    cases h2 : reS p q (i + cS a) (j + cS ls) b ms with
    | none => rw [h2] at hr; exact nomatch hr
    | some y =>
      rw [h2] at hr
      exact ⟨x, y, rfl, rfl, (Option.some.inj hr).symm⟩
theorem cS_snoc (a : List Nd) (d : Nd) : cS (a ++ [d]) = cS a + cN d := by
  rw [cS_app]
  simp [cS]
theorem ndS_snoc (a : List Nd) (d : Nd) : ndS (a ++ [d]) = ndS a + ndN d := by
  rw [ndS_app]
  simp [ndS]
/-- whether nothing is missing, and what is late, whatever the places -/
def Lts (ks ls : List Nd) (ms : Bool) (l : List Int) : Prop := ∀ p q i j, (reS p q i j ks ls).isNone = ms ∧ ∀ es, reS p q i j ks ls = some es → ltL es = l
def LtN (d e : Nd) (ms : Bool) (l : List Int) : Prop := ∀ p q i j, (reN p q i j d e).isNone = ms ∧ ∀ es, reN p q i j d e = some es → ltL es = l
theorem Lts.nil : Lts [] [] false [] := fun p q i j => by
  simp only [reS]
  exact ⟨rfl, fun es h => by obtain rfl := Option.some.inj h; rfl⟩
theorem Lts.snoc {a ls : List Nd} {d e : Nd} {m1 m2 : Bool} {l1 l2 : List Int} (h : a.length = ls.length) (h1 : Lts a ls m1 l1) (h2 : LtN d e m2 l2) : Lts (a ++ [d]) (ls ++ [e]) (m1 || m2) (l1 ++ l2) := fun p q i j => by
  obtain ⟨a1, a2⟩ := h1 p q i j
  obtain ⟨b1, b2⟩ := h2 p q (i + cS a) (j + cS ls)
  rw [reS_app h, reS_one]
  cases h3 : reS p q i j a ls with
  | none =>
    rw [h3] at a1
    subst a1
    exact ⟨rfl, fun es h => nomatch h⟩
  | some x =>
    rw [h3] at a1
    subst a1
    cases h4 : reN p q (i + cS a) (j + cS ls) d e with
    | none =>
      rw [h4] at b1
      subst b1
      exact ⟨rfl, fun es h => nomatch h⟩
    | some y =>
      rw [h4] at b1
      subst b1
      refine ⟨rfl, fun es h => ?_⟩
      obtain rfl := Option.some.inj h
      rw [ltL_app, a2 x h3, b2 y h4]
theorem LtN.tx {x : List Nat} {e : Nd} : LtN (.tx x) e false [] := fun p q i j => by
  simp only [reN]
  exact ⟨rfl, fun es h => by obtain rfl := Option.some.inj h; rfl⟩
theorem LtN.el {t t' : List Nat} {as bs : List (List Nat × List Nat)} {ks ls : List Nd} {m : Bool} {l : List Int} (h : Lts ks ls m l) : LtN (.el t as ks) (.el t' bs ls) m l := fun p q i j => by
  obtain ⟨a1, a2⟩ := h (p ++ [(i : Int)]) (q ++ [(j : Int)]) 0 0
  simp only [reN]
  cases h3 : reS (p ++ [(i : Int)]) (q ++ [(j : Int)]) 0 0 ks ls with
  | none =>
    rw [h3] at a1
    exact ⟨a1, fun es h => nomatch h⟩
  | some x =>
    rw [h3] at a1
    refine ⟨a1, fun es h => ?_⟩
    obtain rfl := Option.some.inj h
    exact a2 x h3
theorem LtN.late {k : Int} {ks ls : List Nd} : LtN (.aw (some k) ks) (.aw none ls) false [k] := fun p q i j => by
  simp only [reN]
  exact ⟨rfl, fun es h => by obtain rfl := Option.some.inj h; rfl⟩
theorem LtN.miss {k : Int} {ks ls : List Nd} : LtN (.aw none ks) (.aw (some k) ls) true [] := fun p q i j => by
  simp only [reN]
  exact ⟨rfl, fun es h => nomatch h⟩
theorem LtN.aw {n : Option Int} {ks ls : List Nd} {m : Bool} {l : List Int} (h : Lts ks ls m l) : LtN (.aw n ks) (.aw n ls) m l := fun p q i j => by
  have e : reN p q i j (.aw n ks) (.aw n ls) = reS p q i j ks ls := by
    cases n <;> simp [reN]
  rw [e]
  exact h p q i j
end VL

set_option Elab.async false
set_option linter.all false
set_option pp.maxSteps 700
set_option maxRecDepth 100000
set_option maxHeartbeats 4000000
namespace VL
open PySem PySem.Spec PyProof.Rows L2
def spBare (n : Nat) : Sp := fun vs H Q _ => ∃ (a : Addr) (ks : List Nd) (G : Hp) (M : List (Addr × HO)), vs = [.ref a] ∧ Sb G H M ∧ TreeA G a ks ∧ dpS ks ≤ n ∧ ndS ks ≤ 20000 ∧ ∀ p G' H', Sb G' H' M → Same G G' → TreeA G' p (bS ks) → Q (.ref p) H'
section
variable {P : Program} {w : World} {K : PySem.W.Frag} {mg : Str → Option Value} {base : Heap} {C : Ad}
theorem sc__law_bare : FnScope ["nodes", "bare", "node"] ["nodes"] (defScope s__law_bare) := ⟨rfl, rfl, rfl, by decide +kernel, rfl, by decide +kernel, by decide +kernel⟩
theorem bare_0 (T : Txt K w mg C) {k : Nat} : Cal P w K mg base (k + 1) "_law_bare" spFalse := cal_of T.d__law_bare sc__law_bare (fun vs H Q E h => h.elim) (fun f cdv A outer s H vs Q E hr h => h.elim)
theorem bare_S (T : Txt K w mg C) {n k kf : Nat} {sp : Sp} (hsp : ∀ m, m + 1 = n → sp = spBare m) (hkf : kf ≤ k) (G_law_bare : Cal P w K mg base kf "_law_bare" sp) : Cal P w K mg base (k + 1) "_law_bare" (spBare n) := by
  refine cal_of T.d__law_bare sc__law_bare (fun vs H Q E h => ?_) (fun f cdv A outer s H vs Q E hr h => ?_)
  · obtain ⟨a, ks, G, M, rfl, _⟩ := h
    rfl
  · obtain ⟨a, ks, G0, M, rfl, S00, ht, hn, hw, q⟩ := h
    obtain ⟨xs, ha, hl, hd⟩ := tree_at ht
    have big : 10000000 < sizeLine := by decide
    have lw := len_ndS ks
    refine ⟨_, (pss_cons (ps_set (i := 1) sc__law_bare.nd rfl (Or.inl rfl) (pe_lst pa_nil)) (pss_cons (ps_for PassesOwn.never rfl (pi_list (pv 0)) (pg_name (i := 2) sc__law_bare.nd rfl (Or.inl rfl)) (pss_one (ps_if (pt_cmpR op_eq (pe_ix ix_tup (pv 2) pe_int (fun _ _ => rfl)) pe_str (nomark _)) (pss_one (ps_set (i := 1) sc__law_bare.nd rfl (Or.inl rfl) (pe_op op_cat (pv 1) (pe_c G_law_bare hr (by omega) (by rfl) (pa_cons (pe_ix ix_tup (pv 2) pe_int (fun _ _ => rfl)) pa_nil))))) (pss_one (ps_if (pt_cmpR op_eq (pe_ix ix_tup (pv 2) pe_int (fun _ _ => rfl)) pe_str (nomark _)) (pss_one (ps_expr (pe_bm PySem.F.plainAttrs_list PySem.F.slot_list_append PySem.F.type_list_append mt_append (pv 1) (pa_cons (pe_tup (pa_cons pe_str (pa_cons (pe_ix ix_tup (pv 2) pe_int (fun _ _ => rfl)) (pa_cons (pe_ix ix_tup (pv 2) pe_int (fun _ _ => rfl)) (pa_cons (pe_c G_law_bare hr (by omega) (by rfl) (pa_cons (pe_ix ix_tup (pv 2) pe_int (fun _ _ => rfl)) pa_nil)) pa_nil))))) pa_nil)))) (pss_one (ps_expr (pe_bm PySem.F.plainAttrs_list PySem.F.slot_list_append PySem.F.type_list_append mt_append (pv 1) (pa_cons (pv 2) pa_nil))))))))) (pss_one (ps_ret (pv 1))))), ?_⟩
    refine ⟨by show 0 ≤ sizeLine; decide, fun p0 hp0 => ?_⟩
    have S0 := S00.add (o := .lst []) hp0
    refine ⟨_, rfl, a, rfl, ⟨_, SqL.of (S0.s _ _ ha)⟩, ?_⟩
    refine for_it (walk_list (K := K) (a := a) (xs := xs)) (fun i σ H' => ∃ (G : Hp) (p : Addr) (fs : List V) (y : Option V), Sb G H' ((p, .lst fs) :: M) ∧ Same G0 G ∧ DqAll G fs (encS (bS (ks.take i))) ∧ σ = [some (.ref a), some (.ref p), y]) ⟨G0, p0, [], none, S0, Same.refl _, (by simp only [List.take_zero, bS, encS]; exact .nil), rfl⟩ (fun i σ H' _ ⟨G, _, _, _, S, g, _⟩ => SqL.of (S.s _ _ (g _ _ ha))) ?_ ?_
    · rintro i x σ H1 H2 hi ⟨G, p, fs, y, S, g, df, rfl⟩ ⟨rfl, hx⟩
      obtain ⟨d, hdi, dd⟩ := node_at hd hx
      have dm := dp_mem (List.mem_of_getElem? hdi)
      have wm := nd_mem (List.mem_of_getElem? hdi)
      have il : i < ks.length := (List.getElem?_eq_some_iff.mp hdi).1
      have tk : ks.take (i + 1) = ks.take i ++ [d] := by rw [List.take_add_one, hdi]; rfl
      have fk : bS (ks.take (i + 1)) = bS (ks.take i) ++ bN d := by rw [tk, bS_app]; simp [bS]
      have fl1 := df.len
      rw [encS_len] at fl1
      have flw : (bS (ks.take (i + 1))).length ≤ 20000 := by
        have h1 := len_ndS (bS (ks.take (i + 1)))
        have h3 := nd_bS (ks.take (i + 1))
        have h2 : ndS ks = ndS (ks.take (i + 1)) + ndS (ks.drop (i + 1)) := by rw [← ndS_app, List.take_append_drop]
        omega
      rw [fk, List.length_append] at flw
      have ddg := dd.same g
      have sg := S.s
      cases d with
      | tx x =>
        obtain ⟨qq, rfl, hq⟩ := n_tx ddg
        have hq1 := sg _ _ hq
        refine ⟨_, rfl, qq, _, _, _, rfl, rfl, SqT.of hq1, rfl, rfl, _, rfl, ite2 (fun c => absurd c (sne (by decide +kernel))) (fun _ => ?_)⟩
        refine ⟨_, rfl, qq, _, _, _, rfl, rfl, SqT.of hq1, rfl, rfl, _, rfl, ite2 (fun c => absurd c (sne (by decide +kernel))) (fun _ => ?_)⟩
        refine ⟨_, rfl, .inl ⟨rfl, _, SqL.of S.hd⟩, _, rfl, p, _, _, rfl, rfl, S.hd, by simp only [bN, List.length_singleton] at flw; omega, G, p, _, _, S.put, g, ?_, rfl⟩
        rw [fk, encS_app]
        refine dqAll_ap df ?_
        simp only [bN, encS]
        exact .cons ddg .nil
      | el t as kk =>
        obtain ⟨qq, qa, qk, rfl, hq, hqa, hqk⟩ := n_el ddg
        have hq1 := sg _ _ hq
        simp only [ndN] at wm
        simp only [dpN] at dm
        obtain ⟨m, rfl⟩ : ∃ m, n = m + 1 := ⟨n - 1, by omega⟩
        obtain rfl := hsp m rfl
        refine ⟨_, rfl, qq, _, _, _, rfl, rfl, SqT.of hq1, rfl, rfl, _, rfl, ite2 (fun c => absurd c (sne (by decide +kernel))) (fun _ => ?_)⟩
        refine ⟨_, rfl, qq, _, _, _, rfl, rfl, SqT.of hq1, rfl, rfl, _, rfl, ite2 (fun _ => ?_) (fun c => absurd (by simp) c)⟩
        refine ⟨_, rfl, .inl ⟨rfl, _, SqL.of S.hd⟩, _, rfl, qq, _, _, _, rfl, rfl, SqT.of hq1, rfl, _, rfl, qq, _, _, _, rfl, rfl, SqT.of hq1, rfl, _, rfl, qq, _, _, _, rfl, rfl, SqT.of hq1, rfl, qk, kk, G, (p, .lst fs) :: M, rfl, S, hqk, by omega, by omega, fun j G3 H3 S3 g3 tj => ⟨by show 4 ≤ sizeLine; decide, fun u hu => ?_⟩⟩
        have S4 := S3.alloc (o := .tup [.str "element", .str (TX t), .ref qa, .ref j]) hu
        have g4 := S3.grow (o := .tup [.str "element", .str (TX t), .ref qa, .ref j]) hu
        refine ⟨p, _, _, rfl, rfl, S4.hd, by simp only [bN, List.length_singleton] at flw; omega, _, p, fs ++ [.ref u], _, S4.put, Same.trans g (Same.trans g3 g4), ?_, rfl⟩
        rw [fk, encS_app]
        refine dqAll_ap (df.same (Same.trans g3 g4)) ?_
        simp only [bN, encS, encN]
        exact .cons (.tup upd_same (.cons (.str _) (.cons (.str _) (.cons (hqa.same (Same.trans g3 g4)) (.cons (tj.same g4) .nil))))) .nil
      | aw nn kk =>
        obtain ⟨qq, qk, rfl, hq, hqk⟩ := n_aw ddg
        have hq1 := sg _ _ hq
        simp only [ndN] at wm
        simp only [dpN] at dm
        obtain ⟨m, rfl⟩ : ∃ m, n = m + 1 := ⟨n - 1, by omega⟩
        obtain rfl := hsp m rfl
        refine ⟨_, rfl, qq, _, _, _, rfl, rfl, SqT.of hq1, rfl, rfl, _, rfl, ite2 (fun _ => ?_) (fun c => absurd (by simp) c)⟩
        refine ⟨_, rfl, _, rfl, qq, _, _, _, rfl, rfl, SqT.of hq1, rfl, qk, kk, G, (p, .lst fs) :: M, rfl, S, hqk, by omega, by omega, fun j G3 H3 S3 g3 tj => ?_⟩
        obtain ⟨ys, hj, yl, dj⟩ := tree_at tj
        refine ⟨_, _, _, _, rfl, rfl, S3.hd, S3.s _ _ hj, ?_, fun p2 hp2 => ?_⟩
        · simp only [bN] at flw
          omega
        obtain ⟨S4, g4⟩ := S3.drop
        have S5 := S4.add (o := .lst (fs ++ ys)) hp2
        refine ⟨_, p2, fs ++ ys, _, S5, Same.trans g (Same.trans g3 g4), ?_, rfl⟩
        rw [fk, encS_app]
        simp only [bN]
        exact dqAll_ap (df.same (Same.trans g3 g4)) (dj.same g4)
    · rintro σ H1 ⟨G, p, fs, y, S, g, df, rfl⟩
      rw [hl, List.take_length] at df
      obtain ⟨S2, g2⟩ := S.drop
      exact ⟨_, rfl, q p _ H1 S2 (Same.trans g g2) (.lst upd_same (df.same g2))⟩
theorem bare_N (T : Txt K w mg C) : ∀ n : Nat, Cal P w K mg base (n + 2) "_law_bare" (spBare n)
  | 0 => bare_S T (n := 0) (sp := spFalse) (fun m h => by omega) (Nat.le_refl _) (bare_0 T)
  | n + 1 => bare_S T (n := n + 1) (sp := spBare n) (fun m h => by rw [Nat.succ.inj h]) (Nat.le_refl _) (bare_N T n)
end
end VL

set_option Elab.async false
set_option linter.all false
set_option pp.maxSteps 700
set_option maxRecDepth 100000
set_option maxHeartbeats 4000000
namespace VL
open PySem PySem.Spec PyProof.Rows L2
def wW (c : Int) (lt : Addr) (md : Int) (ms : Bool) : List (Key × V) := [(.inr "at", .int c), (.inr "late", .ref lt), (.inr "mode", .int md), (.inr "missing", .bl ms)]
theorem dg_atW {H : Hp} {d lt : Addr} {c md : Int} {ms : Bool} (h : H d = some (.dK (wW c lt md ms))) : DGet H d (.str "at") (some (.int c)) := by
  have := DGet.k (k := .inr "at") h
  exact this
theorem dg_lateW {H : Hp} {d lt : Addr} {c md : Int} {ms : Bool} (h : H d = some (.dK (wW c lt md ms))) : DGet H d (.str "late") (some (.ref lt)) := by
  have := DGet.k (k := .inr "late") h
  exact this
theorem dg_modeW {H : Hp} {d lt : Addr} {c md : Int} {ms : Bool} (h : H d = some (.dK (wW c lt md ms))) : DGet H d (.str "mode") (some (.int md)) := by
  have := DGet.k (k := .inr "mode") h
  exact this
theorem dg_missW {H : Hp} {d lt : Addr} {c md : Int} {ms : Bool} (h : H d = some (.dK (wW c lt md ms))) : DGet H d (.str "missing") (some (.bl ms)) := by
  have := DGet.k (k := .inr "missing") h
  exact this
theorem cut_takeI {xs : List V} {k : Int} (h : 0 ≤ k) : cutV xs none (some k) = xs.take k.toNat := by
  obtain ⟨m, rfl⟩ := Int.eq_ofNat_of_zero_le h
  unfold cutV
  rw [HT.sIx_none, HT.sIx_nat, List.drop_zero, Nat.sub_zero, Int.toNat_natCast]
  by_cases h : m ≤ xs.length
  · rw [Nat.min_eq_left h]
  · rw [Nat.min_eq_right (by omega), List.take_of_length_le (Nat.le_refl _), List.take_of_length_le (by omega)]
def frS : List Nd := [.tx [110, 101, 119], .el [113] [] [.tx [105, 110]]]
theorem frS_nd (k : Nat) : ndS (frS.take k) ≤ 3 := by
  rcases k with _ | _ | k
  · simp [frS, ndS]
  · simp [frS, ndS, ndN]
  · rw [List.take_of_length_le (by simp [frS])]
    simp [frS, ndS, ndN]
theorem frS_dp (k : Nat) : dpS (frS.take k) ≤ 1 := by
  rcases k with _ | _ | k
  · simp [frS, dpS]
  · simp [frS, dpS, dpN]
  · rw [List.take_of_length_le (by simp [frS])]
    simp [frS, dpS, dpN]
theorem DqAll.tk {H : Hp} {xs : List V} {ds : List PyData} (h : DqAll H xs ds) (k : Nat) : DqAll H (xs.take k) (ds.take k) := by
  induction k generalizing xs ds with
  | zero => exact .nil
  | succ k ih =>
    cases h with
    | nil => exact .nil
    | cons a b => exact .cons a (ih b)
def spTurn (n : Nat) : Sp := fun vs H Q _ => ∃ (a rl wd lt : Addr) (zs : List Int) (ks : List Nd) (c md : Int) (ms : Bool) (lts : List V) (G : Hp) (M : List (Addr × HO)), vs = [.ref a, .ref rl, .ref wd] ∧ Sb G H ((wd, .dK (wW c lt md ms)) :: (lt, .lst lts) :: M) ∧ TreeA G a ks ∧ G rl = some (.lst (zs.map V.int)) ∧ zs.length = 60 ∧ shS ks ∧ dpS ks ≤ n ∧ ndS ks ≤ 5000 ∧ lts.length + ndS ks ≤ 100000 ∧
  ∀ p ls G' H' c' m1 l1, Sb G' H' ((wd, .dK (wW c' lt md (ms || m1))) :: (lt, .lst (lts ++ l1.map V.int)) :: M) → Same G G' → TreeA G' p ls → (∀ N, n ≤ N → alS ks N ls) → Lts ks ls m1 l1 → l1.length ≤ ndS ks → dpS ls ≤ dpS ks + 1 → ndS ls ≤ 4 * ndS ks → Q (.ref p) H'
section
variable {P : Program} {w : World} {K : PySem.W.Frag} {mg : Str → Option Value} {base : Heap} {C : Ad}
theorem sc__law_turned : FnScope ["nodes", "rows", "world", "made", "node", "row", "fresh"] ["nodes", "rows", "world"] (defScope s__law_turned) := ⟨rfl, rfl, rfl, by decide +kernel, rfl, by decide +kernel, by decide +kernel⟩
theorem turn_0 (T : Txt K w mg C) {k : Nat} : Cal P w K mg base (k + 1) "_law_turned" spFalse := cal_of T.d__law_turned sc__law_turned (fun vs H Q E h => h.elim) (fun f cdv A outer s H vs Q E hr h => h.elim)
theorem turn_S (T : Txt K w mg C) {n k : Nat} {sp : Sp} (hsp : ∀ m, m + 1 = n → sp = spTurn m) (G_law_turned : Cal P w K mg base k "_law_turned" sp) : Cal P w K mg base (k + 1) "_law_turned" (spTurn n) := by
  refine cal_of T.d__law_turned sc__law_turned (fun vs H Q E h => ?_) (fun f cdv A outer s H vs Q E hr h => ?_)
  · obtain ⟨a, rl, wd, lt, zs, ks, c, md, ms, lts, G, M, rfl, _⟩ := h
    rfl
  · obtain ⟨a, rl, wd, lt, zs, ks, c0, md, ms, lts, G0, M, rfl, S00, ht, hrl, zl, hsh, hn, hw, hlt, q⟩ := h
    obtain ⟨xs, ha, hl, hd⟩ := tree_at ht
    have hu := hu_of hr
    have big : 10000000 < sizeLine := by decide
    have lw := len_ndS ks
    have draw : ∀ c : Int, ∃ z, atI (zs.map V.int) (c % 60) = some (.int z) := fun c =>
      map_int_atR (ns := zs) (Int.emod_nonneg _ (by decide)) (by have := Int.emod_lt_of_pos c (show (0 : Int) < 60 by decide); omega)
    refine ⟨_, (pss_cons (ps_set (i := 3) sc__law_turned.nd rfl (Or.inl rfl) (pe_lst pa_nil)) (pss_cons (ps_for PassesOwn.never rfl (pi_list (pv 0)) (pg_name (i := 4) sc__law_turned.nd rfl (Or.inl rfl)) (pss_one (ps_if (pt_cmpR op_eq (pe_ix ix_tup (pv 4) pe_int (fun _ _ => rfl)) pe_str (nomark _)) (pss_one (ps_expr (pe_bm PySem.F.plainAttrs_list PySem.F.slot_list_append PySem.F.type_list_append mt_append (pv 3) (pa_cons (pe_tup (pa_cons pe_str (pa_cons (pe_ix ix_tup (pv 4) pe_int (fun _ _ => rfl)) (pa_cons (pe_ix ix_tup (pv 4) pe_int (fun _ _ => rfl)) (pa_cons (pe_c G_law_turned hr (by omega) (by rfl) (pa_cons (pe_ix ix_tup (pv 4) pe_int (fun _ _ => rfl)) (pa_cons (pv 1) (pa_cons (pv 2) pa_nil)))) pa_nil))))) pa_nil)))) (pss_one (ps_if (pt_cmpR op_eq (pe_ix ix_tup (pv 4) pe_int (fun _ _ => rfl)) pe_str (nomark _)) (pss_cons (ps_set (i := 5) sc__law_turned.nd rfl (Or.inl rfl) (pe_ix ix_list (pv 1) (pe_op op_mod (pe_dget hu (pv 2) pe_str (fun _ _ => rfl)) pe_int) (fun _ _ => rfl))) (pss_cons (ps_dput hu (pv 2) pe_str (pe_op op_add (pe_dget hu (pv 2) pe_str (fun _ _ => rfl)) pe_int) rfl) (pss_one (ps_if (PW.pt (pw_and (pt_cmp (pc_notN (pe_ix ix_tup (pv 4) pe_int (fun _ _ => rfl)))) (pw_and1 (pt_cmpR op_eq (pe_op op_mod (pv 5) pe_int) pe_int (nomark _))))) (pss_cons (ps_expr (pe_bm PySem.F.plainAttrs_list PySem.F.slot_list_append PySem.F.type_list_append mt_append (pe_dget hu (pv 2) pe_str (fun _ _ => rfl)) (pa_cons (pe_ix ix_tup (pv 4) pe_int (fun _ _ => rfl)) pa_nil))) (pss_cons (ps_set (i := 6) sc__law_turned.nd rfl (Or.inl rfl) (pe_lst (pa_cons (pe_tup (pa_cons pe_str (pa_cons pe_str pa_nil))) (pa_cons (pe_tup (pa_cons pe_str (pa_cons pe_str (pa_cons (pe_lst pa_nil) (pa_cons (pe_lst (pa_cons (pe_tup (pa_cons pe_str (pa_cons pe_str pa_nil))) pa_nil)) pa_nil))))) pa_nil)))) (pss_one (ps_expr (pe_bm PySem.F.plainAttrs_list PySem.F.slot_list_append PySem.F.type_list_append mt_append (pv 3) (pa_cons (pe_tup (pa_cons pe_str (pa_cons pe_non (pa_cons (pe_slice sl_list (pv 6) po_none (po_some (pe_op op_mod (pe_callTy call_int1 (by rfl) T.z_int (by decide +kernel) (pa_cons (pe_op op_fdiv (pv 5) pe_int) pa_nil)) pe_int))) pa_nil)))) pa_nil)))))) (pss_one (ps_if (PW.pt (pw_and (pt_cmp (pc_isN (pe_ix ix_tup (pv 4) pe_int (fun _ _ => rfl)))) (pw_and (pt_cmpR op_eq (pe_dget hu (pv 2) pe_str (fun _ _ => rfl)) pe_int (nomark _)) (pw_and1 (pt_cmpR op_eq (pe_op op_mod (pv 5) pe_int) pe_int (nomark _)))))) (pss_cons (ps_dput hu (pv 2) pe_str pe_bl rfl) (pss_one (ps_expr (pe_bm PySem.F.plainAttrs_list PySem.F.slot_list_append PySem.F.type_list_append mt_append (pv 3) (pa_cons (pe_tup (pa_cons pe_str (pa_cons (pe_op op_add pe_int (pe_dget hu (pv 2) pe_str (fun _ _ => rfl))) (pa_cons (pe_ix ix_tup (pv 4) pe_int (fun _ _ => rfl)) pa_nil)))) pa_nil))))) (pss_one (ps_expr (pe_bm PySem.F.plainAttrs_list PySem.F.slot_list_append PySem.F.type_list_append mt_append (pv 3) (pa_cons (pe_tup (pa_cons pe_str (pa_cons (pe_ix ix_tup (pv 4) pe_int (fun _ _ => rfl)) (pa_cons (pe_c G_law_turned hr (by omega) (by rfl) (pa_cons (pe_ix ix_tup (pv 4) pe_int (fun _ _ => rfl)) (pa_cons (pv 1) (pa_cons (pv 2) pa_nil)))) pa_nil)))) pa_nil)))))))))) (pss_one (ps_expr (pe_bm PySem.F.plainAttrs_list PySem.F.slot_list_append PySem.F.type_list_append mt_append (pv 3) (pa_cons (pv 4) pa_nil))))))))) (pss_one (ps_ret (pv 3))))), ?_⟩
    refine ⟨by show 0 ≤ sizeLine; decide, fun p0 hp0 => ?_⟩
    have S0 := S00.add (o := .lst []) hp0
    refine ⟨_, rfl, a, rfl, ⟨_, SqL.of (S0.s _ _ ha)⟩, ?_⟩
    refine for_it (walk_list (K := K) (a := a) (xs := xs)) (fun i σ H' => ∃ (G : Hp) (fs : List V) (ls : List Nd) (c : Int) (m1 : Bool) (l1 : List Int) (y4 y5 y6 : Option V), Sb G H' ((p0, .lst fs) :: (wd, .dK (wW c lt md (ms || m1))) :: (lt, .lst (lts ++ l1.map V.int)) :: M) ∧ Same G0 G ∧ DqAll G fs (encS ls) ∧ (∀ N, n ≤ N → alS (ks.take i) N ls) ∧ Lts (ks.take i) ls m1 l1 ∧ l1.length ≤ ndS (ks.take i) ∧ dpS ls ≤ dpS ks + 1 ∧ ndS ls ≤ 4 * ndS (ks.take i) ∧ σ = [some (.ref a), some (.ref rl), some (.ref wd), some (.ref p0), y4, y5, y6]) ⟨G0, [], [], c0, false, [], none, none, none, by rw [Bool.or_false, List.map_nil, List.append_nil]; exact S0, Same.refl _, (by simp only [encS]; exact .nil), fun N _ => by simp [alS], Lts.nil, by simp, by simp [dpS], by simp [ndS], rfl⟩ (fun i σ H' _ ⟨G, _, _, _, _, _, _, _, _, S, g, _⟩ => SqL.of (S.s _ _ (g _ _ ha))) ?_ ?_
    · rintro i x σ H1 H2 hi ⟨G, fs, ls, c, m1, l1, y4, y5, y6, S, g, df, al, lt1, ll1, dl, nl, rfl⟩ ⟨rfl, hx⟩
      obtain ⟨d, hdi, dd⟩ := node_at hd hx
      have dm := dp_mem (List.mem_of_getElem? hdi)
      have wm := nd_mem (List.mem_of_getElem? hdi)
      have shd := sh_mem hsh (List.mem_of_getElem? hdi)
      have il : i < ks.length := (List.getElem?_eq_some_iff.mp hdi).1
      have tk : ks.take (i + 1) = ks.take i ++ [d] := by rw [List.take_add_one, hdi]; rfl
      have fk : ndS (ks.take (i + 1)) = ndS (ks.take i) + ndN d := by rw [tk, ndS_snoc]
      have fk2 : ndS (ks.take (i + 1)) ≤ ndS ks := by
        have h2 : ndS ks = ndS (ks.take (i + 1)) + ndS (ks.drop (i + 1)) := by rw [← ndS_app, List.take_append_drop]
        omega
      have fl1 := df.len
      rw [encS_len] at fl1
      have fl2 := alS_len (al n (Nat.le_refl _))
      have fl3 : (ks.take i).length ≤ ks.length := by rw [List.length_take]; omega
      have ddg := dd.same g
      obtain ⟨z, hz⟩ := draw c
      have hrl1 := S.s _ _ (g _ _ hrl)
      have step : ∀ (d' : Nd) (v : V) (G3 H3 : Hp) (c3 : Int) (m2 : Bool) (l2 : List Int) (y4 y5 y6 : Option V), Sb G3 H3 ((p0, .lst fs) :: (wd, .dK (wW c3 lt md (ms || (m1 || m2)))) :: (lt, .lst (lts ++ (l1 ++ l2).map V.int)) :: M) → Same G G3 → Dq G3 v (encN d') → (∀ N, n ≤ N → alN d N d') → LtN d d' m2 l2 → l2.length ≤ ndN d → dpN d' ≤ dpS ks + 1 → ndN d' ≤ 4 * ndN d →
          ∃ l xs' v', V.ref p0 = .ref l ∧ [v] = [v'] ∧ H3 l = some (.lst xs') ∧ xs'.length < sizeLine ∧ (∃ (G : Hp) (fs : List V) (ls : List Nd) (c : Int) (m1 : Bool) (l1 : List Int) (z4 z5 z6 : Option V), Sb G (upd H3 l (.lst (xs' ++ [v']))) ((p0, .lst fs) :: (wd, .dK (wW c lt md (ms || m1))) :: (lt, .lst (lts ++ l1.map V.int)) :: M) ∧ Same G0 G ∧ DqAll G fs (encS ls) ∧ (∀ N, n ≤ N → alS (ks.take (i + 1)) N ls) ∧ Lts (ks.take (i + 1)) ls m1 l1 ∧ l1.length ≤ ndS (ks.take (i + 1)) ∧ dpS ls ≤ dpS ks + 1 ∧ ndS ls ≤ 4 * ndS (ks.take (i + 1)) ∧ [some (.ref a), some (.ref rl), some (.ref wd), some (.ref p0), y4, y5, y6] = [some (.ref a), some (.ref rl), some (.ref wd), some (.ref p0), z4, z5, z6]) := by
        intro d' v G3 H3 c3 m2 l2 y4 y5 y6 S3 g3 dv ad ld l2l dd nd
        refine ⟨p0, fs, v, rfl, rfl, S3.hd, by omega, G3, fs ++ [v], ls ++ [d'], c3, m1 || m2, l1 ++ l2, y4, y5, y6, S3.put, Same.trans g g3, ?_, ?_, ?_, ?_, ?_, ?_, rfl⟩
        · rw [encS_app]
          exact dqAll_ap (df.same g3) (by simp only [encS]; exact .cons dv .nil)
        · intro N hN
          rw [tk]
          refine alS_app (al N hN) ?_
          simp only [alS]
          exact ⟨d', [], rfl, ad N hN, rfl⟩
        · rw [tk]
          exact Lts.snoc fl2 lt1 ld
        · rw [List.length_append, fk]
          omega
        · rw [dpS_app]
          simp only [dpS]
          omega
        · rw [ndS_snoc, fk]
          omega
      cases d with
      | tx x =>
        obtain ⟨qq, rfl, hq⟩ := n_tx ddg
        have hq1 := S.s _ _ hq
        refine ⟨_, rfl, qq, _, _, _, rfl, rfl, SqT.of hq1, at_0, rfl, _, rfl, ite2 (fun c => absurd c (sne (by decide +kernel))) (fun _ => ?_)⟩
        refine ⟨_, rfl, qq, _, _, _, rfl, rfl, SqT.of hq1, at_0, rfl, _, rfl, ite2 (fun c => absurd c (sne (by decide +kernel))) (fun _ => ?_)⟩
        exact ⟨_, rfl, .inl ⟨rfl, _, SqL.of S.hd⟩, _, rfl, step (.tx x) (.ref qq) _ _ c false [] _ _ _ (by rw [Bool.or_false, List.append_nil]; exact S) (Same.refl _) ddg (fun N _ => by simp [alN]) LtN.tx (by simp) (by simp [dpN]) (by simp only [ndN]; omega)⟩
      | el t as kk =>
        obtain ⟨qq, qa, qk, rfl, hq, hqa, hqk⟩ := n_el ddg
        have hq1 := S.s _ _ hq
        simp only [shN] at shd
        simp only [dpN] at dm
        simp only [ndN] at wm fk
        obtain ⟨m, rfl⟩ : ∃ m, n = m + 1 := ⟨n - 1, by omega⟩
        obtain rfl := hsp m rfl
        refine ⟨_, rfl, qq, _, _, _, rfl, rfl, SqT.of hq1, at_0, rfl, _, rfl, ite2 (fun _ => ?_) (fun c => absurd (by simp) c)⟩
        refine ⟨_, rfl, .inl ⟨rfl, _, SqL.of S.hd⟩, _, rfl, qq, _, _, _, rfl, rfl, SqT.of hq1, at_1, _, rfl, qq, _, _, _, rfl, rfl, SqT.of hq1, at_2, _, rfl, qq, _, _, _, rfl, rfl, SqT.of hq1, at_3, _, rfl, _, rfl, qk, rl, wd, lt, zs, kk, c, md, ms || m1, lts ++ l1.map V.int, G, (p0, .lst fs) :: M, rfl, S.dn2, hqk, g _ _ hrl, zl, shd.2.2.2.2.2, by omega, by omega, by rw [List.length_append, List.length_map]; omega, fun pk ls5 G6 H6 c6 m6 l6 S6 g6 tk6 al6 lt6 ll6 dp6 nd6 => ⟨by show 4 ≤ sizeLine; decide, fun u hu => ?_⟩⟩
        have S7 := S6.up2.alloc (o := .tup [.str "element", .str (TX t), .ref qa, .ref pk]) hu
        have g7 := S6.up2.grow (o := .tup [.str "element", .str (TX t), .ref qa, .ref pk]) hu
        rw [Bool.or_assoc, List.append_assoc, ← List.map_append] at S7
        refine step (.el t as ls5) (.ref u) _ _ c6 m6 l6 _ _ _ S7 (Same.trans g6 g7) ?_ (fun N hN => ?_) (LtN.el lt6) (by simp only [ndN]; omega) (by simp only [dpN]; omega) (by simp only [ndN]; omega)
        · simp only [encN]
          exact .tup upd_same (.cons (.str _) (.cons (.str _) (.cons ((hqa.same g6).same g7) (.cons (tk6.same g7) .nil))))
        · simp only [alN]
          obtain ⟨N', rfl⟩ : ∃ N', N = N' + 1 := ⟨N - 1, by omega⟩
          exact ⟨N', ls5, rfl, rfl, shd.2.2.2.1, Nat.le_trans shd.2.1 (by decide), al6 N' (by omega)⟩
      | aw nn kk =>
        obtain ⟨qq, qk, rfl, hq, hqk⟩ := n_aw ddg
        have hq1 := S.s _ _ hq
        simp only [shN] at shd
        simp only [dpN] at dm
        simp only [ndN] at wm fk
        obtain ⟨m, rfl⟩ : ∃ m, n = m + 1 := ⟨n - 1, by omega⟩
        obtain rfl := hsp m rfl
        refine ⟨_, rfl, qq, _, _, _, rfl, rfl, SqT.of hq1, at_0, rfl, _, rfl, ite2 (fun c => absurd c (sne (by decide +kernel))) (fun _ => ?_)⟩
        refine ⟨_, rfl, qq, _, _, _, rfl, rfl, SqT.of hq1, at_0, rfl, _, rfl, ite2 (fun _ => ?_) (fun c => absurd (by simp) c)⟩
        refine ⟨_, rfl, _, rfl, wd, _, rfl, dg_atW S.hd2, _, _, rfl, rfl, (by show (0 : Int) < 60; decide), rl, _, _, _, rfl, rfl, SqL.of hrl1, hz, ?_⟩
        refine ⟨_, rfl, wd, _, rfl, dg_atW S.hd2, _, _, rfl, rfl, _, rfl, wd, _, rfl, DPut.k (k := .inr "at") S.hd2 (by show 4 < _; decide), ?_⟩
        have S3 := S.put2 (u := .dK (wW (c + 1) lt md (ms || m1)))
        show _
        have hq3 := S3.s _ _ hq
        cases nn with
        | some k1 =>
          refine ⟨_, rfl, qq, _, _, _, rfl, rfl, SqT.of hq3, at_1, _, rfl, iteT' (by simp [nVV]) ?_⟩
          refine ⟨_, rfl, _, _, rfl, rfl, (by show (0 : Int) < 3; decide), rfl, _, rfl, ite2 (fun c1 => ?_) (fun c1 => ?_)⟩
          · have lt3 := S3.up2.hd
            refine ⟨_, rfl, wd, _, rfl, dg_lateW S3.hd2, .inl ⟨rfl, _, SqL.of lt3⟩, _, rfl, qq, _, _, _, rfl, rfl, SqT.of hq3, at_1, lt, _, _, rfl, rfl, lt3, by rw [List.length_append, List.length_map]; omega, ?_⟩
            have S4 := (S3.up2.put (u := .lst (lts ++ l1.map V.int ++ [nVV (some k1)]))).dn2
            refine ⟨by show 2 ≤ sizeLine; decide, fun t1 ht1 => ⟨by show 0 ≤ sizeLine; decide, fun l0 hl0 => ⟨by show 2 ≤ sizeLine; decide, fun t3 ht3 => ⟨by show 1 ≤ sizeLine; decide, fun l2 hl2 => ⟨by show 4 ≤ sizeLine; decide, fun t2 ht2 => ⟨by show 2 ≤ sizeLine; decide, fun fr hfr => ?_⟩⟩⟩⟩⟩⟩
            have A1 := S4.alloc (o := .tup [.str "text", .str "new"]) ht1
            have b1 := S4.grow (o := .tup [.str "text", .str "new"]) ht1
            have A2 := A1.alloc (o := .lst []) hl0
            have b2 := A1.grow (o := .lst []) hl0
            have A3 := A2.alloc (o := .tup [.str "text", .str "in"]) ht3
            have b3 := A2.grow (o := .tup [.str "text", .str "in"]) ht3
            have A4 := A3.alloc (o := .lst [.ref t3]) hl2
            have b4 := A3.grow (o := .lst [.ref t3]) hl2
            have A5 := A4.alloc (o := .tup [.str "element", .str "q", .ref l0, .ref l2]) ht2
            have b5 := A4.grow (o := .tup [.str "element", .str "q", .ref l0, .ref l2]) ht2
            have A6 := A5.alloc (o := .lst [.ref t1, .ref t2]) hfr
            have b6 := A5.grow (o := .lst [.ref t1, .ref t2]) hfr
            have b46 := Same.trans b5 b6
            have b36 := Same.trans b4 b46
            have b16 := Same.trans b2 (Same.trans b3 b36)
            have dfr : DqAll (upd (upd (upd (upd (upd (upd G t1 (.tup [.str "text", .str "new"])) l0 (.lst [])) t3 (.tup [.str "text", .str "in"])) l2 (.lst [.ref t3])) t2 (.tup [.str "element", .str "q", .ref l0, .ref l2])) fr (.lst [.ref t1, .ref t2])) [.ref t1, .ref t2] (encS frS) := by
              simp only [frS, encS, encN]
              refine .cons (.tup (b16 _ _ upd_same) (.cons (.str _) (.cons (.str _) .nil))) (.cons (.tup (b6 _ _ upd_same) (.cons (.str _) (.cons (.str _) (.cons (.lst ((Same.trans b3 b36) _ _ upd_same) .nil) (.cons (.lst (b46 _ _ upd_same) (.cons (.tup (b36 _ _ upd_same) (.cons (.str _) (.cons (.str _) .nil))) .nil)) .nil))))) .nil)
            have hfr6 := upd_same (H := upd (upd (upd (upd (upd G t1 (.tup [.str "text", .str "new"])) l0 (.lst [])) t3 (.tup [.str "text", .str "in"])) l2 (.lst [.ref t3])) t2 (.tup [.str "element", .str "q", .ref l0, .ref l2])) (a := fr) (o := HO.lst [.ref t1, .ref t2])
            have g06 := Same.trans b1 b16
            generalize upd (upd (upd (upd (upd (upd G t1 (.tup [.str "text", .str "new"])) l0 (.lst [])) t3 (.tup [.str "text", .str "in"])) l2 (.lst [.ref t3])) t2 (.tup [.str "element", .str "q", .ref l0, .ref l2])) fr (.lst [.ref t1, .ref t2]) = G6 at A6 dfr hfr6 g06 b6
            clear A1 A2 A3 A4 A5 b1 b2 b3 b4 b5 b6 b46 b36 b16
            have k0 : 0 ≤ z / 3 % 3 := Int.emod_nonneg _ (by decide)
            refine ⟨_, rfl, .inl ⟨rfl, _, SqL.of A6.hd⟩, _, rfl, _, rfl, _, _, rfl, rfl, ⟨by decide, by decide⟩, .inl ⟨_, rfl, _, _, rfl, rfl, (by show (0 : Int) < 3; decide), _, rfl, fr, _, rfl, SqL.of (A6.s _ _ hfr6), fun l5 hl5 => ?_⟩⟩
            rw [show cutV [V.ref t1, V.ref t2] none (some (z / 3 % 3)) = [V.ref t1, V.ref t2].take (z / 3 % 3).toNat from cut_takeI k0]
            have A7 := A6.alloc (o := .lst ([V.ref t1, V.ref t2].take (z / 3 % 3).toNat)) hl5
            have b7 := A6.grow (o := .lst ([V.ref t1, V.ref t2].take (z / 3 % 3).toNat)) hl5
            refine ⟨by show 3 ≤ sizeLine; decide, fun u hu => ?_⟩
            have A8 := A7.alloc (o := .tup [.str "await", .non, .ref l5]) hu
            have b8 := A7.grow (o := .tup [.str "await", .non, .ref l5]) hu
            have nf := frS_nd (z / 3 % 3).toNat
            have pf := frS_dp (z / 3 % 3).toNat
            refine step (.aw none (frS.take (z / 3 % 3).toNat)) (.ref u) _ _ (c + 1) false [k1] _ _ _ (by rw [Bool.or_false, List.map_append, ← List.append_assoc]; exact A8) (Same.trans g06 (Same.trans b7 b8)) ?_ (fun N hN => ?_) LtN.late (by simp only [ndN, List.length_singleton]; omega) (by simp only [dpN]; omega) (by simp only [ndN]; omega)
            · simp only [encN]
              refine .tup upd_same (.cons (.str _) (.cons .non (.cons (.lst (b8 _ _ upd_same) ?_) .nil)))
              rw [encS_map, List.map_take, ← encS_map]
              exact ((dfr.same b7).same b8).tk _
            · simp only [alN]
              exact ⟨none, _, rfl, .inl ⟨by simp, rfl⟩⟩
          · refine ⟨_, rfl, qq, _, _, _, rfl, rfl, SqT.of hq3, at_1, _, rfl, iteF' (by simp [nVV]) (iteF' rfl ?_)⟩
            refine ⟨_, rfl, .inl ⟨rfl, _, SqL.of S3.hd⟩, _, rfl, qq, _, _, _, rfl, rfl, SqT.of hq3, at_1, _, rfl, qq, _, _, _, rfl, rfl, SqT.of hq3, at_2, _, rfl, _, rfl, qk, rl, wd, lt, zs, kk, c + 1, md, ms || m1, lts ++ l1.map V.int, G, (p0, .lst fs) :: M, rfl, S3.dn2, hqk, g _ _ hrl, zl, shd, by omega, by omega, by rw [List.length_append, List.length_map]; omega, fun pk ls5 G6 H6 c6 m6 l6 S6 g6 tk6 al6 lt6 ll6 dp6 nd6 => ⟨by show 3 ≤ sizeLine; decide, fun u hu => ?_⟩⟩
            have S7 := S6.up2.alloc (o := .tup [.str "await", nVV (some k1), .ref pk]) hu
            have g7 := S6.up2.grow (o := .tup [.str "await", nVV (some k1), .ref pk]) hu
            rw [Bool.or_assoc, List.append_assoc, ← List.map_append] at S7
            refine step (.aw (some k1) ls5) (.ref u) _ _ c6 m6 l6 _ _ _ S7 (Same.trans g6 g7) ?_ (fun N hN => ?_) (LtN.aw lt6) (by simp only [ndN]; omega) (by simp only [dpN]; omega) (by simp only [ndN]; omega)
            · simp only [encN]
              exact .tup upd_same (.cons (.str _) (.cons (by first | exact .non | exact .int _) (.cons (tk6.same g7) .nil)))
            · simp only [alN]
              exact ⟨(some k1), ls5, rfl, .inr (.inr ⟨rfl, al6 N (by omega)⟩)⟩
        | none =>
          refine ⟨_, rfl, qq, _, _, _, rfl, rfl, SqT.of hq3, at_1, _, rfl, iteF' (by simp [nVV]) (iteF' rfl ?_)⟩
          refine ⟨_, rfl, qq, _, _, _, rfl, rfl, SqT.of hq3, at_1, _, rfl, iteT' (by simp [nVV]) ?_⟩
          refine ⟨_, rfl, wd, _, rfl, dg_modeW S3.hd2, rfl, _, rfl, ite2 (fun c1 => ?_) (fun c1 => iteF' rfl ?_)⟩
          · refine ⟨_, rfl, _, _, rfl, rfl, (by show (0 : Int) < 4; decide), rfl, _, rfl, ite2 (fun c2 => ?_) (fun c2 => ?_)⟩
            · skip
              refine ⟨_, rfl, wd, _, rfl, DPut.k (k := .inr "missing") S3.hd2 (by show 4 < _; decide), ?_⟩
              have S4 := S3.put2 (u := .dK (wW (c + 1) lt md true))
              show _
              refine ⟨_, rfl, .inl ⟨rfl, _, SqL.of S4.hd⟩, _, rfl, wd, _, rfl, dg_atW S4.hd2, _, _, rfl, rfl, _, rfl, qq, _, _, _, rfl, rfl, SqT.of (S4.s _ _ hq), at_2, by show 3 ≤ sizeLine; decide, fun u hu => ?_⟩
              have S5 := S4.alloc (o := .tup [.str "await", .int (900 + (c + 1)), .ref qk]) hu
              have g5 := S4.grow (o := .tup [.str "await", .int (900 + (c + 1)), .ref qk]) hu
              refine step (.aw (some (900 + (c + 1))) kk) (.ref u) _ _ (c + 1) true [] _ _ _ (by rw [Bool.or_true, Bool.or_true, List.append_nil]; exact S5) g5 ?_ (fun N hN => ?_) LtN.miss (by simp) (by simp only [dpN]; omega) (by simp only [ndN]; omega)
              · simp only [encN]
                exact .tup upd_same (.cons (.str _) (.cons (.int _) (.cons (hqk.same g5) .nil)))
              · simp only [alN]
                exact ⟨some (900 + (c + 1)), kk, rfl, .inr (.inl ⟨trivial, by simp⟩)⟩
            · skip
              refine ⟨_, rfl, .inl ⟨rfl, _, SqL.of S3.hd⟩, _, rfl, qq, _, _, _, rfl, rfl, SqT.of hq3, at_1, _, rfl, qq, _, _, _, rfl, rfl, SqT.of hq3, at_2, _, rfl, _, rfl, qk, rl, wd, lt, zs, kk, c + 1, md, ms || m1, lts ++ l1.map V.int, G, (p0, .lst fs) :: M, rfl, S3.dn2, hqk, g _ _ hrl, zl, shd, by omega, by omega, by rw [List.length_append, List.length_map]; omega, fun pk ls5 G6 H6 c6 m6 l6 S6 g6 tk6 al6 lt6 ll6 dp6 nd6 => ⟨by show 3 ≤ sizeLine; decide, fun u hu => ?_⟩⟩
              have S7 := S6.up2.alloc (o := .tup [.str "await", nVV none, .ref pk]) hu
              have g7 := S6.up2.grow (o := .tup [.str "await", nVV none, .ref pk]) hu
              rw [Bool.or_assoc, List.append_assoc, ← List.map_append] at S7
              refine step (.aw none ls5) (.ref u) _ _ c6 m6 l6 _ _ _ S7 (Same.trans g6 g7) ?_ (fun N hN => ?_) (LtN.aw lt6) (by simp only [ndN]; omega) (by simp only [dpN]; omega) (by simp only [ndN]; omega)
              · simp only [encN]
                exact .tup upd_same (.cons (.str _) (.cons (by first | exact .non | exact .int _) (.cons (tk6.same g7) .nil)))
              · simp only [alN]
                exact ⟨none, ls5, rfl, .inr (.inr ⟨rfl, al6 N (by omega)⟩)⟩
          · skip
            refine ⟨_, rfl, .inl ⟨rfl, _, SqL.of S3.hd⟩, _, rfl, qq, _, _, _, rfl, rfl, SqT.of hq3, at_1, _, rfl, qq, _, _, _, rfl, rfl, SqT.of hq3, at_2, _, rfl, _, rfl, qk, rl, wd, lt, zs, kk, c + 1, md, ms || m1, lts ++ l1.map V.int, G, (p0, .lst fs) :: M, rfl, S3.dn2, hqk, g _ _ hrl, zl, shd, by omega, by omega, by rw [List.length_append, List.length_map]; omega, fun pk ls5 G6 H6 c6 m6 l6 S6 g6 tk6 al6 lt6 ll6 dp6 nd6 => ⟨by show 3 ≤ sizeLine; decide, fun u hu => ?_⟩⟩
            have S7 := S6.up2.alloc (o := .tup [.str "await", nVV none, .ref pk]) hu
            have g7 := S6.up2.grow (o := .tup [.str "await", nVV none, .ref pk]) hu
            rw [Bool.or_assoc, List.append_assoc, ← List.map_append] at S7
            refine step (.aw none ls5) (.ref u) _ _ c6 m6 l6 _ _ _ S7 (Same.trans g6 g7) ?_ (fun N hN => ?_) (LtN.aw lt6) (by simp only [ndN]; omega) (by simp only [dpN]; omega) (by simp only [ndN]; omega)
            · simp only [encN]
              exact .tup upd_same (.cons (.str _) (.cons (by first | exact .non | exact .int _) (.cons (tk6.same g7) .nil)))
            · simp only [alN]
              exact ⟨none, ls5, rfl, .inr (.inr ⟨rfl, al6 N (by omega)⟩)⟩
    · rintro σ H1 ⟨G, fs, ls, c, m1, l1, y4, y5, y6, S, g, df, al, lt1, ll1, dl, nl, rfl⟩
      rw [hl, List.take_length] at nl al lt1 ll1
      obtain ⟨S4, g4⟩ := S.drop
      exact ⟨_, rfl, q p0 ls _ H1 c m1 l1 S4 (Same.trans g g4) (.lst upd_same (df.same g4)) al lt1 ll1 dl nl⟩
theorem turn_N (T : Txt K w mg C) : ∀ n : Nat, Cal P w K mg base (n + 2) "_law_turned" (spTurn n)
  | 0 => turn_S T (n := 0) (sp := spFalse) (fun m h => by omega) (turn_0 T)
  | n + 1 => turn_S T (n := n + 1) (sp := spTurn n) (fun m h => by rw [Nat.succ.inj h]) (turn_N T n)
end
end VL

set_option Elab.async false
set_option linter.all false
set_option pp.maxSteps 700
set_option maxRecDepth 100000
set_option maxHeartbeats 4000000
namespace VL
open PySem PySem.Spec PyProof.Rows L2
theorem cat_path {K : PySem.W.Frag} {G H : Hp} {M : List (Addr × HO)} {a b : Addr} {p : List Int} {k : Int} {Q : VK} (S : Sb G H M) (ha : PathA G a p) (hb : PathA G b [k]) (hl : p.length ≤ 100) (q : ∀ t G' H', Sb G' H' M → Same G G' → PathA G' t (p ++ [k]) → Q (.ref t) H') : rCatA K (.ref a) (.ref b) H Q := by
  have big : 100000 < sizeLine := by decide
  refine ⟨a, b, p.map V.int, [.int k], rfl, rfl, SqT.of (S.s _ _ ha), SqT.of (S.s _ _ hb), by simp only [List.length_map, List.length_singleton]; omega, fun e => ?_, fun _ e => (nomatch e), fun _ _ t ht => ?_⟩
  · have : p = [] := by simpa using e
    subst this
    exact q b G H S (Same.refl _) hb
  · have g := S.grow (o := .tup (p.map V.int ++ [.int k])) ht
    refine q t _ _ (S.alloc ht) g ?_
    show _ = some (HO.tup ((p ++ [k]).map V.int))
    rw [List.map_append]
    exact upd_same
def spCount (n : Nat) : Sp := fun vs H Q _ => ∃ (a : Addr) (ks : List Nd), vs = [.ref a] ∧ TreeA H a ks ∧ adS ks ≤ n ∧ Q (.int (cS ks : Int)) H
def wF (i j : Nat) (pl : Addr) : List (Key × V) := [(.inr "i", .int (i : Int)), (.inr "j", .int (j : Int)), (.inr "pairs", .ref pl)]
theorem dg_i {H : Hp} {d pl : Addr} {i j : Nat} (h : H d = some (.dK (wF i j pl))) : DGet H d (.str "i") (some (.int (i : Int))) := by
  have := DGet.k (k := .inr "i") h
  exact this
theorem dg_j {H : Hp} {d pl : Addr} {i j : Nat} (h : H d = some (.dK (wF i j pl))) : DGet H d (.str "j") (some (.int (j : Int))) := by
  have := DGet.k (k := .inr "j") h
  exact this
theorem dg_ps {H : Hp} {d pl : Addr} {i j : Nat} (h : H d = some (.dK (wF i j pl))) : DGet H d (.str "pairs") (some (.ref pl)) := by
  have := DGet.k (k := .inr "pairs") h
  exact this
def spPars (n : Nat) : Sp := fun vs H Q _ => ∃ (a b bf af fd pl : Addr) (ps : List V) (ks ls : List Nd) (p q : List Int) (i j N : Nat) (es : List Ew) (G : Hp) (M : List (Addr × HO)), vs = [.ref a, .ref b, .ref bf, .ref af, .ref fd] ∧ Sb G H ((fd, .dK (wF i j pl)) :: (pl, .lst ps) :: M) ∧ TreeA G a ks ∧ TreeA G b ls ∧ alS ks N ls ∧ dpS ks ≤ n ∧ dpS ls ≤ 12 ∧ n ≤ 12 ∧ ndS ks ≤ 20000 ∧ PathA G bf p ∧ PathA G af q ∧ p.length + n ≤ 50 ∧ q.length + n ≤ 50 ∧ reS p q i j ks ls = some es ∧ ps.length + es.length ≤ 1000000 ∧
  ∀ ps' G' H', Sb G' H' ((fd, .dK (wF (i + cS ks) (j + cS ls) pl)) :: (pl, .lst (ps ++ ps')) :: M) → Same G G' → DqAll G' ps' (prD es) → Q .non H'
section
variable {P : Program} {w : World} {K : PySem.W.Frag} {mg : Str → Option Value} {base : Heap} {C : Ad}
theorem sc__law_count : FnScope ["nodes", "count", "node"] ["nodes"] (defScope s__law_count) := ⟨rfl, rfl, rfl, by decide +kernel, rfl, by decide +kernel, by decide +kernel⟩
theorem count_0 (T : Txt K w mg C) {k : Nat} : Cal P w K mg base (k + 1) "_law_count" spFalse := cal_of T.d__law_count sc__law_count (fun vs H Q E h => h.elim) (fun f cdv A outer s H vs Q E hr h => h.elim)
theorem count_S (T : Txt K w mg C) {n k : Nat} {sp : Sp} (hsp : ∀ m, m + 1 = n → sp = spCount m) (G_law_count : Cal P w K mg base k "_law_count" sp) : Cal P w K mg base (k + 1) "_law_count" (spCount n) := by
  refine cal_of T.d__law_count sc__law_count (fun vs H Q E h => ?_) (fun f cdv A outer s H vs Q E hr h => ?_)
  · obtain ⟨a, ks, rfl, _⟩ := h
    rfl
  · obtain ⟨a, ks, rfl, ht, hn, q⟩ := h
    obtain ⟨xs, ha, hl, hd⟩ := tree_at ht
    refine ⟨_, (pss_cons (ps_set (i := 1) sc__law_count.nd rfl (Or.inl rfl) pe_int) (pss_cons (ps_for PassesOwn.never rfl (pi_list (pv 0)) (pg_name (i := 2) sc__law_count.nd rfl (Or.inl rfl)) (pss_one (ps_set (i := 1) sc__law_count.nd rfl (Or.inl rfl) (pe_op op_add (pv 1) (pe_ifExp (pt_cmpR op_eq (pe_ix ix_tup (pv 2) pe_int (fun _ _ => rfl)) pe_str (nomark _)) (pe_c G_law_count hr (by omega) (by rfl) (pa_cons (pe_ix ix_tup (pv 2) pe_int (fun _ _ => rfl)) pa_nil)) pe_int))))) (pss_one (ps_ret (pv 1))))), ?_⟩
    refine ⟨_, rfl, a, rfl, ⟨_, SqL.of ha⟩, ?_⟩
    refine for_it (walk_list (K := K) (a := a) (xs := xs)) (fun i σ H' => ∃ (y : Option V), H' = H ∧ σ = [some (.ref a), some (.int (cS (ks.take i) : Int)), y]) ⟨none, rfl, rfl⟩ (fun i σ H' _ ⟨_, e, _⟩ => by rw [e]; exact SqL.of ha) ?_ ?_
    · rintro i x σ H1 H2 hi ⟨y, rfl, rfl⟩ ⟨rfl, hx⟩
      obtain ⟨d, hdi, dd⟩ := node_at hd hx
      have dm := ad_mem (List.mem_of_getElem? hdi)
      have tk : cS (ks.take (i + 1)) = cS (ks.take i) + cN d := by rw [List.take_add_one, hdi]; exact cS_snoc _ _
      cases d with
      | tx x =>
        obtain ⟨qq, rfl, hq⟩ := n_tx dd
        refine ⟨_, rfl, _, rfl, qq, _, _, _, rfl, rfl, SqT.of hq, at_0, rfl, _, rfl, ite2 (fun c => absurd c (sne (by decide +kernel))) (fun _ => ?_)⟩
        exact ⟨_, _, rfl, rfl, some (.ref qq), rfl, by rw [tk]; rfl⟩
      | el t as kk =>
        obtain ⟨qq, qa, qk, rfl, hq, hqa, hqk⟩ := n_el dd
        refine ⟨_, rfl, _, rfl, qq, _, _, _, rfl, rfl, SqT.of hq, at_0, rfl, _, rfl, ite2 (fun c => absurd c (sne (by decide +kernel))) (fun _ => ?_)⟩
        exact ⟨_, _, rfl, rfl, some (.ref qq), rfl, by rw [tk]; rfl⟩
      | aw nn kk =>
        obtain ⟨qq, qk, rfl, hq, hqk⟩ := n_aw dd
        simp only [adN] at dm
        obtain ⟨m, rfl⟩ : ∃ m, n = m + 1 := ⟨n - 1, by omega⟩
        obtain rfl := hsp m rfl
        refine ⟨_, rfl, _, rfl, qq, _, _, _, rfl, rfl, SqT.of hq, at_0, rfl, _, rfl, ite2 (fun _ => ?_) (fun c => absurd (by simp) c)⟩
        refine ⟨_, rfl, qq, _, _, _, rfl, rfl, SqT.of hq, at_2, qk, kk, rfl, hqk, by omega, ?_⟩
        exact ⟨_, _, rfl, rfl, some (.ref qq), rfl, by rw [tk]; rfl⟩
    · rintro σ H1 ⟨y, rfl, rfl⟩
      rw [hl, List.take_length]
      exact ⟨_, rfl, q⟩
theorem count_N (T : Txt K w mg C) : ∀ n : Nat, Cal P w K mg base (n + 2) "_law_count" (spCount n)
  | 0 => count_S T (n := 0) (sp := spFalse) (fun m h => by omega) (count_0 T)
  | n + 1 => count_S T (n := n + 1) (sp := spCount n) (fun m h => by rw [Nat.succ.inj h]) (count_N T n)
theorem sc__law_partners : FnScope ["read", "now", "before", "after", "found", "i", "j", "k", "one", "two", "inner"] ["read", "now", "before", "after", "found"] (defScope s__law_partners) := ⟨rfl, rfl, rfl, by decide +kernel, rfl, by decide +kernel, by decide +kernel⟩
theorem pars_0 (T : Txt K w mg C) {k : Nat} : Cal P w K mg base (k + 1) "_law_partners" spFalse := cal_of T.d__law_partners sc__law_partners (fun vs H Q E h => h.elim) (fun f cdv A outer s H vs Q E hr h => h.elim)
theorem pars_S (T : Txt K w mg C) {n k : Nat} {sp : Sp} (hk : 15 ≤ k) (hsp : ∀ m, m + 1 = n → sp = spPars m) (G_law_partners : Cal P w K mg base k "_law_partners" sp) : Cal P w K mg base (k + 1) "_law_partners" (spPars n) := by
  have G_law_count := count_N (P := P) (base := base) T 12
  refine cal_of T.d__law_partners sc__law_partners (fun vs H Q E h => ?_) (fun f cdv A outer s H vs Q E hr h => ?_)
  · obtain ⟨a, b, bf, af, fd, pl, ps, ks, ls, p, q, i, j, N, es, G, M, rfl, _⟩ := h
    rfl
  · obtain ⟨a, b, bf, af, fd, pl, ps, ks, ls, p, q, i, j, N, es, G0, M, rfl, S0, ta, tb, al, dk, dl, n12, nd, hbf, haf, pN, qN, hre, psl, out⟩ := h
    obtain ⟨xs, ha, hl, hd⟩ := tree_at ta
    obtain ⟨ys, hb, hl2, hd2⟩ := tree_at tb
    have hu := hu_of hr
    have big : 10000000 < sizeLine := by decide
    have lnd := len_ndS ks
    have lal := alS_len al
    refine ⟨_, (pss_cons (ps_set (i := 5) sc__law_partners.nd rfl (Or.inl rfl) (pe_dget hu (pv 4) pe_str (fun _ _ => rfl))) (pss_cons (ps_set (i := 6) sc__law_partners.nd rfl (Or.inl rfl) (pe_dget hu (pv 4) pe_str (fun _ _ => rfl))) (pss_cons (ps_for PassesOwn.never rfl (pi_range1 (by rfl) T.z_range (pa_cons (pe_callB call_len_seq (by rfl) T.z_len PySem.boot_len (pa_cons (pv 0) pa_nil)) pa_nil)) (pg_name (i := 7) sc__law_partners.nd rfl (Or.inl rfl)) (pss_cons (ps_set (i := 8) sc__law_partners.nd rfl (Or.inl rfl) (pe_ix ix_list (pv 0) (pv 7) (fun _ _ => rfl))) (pss_cons (ps_set (i := 9) sc__law_partners.nd rfl (Or.inl rfl) (pe_ix ix_list (pv 1) (pv 7) (fun _ _ => rfl))) (pss_one (ps_if (PW.pt (pw_and (pt_cmpR op_eq (pe_ix ix_tup (pv 8) pe_int (fun _ _ => rfl)) pe_str (nomark _)) (pw_and (pt_cmp (pc_notN (pe_ix ix_tup (pv 8) pe_int (fun _ _ => rfl)))) (pw_and1 (pt_cmp (pc_isN (pe_ix ix_tup (pv 9) pe_int (fun _ _ => rfl)))))))) (pss_cons (ps_set (i := 5) sc__law_partners.nd rfl (Or.inl rfl) (pe_op op_add (pv 5) (pe_c G_law_count hr (by omega) (by rfl) (pa_cons (pe_ix ix_tup (pv 8) pe_int (fun _ _ => rfl)) pa_nil)))) (pss_one (ps_set (i := 6) sc__law_partners.nd rfl (Or.inl rfl) (pe_op op_add (pv 6) (pe_c G_law_count hr (by omega) (by rfl) (pa_cons (pe_ix ix_tup (pv 9) pe_int (fun _ _ => rfl)) pa_nil)))))) (pss_one (ps_if (pt_cmpR op_eq (pe_ix ix_tup (pv 8) pe_int (fun _ _ => rfl)) pe_str (nomark _)) (pss_cons (ps_dput hu (pv 4) pe_str (pv 5) rfl) (pss_cons (ps_dput hu (pv 4) pe_str (pv 6) rfl) (pss_cons (ps_expr (pe_c G_law_partners hr (by omega) (by rfl) (pa_cons (pe_ix ix_tup (pv 8) pe_int (fun _ _ => rfl)) (pa_cons (pe_ix ix_tup (pv 9) pe_int (fun _ _ => rfl)) (pa_cons (pv 2) (pa_cons (pv 3) (pa_cons (pv 4) pa_nil))))))) (pss_cons (ps_set (i := 5) sc__law_partners.nd rfl (Or.inl rfl) (pe_dget hu (pv 4) pe_str (fun _ _ => rfl))) (pss_one (ps_set (i := 6) sc__law_partners.nd rfl (Or.inl rfl) (pe_dget hu (pv 4) pe_str (fun _ _ => rfl)))))))) (pss_cons (ps_expr (pe_bm PySem.F.plainAttrs_list PySem.F.slot_list_append PySem.F.type_list_append mt_append (pe_dget hu (pv 4) pe_str (fun _ _ => rfl)) (pa_cons (pe_tup (pa_cons (pe_op op_catA (pv 2) (pe_tup (pa_cons (pv 5) pa_nil))) (pa_cons (pe_op op_catA (pv 3) (pe_tup (pa_cons (pv 6) pa_nil))) pa_nil))) pa_nil))) (pss_cons (ps_if (pt_cmpR op_eq (pe_ix ix_tup (pv 8) pe_int (fun _ _ => rfl)) pe_str (nomark _)) (pss_cons (ps_set (i := 10) sc__law_partners.nd rfl (Or.inl rfl) (pe_disp (pps_cons pe_str pe_int (pps_cons pe_str pe_int (pps_cons pe_str (pe_dget hu (pv 4) pe_str (fun _ _ => rfl)) pps_nil))) (by rfl) (by rfl) (fun z => by cases z) (by decide))) (pss_one (ps_expr (pe_c G_law_partners hr (by omega) (by rfl) (pa_cons (pe_ix ix_tup (pv 8) pe_int (fun _ _ => rfl)) (pa_cons (pe_ix ix_tup (pv 9) pe_int (fun _ _ => rfl)) (pa_cons (pe_op op_catA (pv 2) (pe_tup (pa_cons (pv 5) pa_nil))) (pa_cons (pe_op op_catA (pv 3) (pe_tup (pa_cons (pv 6) pa_nil))) (pa_cons (pv 10) pa_nil))))))))) pss_nil) (pss_cons (ps_set (i := 5) sc__law_partners.nd rfl (Or.inl rfl) (pe_op op_add (pv 5) pe_int)) (pss_one (ps_set (i := 6) sc__law_partners.nd rfl (Or.inl rfl) (pe_op op_add (pv 6) pe_int))))))))))))) (pss_cons (ps_dput hu (pv 4) pe_str (pv 5) rfl) (pss_one (ps_dput hu (pv 4) pe_str (pv 6) rfl)))))), ?_⟩
    refine ⟨_, rfl, fd, _, rfl, dg_i S0.hd, ?_⟩
    refine ⟨_, rfl, fd, _, rfl, dg_j S0.hd, ?_⟩
    refine ⟨_, rfl, a, xs, rfl, .inl (SqL.of (S0.s _ _ ha)), _, rfl, by omega, by omega, ?_⟩
    refine for_it (walk_range (lo := 0) (n := ((xs.length : Nat) : Int).toNat)) (fun k σ H' => ∃ (G : Hp) (fi fj : Nat) (ps1 : List V) (es1 : List Ew) (y7 y8 y9 y10 : Option V), Sb G H' ((fd, .dK (wF fi fj pl)) :: (pl, .lst (ps ++ ps1)) :: M) ∧ Same G0 G ∧ DqAll G ps1 (prD es1) ∧ reS p q i j (ks.take k) (ls.take k) = some es1 ∧ σ = [some (.ref a), some (.ref b), some (.ref bf), some (.ref af), some (.ref fd), some (.int ((i + cS (ks.take k) : Nat) : Int)), some (.int ((j + cS (ls.take k) : Nat) : Int)), y7, y8, y9, y10]) ⟨G0, i, j, [], [], none, none, none, none, by rw [List.append_nil]; exact S0, Same.refl _, .nil, by simp [reS], by simp [cS]; rfl⟩ (fun _ _ _ _ _ => trivial) ?_ ?_
    · rintro k x σ H1 H2 hk' ⟨G, fi, fj, ps1, es1, y7, y8, y9, y10, S, g, dp1, hr1, rfl⟩ ⟨rfl, rfl⟩
      have kl : k < ks.length := by omega
      have kl2 : k < ls.length := by omega
      have hx1 : xs[k]? = some (xs[k]'(by omega)) := List.getElem?_eq_getElem (by omega)
      have hx2 : ys[k]? = some (ys[k]'(by omega)) := List.getElem?_eq_getElem (by omega)
      generalize xs[k]'(by omega) = v1 at hx1
      generalize ys[k]'(by omega) = v2 at hx2
      obtain ⟨d, hdi, dd⟩ := node_at hd hx1
      obtain ⟨e, hei, de⟩ := node_at hd2 hx2
      have ade := alS_at al hdi hei
      have dm := dp_mem (List.mem_of_getElem? hdi)
      have dme := dp_mem (List.mem_of_getElem? hei)
      have nm := nd_mem (List.mem_of_getElem? hdi)
      have tk1 : ks.take (k + 1) = ks.take k ++ [d] := by rw [List.take_add_one, hdi]; rfl
      have tk2 : ls.take (k + 1) = ls.take k ++ [e] := by rw [List.take_add_one, hei]; rfl
      have lt1 : (ks.take k).length = (ls.take k).length := by rw [List.length_take, List.length_take]; omega
      have lt2 : (ks.take (k + 1)).length = (ls.take (k + 1)).length := by rw [List.length_take, List.length_take]; omega
      obtain ⟨x1, x2, hx, _, hes⟩ := reS_split (b := ks.drop (k + 1)) (ms := ls.drop (k + 1)) lt2 (by rw [List.take_append_drop, List.take_append_drop]; exact hre)
      have hx' := hx
      rw [tk1, tk2] at hx'
      obtain ⟨y1, y2, hy1, hy2, hxy⟩ := reS_split lt1 hx'
      rw [hr1] at hy1
      obtain rfl := Option.some.inj hy1
      rw [reS_one] at hy2
      subst hxy
      have esl : es1.length + y2.length ≤ es.length := by rw [hes, List.length_append, List.length_append]; omega
      have pl1 := dp1.len
      have pl2 := prD_len es1
      have ei : (0 : Int) + (k : Int) = (k : Int) := by omega
      have ae := atn hx1 ei
      have ae2 := atn hx2 ei
      have dd2 := dd.same g
      have de2 := de.same g
      have c1 : cS (ks.take (k + 1)) = cS (ks.take k) + cN d := by rw [tk1]; exact cS_snoc _ _
      have c2 : cS (ls.take (k + 1)) = cS (ls.take k) + cN e := by rw [tk2]; exact cS_snoc _ _
      have ha1 := S.s _ _ (g _ _ ha)
      have hb1 := S.s _ _ (g _ _ hb)
      refine ⟨_, rfl, _, rfl, a, xs, _, _, rfl, rfl, SqL.of ha1, ae, ?_⟩
      refine ⟨_, rfl, _, rfl, b, ys, _, _, rfl, rfl, SqL.of hb1, ae2, ?_⟩
      generalize hI : i + cS (ks.take k) = I at hy2 ⊢
      generalize hJ : j + cS (ls.take k) = J at hy2 ⊢
      have fin : ∀ (G3 H3 : Hp) (fi fj : Nat) (ps2 : List V) (I' J' : Nat) (y7 y8 y9 y10 : Option V), Sb G3 H3 ((fd, .dK (wF fi fj pl)) :: (pl, .lst (ps ++ (ps1 ++ ps2))) :: M) → Same G G3 → DqAll G3 ps2 (prD y2) → I' = I + cN d → J' = J + cN e →
          ∃ (G : Hp) (fi fj : Nat) (ps1 : List V) (es1 : List Ew) (z7 z8 z9 z10 : Option V), Sb G H3 ((fd, .dK (wF fi fj pl)) :: (pl, .lst (ps ++ ps1)) :: M) ∧ Same G0 G ∧ DqAll G ps1 (prD es1) ∧ reS p q i j (ks.take (k + 1)) (ls.take (k + 1)) = some es1 ∧ [some (.ref a), some (.ref b), some (.ref bf), some (.ref af), some (.ref fd), some (.int (I' : Int)), some (.int (J' : Int)), y7, y8, y9, y10] = [some (.ref a), some (.ref b), some (.ref bf), some (.ref af), some (.ref fd), some (.int ((i + cS (ks.take (k + 1)) : Nat) : Int)), some (.int ((j + cS (ls.take (k + 1)) : Nat) : Int)), z7, z8, z9, z10] := by
        intro G3 H3 fi fj ps2 I' J' y7 y8 y9 y10 S3 g3 d3 eI eJ
        refine ⟨G3, fi, fj, ps1 ++ ps2, es1 ++ y2, y7, y8, y9, y10, S3, Same.trans g g3, ?_, hx, ?_⟩
        · rw [prD_app]
          exact dqAll_ap (dp1.same g3) d3
        · rw [c1, c2, ← Nat.add_assoc, ← Nat.add_assoc, hI, hJ, eI, eJ]
      cases d with
      | tx x =>
        simp only [alN] at ade
        subst ade
        simp only [reN] at hy2
        obtain rfl := Option.some.inj hy2
        simp only [List.length_singleton] at esl
        obtain ⟨q1, rfl, hq1'⟩ := n_tx dd2
        obtain ⟨q2, rfl, hq2'⟩ := n_tx de2
        have hq1 := S.s _ _ hq1'
        refine ⟨_, rfl, q1, _, _, _, rfl, rfl, SqT.of hq1, at_0, rfl, _, rfl, ite2 (fun c => absurd c (sne (by decide +kernel))) (fun _ => ?_)⟩
        refine iteF' rfl ?_
        refine ⟨_, rfl, q1, _, _, _, rfl, rfl, SqT.of hq1, at_0, rfl, _, rfl, ite2 (fun c => absurd c (sne (by decide +kernel))) (fun _ => ?_)⟩
        refine ⟨_, rfl, fd, _, rfl, dg_ps S.hd, .inl ⟨rfl, _, SqL.of S.hd2⟩, _, rfl, _, rfl, by show 1 ≤ sizeLine; decide, fun t1 ht1 => ?_⟩
        have S1 := S.alloc (o := .tup [.int (I : Int)]) ht1
        have g1 := S.grow (o := .tup [.int (I : Int)]) ht1
        refine cat_path S1 (g1 _ _ (g _ _ hbf)) upd_same (by omega) fun t2 G2 H3 S2 g2 hp2 => ?_
        refine ⟨_, rfl, _, rfl, by show 1 ≤ sizeLine; decide, fun t3 ht3 => ?_⟩
        have S3 := S2.alloc (o := .tup [.int (J : Int)]) ht3
        have g3 := S2.grow (o := .tup [.int (J : Int)]) ht3
        refine cat_path S3 (g3 _ _ (g2 _ _ (g1 _ _ (g _ _ haf)))) upd_same (by omega) fun t4 G4 H5 S4 g4 hp4 => ?_
        refine ⟨by show 2 ≤ sizeLine; decide, fun t5 ht5 => ?_⟩
        have S5 := S4.alloc (o := .tup [.ref t2, .ref t4]) ht5
        have g5 := S4.grow (o := .tup [.ref t2, .ref t4]) ht5
        have dpr := dq_pr (p := p ++ [(I : Int)]) (p2 := q ++ [(J : Int)]) (upd_same (H := G4) (a := t5) (o := HO.tup [V.ref t2, V.ref t4])) (g5 _ _ (g4 _ _ (g3 _ _ hp2))) (g5 _ _ hp4)
        refine ⟨pl, _, _, rfl, rfl, S5.hd2, by rw [List.length_append]; omega, ?_⟩
        have S6 := S5.put2 (u := .lst (ps ++ ps1 ++ [.ref t5]))
        generalize upd (upd H5 t5 (.tup [.ref t2, .ref t4])) pl (.lst (ps ++ ps1 ++ [.ref t5])) = H6 at S6 ⊢
        rw [List.append_assoc] at S6
        have g16 := Same.trans g1 (Same.trans g2 (Same.trans g3 (Same.trans g4 g5)))
        refine ⟨_, rfl, q1, _, _, _, rfl, rfl, SqT.of (S6.s _ _ (g16 _ _ hq1')), at_0, rfl, _, rfl, ite2 (fun c => absurd c (sne (by decide +kernel))) (fun _ => ?_)⟩
        refine ⟨_, rfl, _, _, rfl, rfl, ?_⟩
        refine ⟨_, rfl, _, _, rfl, rfl, ?_⟩
        exact fin _ H6 fi fj [.ref t5] (I + 1) (J + 1) _ _ _ _ S6 g16 (.cons dpr .nil) rfl rfl
      | el t as kk =>
        simp only [alN] at ade
        obtain ⟨N', ll, rfl, rfl, _, _, alk⟩ := ade
        simp only [reN] at hy2
        obtain ⟨ek, hek, rfl⟩ := Option.map_eq_some_iff.mp hy2
        simp only [List.length_cons] at esl
        simp only [dpN] at dm dme
        simp only [ndN] at nm
        obtain ⟨m, rfl⟩ : ∃ m, n = m + 1 := ⟨n - 1, by omega⟩
        obtain rfl := hsp m rfl
        obtain ⟨q1, qa1, qk1, rfl, hq1', hqa1, hqk1⟩ := n_el dd2
        obtain ⟨q2, qa2, qk2, rfl, hq2', hqa2, hqk2⟩ := n_el de2
        have hq1 := S.s _ _ hq1'
        refine ⟨_, rfl, q1, _, _, _, rfl, rfl, SqT.of hq1, at_0, rfl, _, rfl, ite2 (fun c => absurd c (sne (by decide +kernel))) (fun _ => ?_)⟩
        refine iteF' rfl ?_
        refine ⟨_, rfl, q1, _, _, _, rfl, rfl, SqT.of hq1, at_0, rfl, _, rfl, ite2 (fun c => absurd c (sne (by decide +kernel))) (fun _ => ?_)⟩
        refine ⟨_, rfl, fd, _, rfl, dg_ps S.hd, .inl ⟨rfl, _, SqL.of S.hd2⟩, _, rfl, _, rfl, by show 1 ≤ sizeLine; decide, fun t1 ht1 => ?_⟩
        have S1 := S.alloc (o := .tup [.int (I : Int)]) ht1
        have g1 := S.grow (o := .tup [.int (I : Int)]) ht1
        refine cat_path S1 (g1 _ _ (g _ _ hbf)) upd_same (by omega) fun t2 G2 H3 S2 g2 hp2 => ?_
        refine ⟨_, rfl, _, rfl, by show 1 ≤ sizeLine; decide, fun t3 ht3 => ?_⟩
        have S3 := S2.alloc (o := .tup [.int (J : Int)]) ht3
        have g3 := S2.grow (o := .tup [.int (J : Int)]) ht3
        refine cat_path S3 (g3 _ _ (g2 _ _ (g1 _ _ (g _ _ haf)))) upd_same (by omega) fun t4 G4 H5 S4 g4 hp4 => ?_
        refine ⟨by show 2 ≤ sizeLine; decide, fun t5 ht5 => ?_⟩
        have S5 := S4.alloc (o := .tup [.ref t2, .ref t4]) ht5
        have g5 := S4.grow (o := .tup [.ref t2, .ref t4]) ht5
        have dpr := dq_pr (p := p ++ [(I : Int)]) (p2 := q ++ [(J : Int)]) (upd_same (H := G4) (a := t5) (o := HO.tup [V.ref t2, V.ref t4])) (g5 _ _ (g4 _ _ (g3 _ _ hp2))) (g5 _ _ hp4)
        refine ⟨pl, _, _, rfl, rfl, S5.hd2, by rw [List.length_append]; omega, ?_⟩
        have S6 := S5.put2 (u := .lst (ps ++ ps1 ++ [.ref t5]))
        generalize upd (upd H5 t5 (.tup [.ref t2, .ref t4])) pl (.lst (ps ++ ps1 ++ [.ref t5])) = H6 at S6 ⊢
        rw [List.append_assoc] at S6
        have g16 := Same.trans g1 (Same.trans g2 (Same.trans g3 (Same.trans g4 g5)))
        refine ⟨_, rfl, q1, _, _, _, rfl, rfl, SqT.of (S6.s _ _ (g16 _ _ hq1')), at_0, rfl, _, rfl, ite2 (fun _ => ?_) (fun c => absurd (by simp) c)⟩
        refine fun D hD => ?_
        have S7 := S6.add (o := .dK []) hD
        refine ⟨_, rfl, fd, _, rfl, dg_ps S7.hd2, upd_same, [(.inr "i", .int 0), (.inr "j", .int 0), (.inr "pairs", .ref pl)], rfl, by show 3 ≤ 15; decide, ?_⟩
        have S8 := S6.add (o := .dK (wF 0 0 pl)) hD
        have eu : upd (upd H6 D (.dK [])) D (.dK (mergeK [] [(.inr "i", .int 0), (.inr "j", .int 0), (.inr "pairs", .ref pl)])) = upd H6 D (.dK (wF 0 0 pl)) := by
          have e : mergeK [] [(.inr "i", .int 0), (.inr "j", .int 0), (.inr "pairs", .ref pl)] = wF 0 0 pl := rfl
          rw [e]
          funext b
          by_cases z : b = D
          · subst z; rw [upd_same, upd_same]
          · rw [upd_ne z, upd_ne z, upd_ne z]
        rw [eu]
        clear S7 eu
        generalize upd H6 D (.dK (wF 0 0 pl)) = H8 at S8 ⊢
        refine ⟨_, rfl, q1, _, _, _, rfl, rfl, SqT.of (S8.s _ _ (g16 _ _ hq1')), at_3, _, rfl, q2, _, _, _, rfl, rfl, SqT.of (S8.s _ _ (g16 _ _ hq2')), at_3, _, rfl, _, rfl, by show 1 ≤ sizeLine; decide, fun t6 ht6 => ?_⟩
        have S9 := S8.alloc (o := .tup [.int (I : Int)]) ht6
        have g9 := S8.grow (o := .tup [.int (I : Int)]) ht6
        refine cat_path S9 (g9 _ _ (g16 _ _ (g _ _ hbf))) upd_same (by omega) fun t7 G7 H10 S10 g10 hp7 => ?_
        refine ⟨_, rfl, _, rfl, by show 1 ≤ sizeLine; decide, fun t8 ht8 => ?_⟩
        have S11 := S10.alloc (o := .tup [.int (J : Int)]) ht8
        have g11 := S10.grow (o := .tup [.int (J : Int)]) ht8
        refine cat_path S11 (g11 _ _ (g10 _ _ (g9 _ _ (g16 _ _ (g _ _ haf))))) upd_same (by omega) fun t9 G9 H12 S12 g12 hp9 => ?_
        have g6C := Same.trans g9 (Same.trans g10 (Same.trans g11 g12))
        have g0C := Same.trans g16 g6C
        refine ⟨_, rfl, qk1, qk2, t7, t9, D, pl, ps ++ (ps1 ++ [.ref t5]), kk, ll, p ++ [(I : Int)], q ++ [(J : Int)], 0, 0, N', ek, G9, _, rfl, S12.perm (.cons _ (.swap _ _ _)), hqk1.same g0C, hqk2.same g0C, alk, by omega, by omega, by omega, by omega, g12 _ _ (g11 _ _ hp7), hp9, by rw [List.length_append, List.length_singleton]; omega, by rw [List.length_append, List.length_singleton]; omega, hek, by rw [List.length_append, List.length_append, List.length_singleton]; omega, fun ps2 GD HD SD gD dD => ?_⟩
        obtain ⟨SE, gE⟩ := SD.drop
        have SF := SE.swap
        rw [List.append_assoc, List.append_assoc] at SF
        refine ⟨_, rfl, _, _, rfl, rfl, ?_⟩
        refine ⟨_, rfl, _, _, rfl, rfl, ?_⟩
        exact fin _ HD fi fj ([.ref t5] ++ ps2) (I + 1) (J + 1) _ _ _ _ SF (Same.trans g0C (Same.trans gD gE)) (.cons (((dpr.same g6C).same gD).same gE) (dD.same gE)) rfl rfl
      | aw m1 kk =>
        simp only [alN] at ade
        obtain ⟨m2, ll, rfl, alk⟩ := ade
        simp only [dpN] at dm dme
        simp only [ndN] at nm
        obtain ⟨m, rfl⟩ : ∃ m, n = m + 1 := ⟨n - 1, by omega⟩
        obtain rfl := hsp m rfl
        obtain ⟨q1, qk1, rfl, hq1', hqk1⟩ := n_aw dd2
        obtain ⟨q2, qk2, rfl, hq2', hqk2⟩ := n_aw de2
        have hq1 := S.s _ _ hq1'
        have hq2 := S.s _ _ hq2'
        refine ⟨_, rfl, q1, _, _, _, rfl, rfl, SqT.of hq1, at_0, rfl, _, rfl, ite2 (fun _ => ?_) (fun c => absurd (by simp) c)⟩
        cases m1 with
        | none =>
          cases m2 with
          | some k2 => simp only [reN] at hy2; exact nomatch hy2
          | none =>
            have alk : alS kk N ll := by
              rcases alk with ⟨h, _⟩ | ⟨_, h⟩ | ⟨_, h⟩
              · exact absurd rfl h
              · exact absurd rfl h
              · exact h
            have hek : reS p q I J kk ll = some y2 := by simpa only [reN] using hy2
            refine ⟨_, rfl, q1, _, _, _, rfl, rfl, SqT.of hq1, at_1, _, rfl, iteF' (by simp [nVV]) (iteF' rfl ?_)⟩
            refine ⟨_, rfl, q1, _, _, _, rfl, rfl, SqT.of hq1, at_0, rfl, _, rfl, ite2 (fun _ => ?_) (fun c => absurd (by simp) c)⟩
            refine ⟨_, rfl, _, rfl, fd, _, rfl, DPut.k (k := .inr "i") S.hd (by show 3 < _; decide), ?_⟩
            have S3 := S.put (u := .dK (wF I fj pl))
            show _
            refine ⟨_, rfl, _, rfl, fd, _, rfl, DPut.k (k := .inr "j") S3.hd (by show 3 < _; decide), ?_⟩
            have S4 := S3.put (u := .dK (wF I J pl))
            show _
            refine ⟨_, rfl, q1, _, _, _, rfl, rfl, SqT.of (S4.s _ _ hq1'), at_2, _, rfl, q2, _, _, _, rfl, rfl, SqT.of (S4.s _ _ hq2'), at_2, _, rfl, _, rfl, _, rfl, qk1, qk2, bf, af, fd, pl, ps ++ ps1, kk, ll, p, q, I, J, N, y2, G, M, rfl, S4, hqk1, hqk2, alk, by omega, by omega, by omega, by omega, g _ _ hbf, g _ _ haf, by omega, by omega, hek, by rw [List.length_append]; omega, fun ps2 G6 H6 S6 g6 d6 => ?_⟩
            refine ⟨_, rfl, fd, _, rfl, dg_i S6.hd, ?_⟩
            refine ⟨_, rfl, fd, _, rfl, dg_j S6.hd, ?_⟩
            rw [List.append_assoc] at S6
            exact fin _ H6 _ _ ps2 (I + cS kk) (J + cS ll) _ _ _ _ S6 g6 d6 rfl rfl
        | some k1 =>
          refine ⟨_, rfl, q1, _, _, _, rfl, rfl, SqT.of hq1, at_1, _, rfl, iteT' (by simp [nVV]) ?_⟩
          cases m2 with
          | none =>
            simp only [reN] at hy2
            obtain rfl := Option.some.inj hy2
            refine ⟨_, rfl, q2, _, _, _, rfl, rfl, SqT.of hq2, at_1, _, rfl, iteT' (by simp [nVV]) ?_⟩
            have ad1 := adS_dp kk
            have ad2 := adS_dp ll
            refine ⟨_, rfl, _, rfl, q1, _, _, _, rfl, rfl, SqT.of hq1, at_2, qk1, kk, rfl, hqk1.same S.s, by omega, _, _, rfl, rfl, ?_⟩
            refine ⟨_, rfl, _, rfl, q2, _, _, _, rfl, rfl, SqT.of hq2, at_2, qk2, ll, rfl, hqk2.same S.s, by omega, _, _, rfl, rfl, ?_⟩
            exact fin _ H2 fi fj [] (I + cS kk) (J + cS ll) _ _ _ _ (by rw [List.append_nil]; exact S) (Same.refl _) .nil rfl rfl
          | some k2 =>
            have alk3 : k1 = k2 ∧ alS kk N ll := by
              rcases alk with ⟨_, h⟩ | ⟨h, _⟩ | ⟨h1, h2⟩
              · exact nomatch h
              · exact nomatch h
              · exact ⟨Option.some.inj h1, h2⟩
            obtain ⟨e12, alk2⟩ := alk3
            subst e12
            clear alk
            have alk := alk2
            have hek : reS p q I J kk ll = some y2 := by simpa only [reN] using hy2
            refine ⟨_, rfl, q2, _, _, _, rfl, rfl, SqT.of hq2, at_1, _, rfl, iteF' (by simp [nVV]) ?_⟩
            refine ⟨_, rfl, q1, _, _, _, rfl, rfl, SqT.of hq1, at_0, rfl, _, rfl, ite2 (fun _ => ?_) (fun c => absurd (by simp) c)⟩
            refine ⟨_, rfl, _, rfl, fd, _, rfl, DPut.k (k := .inr "i") S.hd (by show 3 < _; decide), ?_⟩
            have S3 := S.put (u := .dK (wF I fj pl))
            show _
            refine ⟨_, rfl, _, rfl, fd, _, rfl, DPut.k (k := .inr "j") S3.hd (by show 3 < _; decide), ?_⟩
            have S4 := S3.put (u := .dK (wF I J pl))
            show _
            refine ⟨_, rfl, q1, _, _, _, rfl, rfl, SqT.of (S4.s _ _ hq1'), at_2, _, rfl, q2, _, _, _, rfl, rfl, SqT.of (S4.s _ _ hq2'), at_2, _, rfl, _, rfl, _, rfl, qk1, qk2, bf, af, fd, pl, ps ++ ps1, kk, ll, p, q, I, J, N, y2, G, M, rfl, S4, hqk1, hqk2, alk, by omega, by omega, by omega, by omega, g _ _ hbf, g _ _ haf, by omega, by omega, hek, by rw [List.length_append]; omega, fun ps2 G6 H6 S6 g6 d6 => ?_⟩
            refine ⟨_, rfl, fd, _, rfl, dg_i S6.hd, ?_⟩
            refine ⟨_, rfl, fd, _, rfl, dg_j S6.hd, ?_⟩
            rw [List.append_assoc] at S6
            exact fin _ H6 _ _ ps2 (I + cS kk) (J + cS ll) _ _ _ _ S6 g6 d6 rfl rfl
    · rintro σ H1 ⟨G, fi, fj, ps1, es1, y7, y8, y9, y10, S, g, dp1, hr1, rfl⟩
      have e1 : ks.take (((xs.length : Nat) : Int)).toNat = ks := List.take_of_length_le (by omega)
      have e2 : ls.take (((xs.length : Nat) : Int)).toNat = ls := List.take_of_length_le (by omega)
      rw [e1, e2] at hr1 ⊢
      rw [hre] at hr1
      obtain rfl := Option.some.inj hr1
      refine ⟨_, rfl, _, rfl, fd, _, rfl, DPut.k (k := .inr "i") S.hd (by show 3 < _; decide), ?_⟩
      have S3 := S.put (u := .dK (wF (i + cS ks) fj pl))
      show _
      refine ⟨_, rfl, _, rfl, fd, _, rfl, DPut.k (k := .inr "j") S3.hd (by show 3 < _; decide), ?_⟩
      exact out ps1 G _ (S3.put (u := .dK (wF (i + cS ks) (j + cS ls) pl))) g dp1
theorem pars_N (T : Txt K w mg C) : ∀ n : Nat, Cal P w K mg base (n + 16) "_law_partners" (spPars n)
  | 0 => pars_S T (n := 0) (sp := spFalse) (by decide) (fun m h => by omega) (pars_0 T)
  | n + 1 => pars_S T (n := n + 1) (sp := spPars n) (by omega) (fun m h => by rw [Nat.succ.inj h]) (pars_N T n)
end
end VL

set_option Elab.async false
set_option linter.all false
set_option pp.maxSteps 700
set_option maxRecDepth 100000
set_option maxHeartbeats 4000000
namespace VL
open PySem PySem.Spec PyProof.Rows L2
def spDrawn : Sp := fun vs H Q _ => ∃ (rl : Addr) (zs : List Int) (a m : Int), vs = [.ref rl, .int a, .int m] ∧ H rl = some (.lst (zs.map V.int)) ∧ zs.length = 60 ∧ 0 ≤ a ∧ 0 ≤ m ∧ a + m ≤ 100 ∧ ∀ p ks H', Same H H' → TreeA H' p ks → GoodL 6 ks → Q (.ref p) H'
def spLaw (K : PySem.W.Frag) : Sp := fun vs H Q _ => ∃ (a : Addr) (ns : List Int), vs = [.ref a] ∧ SqL K H a (ns.map V.int) ∧ ns.length ≤ 63 ∧ ∀ H', Q (.bl true) H'
theorem plain_dp {ds : List PyData} {n : Nat} (h : ∀ d ∈ ds, d.plain = true ∧ PyData.depth d ≤ n) : (PyData.list ds).plain = true ∧ PyData.depth (.list ds) ≤ n + 1 := by
  refine ⟨?_, ?_⟩
  · show PyData.plainAll ds = true
    induction ds with
    | nil => rfl
    | cons a l ih =>
      simp only [PyData.plainAll, Bool.and_eq_true]
      exact ⟨(h a List.mem_cons_self).1, ih fun d hd => h d (List.mem_cons_of_mem _ hd)⟩
  · show PyData.depthAll ds + 1 ≤ n + 1
    have := dpAll_mem fun d hd => (h d hd).2
    omega
theorem plain_path (p : List Int) : (pathD p).plain = true ∧ PyData.depth (pathD p) ≤ 1 := by
  refine ⟨?_, ?_⟩
  · show PyData.plainAll (p.map PyData.int) = true
    induction p with
    | nil => rfl
    | cons a l ih => simpa [PyData.plainAll, PyData.plain] using ih
  · show PyData.depthAll (p.map PyData.int) + 1 ≤ 1
    have : PyData.depthAll (p.map PyData.int) ≤ 0 := dpAll_mem fun d hd => by
      obtain ⟨i, _, rfl⟩ := List.mem_map.mp hd
      exact Nat.le_refl _
    omega
theorem plain_ints (l : List Int) : ∀ d ∈ l.map PyData.int, d.plain = true ∧ PyData.depth d ≤ 2 := fun d hd => by
  obtain ⟨i, _, rfl⟩ := List.mem_map.mp hd
  exact ⟨rfl, Nat.zero_le _⟩
theorem plain_pr (es : List Ew) : ∀ d ∈ prD es, d.plain = true ∧ PyData.depth d ≤ 2 := fun d hd => by
  obtain ⟨⟨p, q⟩, _, rfl⟩ := List.mem_map.mp hd
  obtain ⟨h1, h2⟩ := plain_path p
  obtain ⟨h3, h4⟩ := plain_path q
  refine ⟨by simp [PyData.plain, PyData.plainAll, h1, h3], ?_⟩
  show max (PyData.depth (pathD p)) (max (PyData.depth (pathD q)) 0) + 1 ≤ 2
  omega
theorem dqa_ints {H : Hp} : ∀ l : List Int, DqAll H (l.map V.int) (l.map PyData.int)
  | [] => .nil
  | a :: l => .cons (.int a) (dqa_ints l)
section
variable {P : Program} {w : World} {K : PySem.W.Frag} {mg : Str → Option Value} {base : Heap} {C : Ad}
theorem sc__law_drawn : FnScope ["rows", "at", "most"] ["rows", "at", "most"] (defScope s__law_drawn) := ⟨rfl, rfl, rfl, by decide +kernel, rfl, by decide +kernel, by decide +kernel⟩
theorem ok_drawn (T : Txt K w mg C) : Cal P w K mg base 10 "_law_drawn" spDrawn := by
  have G_law_tree := tree_N (P := P) (base := base) T 6
  refine cal_of T.d__law_drawn sc__law_drawn (fun vs H Q E h => ?_) (fun f cdv A outer s H vs Q E hr h => ?_)
  · obtain ⟨rl, zs, a, m, rfl, _⟩ := h
    rfl
  · obtain ⟨rl, zs, a, m, rfl, hrl, zl, a0, m0, am, q⟩ := h
    have hu := hu_of hr
    refine ⟨_, (pss_one (ps_ret (pe_c G_law_tree hr (by decide) (by rfl) (pa_cons (pv 0) (pa_cons (pe_disp (pps_cons pe_str (pv 1) (pps_cons pe_str (pe_op op_add (pv 1) (pv 2)) (pps_cons pe_str pe_int pps_nil))) (by rfl) (by rfl) (fun z => by cases z) (by decide)) (pa_cons pe_int pa_nil)))))), ?_⟩
    refine ⟨_, rfl, fun d hd => ?_⟩
    refine ⟨_, rfl, _, rfl, _, rfl, _, _, rfl, rfl, upd_same, [(.inr "at", .int a), (.inr "most", .int (a + m)), (.inr "number", .int 0)], rfl, (by show 3 ≤ 15; decide), ?_⟩
    have e : mergeK [] [(.inr "at", .int a), (.inr "most", .int (a + m)), (.inr "number", .int 0)] = wK a (a + m) 0 := rfl
    rw [e]
    have S := (Sb.nil (H := H)).add (o := .dK (wK a (a + m) 0)) hd
    have eu : upd (upd H d (.dK [])) d (.dK (wK a (a + m) 0)) = upd H d (.dK (wK a (a + m) 0)) := by
      funext b
      by_cases z : b = d
      · subst z; rw [upd_same, upd_same]
      · rw [upd_ne z, upd_ne z, upd_ne z]
    rw [eu]
    exact ⟨rl, d, 0, zs, H, [], a, a + m, 0, rfl, by decide, S, hrl, zl, ⟨a0, by omega, by omega, by omega, am⟩, fun p ks G' H' a' c' S' g' t' gk' _ _ => q p ks H' (Same.trans g' S'.s) (t'.same S'.s) gk'⟩
theorem sc_law : FnScope ["script", "rows", "read", "world", "now", "error", "told", "found", "plain", "other"] ["script"] (defScope s_law) := ⟨rfl, rfl, rfl, by decide +kernel, rfl, by decide +kernel, by decide +kernel⟩
theorem ok_law {f : Addr} {fd : FuncData} (F : Fun K "law" "law" s_law f fd) (T : Txt K w mg C) : FnG P w K mg base 50 f fd ["script"] (spLaw K) := by
  have G_law_rows := ok_rows (P := P) (base := base) T
  have G_law_drawn := ok_drawn (P := P) (base := base) T
  have G_law_turned := turn_N (P := P) (base := base) T 7
  have G_law_bare := bare_N (P := P) (base := base) T 7
  have G_law_partners := pars_N (P := P) (base := base) T 7
  have Xcompare_trees := ok_treesX (P := P) (base := base) T
  have Gcompare_trees := Xcompare_trees.dry
  refine fnG_of F sc_law (fun vs H Q E h => ?_) (fun cdv A outer s H vs Q E gd hr h => ?_)
  · obtain ⟨a, ns, rfl, _⟩ := h
    rfl
  · obtain ⟨sa, ns, rfl, hS, hlen, k⟩ := h
    have big : 10000000 < sizeLine := by decide
    have hu := hu_of hr
    refine ⟨_, (pss_cons (ps_set (i := 1) sc_law.nd rfl (Or.inl rfl) (pe_c G_law_rows hr (by decide) (by rfl) (pa_cons (pv 0) (pa_cons pe_int pa_nil)))) (pss_cons (ps_set (i := 2) sc_law.nd rfl (Or.inl rfl) (pe_c G_law_drawn hr (by decide) (by rfl) (pa_cons (pv 1) (pa_cons pe_int (pa_cons pe_int pa_nil))))) (pss_cons (ps_set (i := 3) sc_law.nd rfl (Or.inl rfl) (pe_disp (pps_cons pe_str pe_int (pps_cons pe_str (pe_lst pa_nil) (pps_cons pe_str (pe_op op_mod (pe_callTy call_int1 (by rfl) T.z_int (by decide +kernel) (pa_cons (pe_ix ix_list (pv 1) pe_int (fun _ _ => rfl)) pa_nil)) pe_int) (pps_cons pe_str pe_bl pps_nil)))) (by rfl) (by rfl) (fun z => by cases z) (by decide))) (pss_cons (ps_set (i := 4) sc_law.nd rfl (Or.inl rfl) (pe_c G_law_turned hr (by decide) (by rfl) (pa_cons (pv 2) (pa_cons (pv 1) (pa_cons (pv 3) pa_nil))))) (pss_cons (ps_if (pt_val (pe_dget hu (pv 3) pe_str (fun _ _ => rfl))) (pss_cons (ps_try_as (i := 5) rfl rfl sc_law.nd rfl rfl ⟨rfl, by decide, .inl T.x_MissingAnswer.g⟩ takes0 (fun W pn xe tk _ => (pss_one (ps_expr (pe_cXS Xcompare_trees hr (by decide) (by rfl) (fun σ => passAt tk σ) (pa_cons (pv 2) (pa_cons (pv 4) pa_nil)))))) (fun a oe cls d pn hz hf => (pss_one (ps_ret (pe_callB (call_isEN T.x_MissingAnswer.ec hz hf) (by rfl) T.z_isinstance (by decide +kernel) (pa_cons (pv 5) (pa_cons (C8.pe_gc (by rfl) T.gx_ViewError) pa_nil))))))) (pss_one (ps_ret pe_bl))) pss_nil) (pss_cons (ps_set (i := 6) sc_law.nd rfl (Or.inl rfl) (pe_c Gcompare_trees hr (by decide) (by rfl) (pa_cons (pv 2) (pa_cons (pv 4) pa_nil)))) (pss_cons (ps_set (i := 7) sc_law.nd rfl (Or.inl rfl) (pe_disp (pps_cons pe_str pe_int (pps_cons pe_str pe_int (pps_cons pe_str (pe_lst pa_nil) pps_nil))) (by rfl) (by rfl) (fun z => by cases z) (by decide))) (pss_cons (ps_expr (pe_c G_law_partners hr (by decide) (by rfl) (pa_cons (pv 2) (pa_cons (pv 4) (pa_cons (pe_tup pa_nil) (pa_cons (pe_tup pa_nil) (pa_cons (pv 7) pa_nil))))))) (pss_cons (ps_if (PW.pt (pw_or (pt_cmpR (op_neP hr.units) (pe_fld (pv 6) rfl) (pe_lst pa_nil) (nomark _)) (pw_or (pt_cmpR (op_neP hr.units) (pe_fld (pv 6) rfl) (pe_dget hu (pv 3) pe_str (fun _ _ => rfl)) (nomark _)) (pw_or1 (pt_cmpR (op_neP hr.units) (pe_fld (pv 6) rfl) (pe_dget hu (pv 7) pe_str (fun _ _ => rfl)) (nomark _)))))) (pss_one (ps_ret pe_bl)) pss_nil) (pss_cons (ps_set (i := 8) sc_law.nd rfl (Or.inl rfl) (pe_c Gcompare_trees hr (by decide) (by rfl) (pa_cons (pv 2) (pa_cons (pe_c G_law_bare hr (by decide) (by rfl) (pa_cons (pv 2) pa_nil)) pa_nil)))) (pss_cons (ps_set (i := 9) sc_law.nd rfl (Or.inl rfl) (pe_c Gcompare_trees hr (by decide) (by rfl) (pa_cons (pe_c G_law_bare hr (by decide) (by rfl) (pa_cons (pv 2) pa_nil)) (pa_cons (pv 2) pa_nil)))) (pss_one (ps_ret (pe_and (pe_cmpR (op_eqP rfl hr.units) (pe_fld (pv 8) rfl) (pe_lst pa_nil) (nomark _)) (pe_and (pe_cmpR (op_eqP rfl hr.units) (pe_fld (pv 8) rfl) (pe_lst pa_nil) (nomark _)) (pe_and (pe_cmpR (op_eqP rfl hr.units) (pe_fld (pv 9) rfl) (pe_lst pa_nil) (nomark _)) (pe_one (pe_cmpR (op_eqP rfl hr.units) (pe_fld (pv 9) rfl) (pe_lst pa_nil) (nomark _))))))))))))))))))), ?_⟩
    refine ⟨_, rfl, sa, ns, 60, rfl, hS, hlen, by decide, fun rl zs H1 s1 hrl hr1 zl => ?_⟩
    refine ⟨_, rfl, rl, zs, 0, 34, rfl, hr1, zl, by decide, by decide, by decide, fun p ks H2 s2 tk gk => ?_⟩
    have dp := GoodL.dp gk.g
    have sh := GoodL.shs gk.g
    have ct : ndS ks ≤ 3279 := gk.ct3
    have hrl2 := s2 _ _ hr1
    obtain ⟨z1, hz1⟩ : ∃ z, atI (zs.map V.int) 1 = some (.int z) := by
      obtain ⟨a, b, l, e⟩ : ∃ a b l, zs = a :: b :: l := by
        match zs, zl with
        | a :: b :: l, _ => exact ⟨a, b, l, rfl⟩
      exact ⟨b, by rw [e]; exact at_1⟩
    refine fun wd hwd => ⟨by show 0 ≤ sizeLine; decide, fun lt hlt => ?_⟩
    have S1 := ((Sb.nil (H := H2)).add (o := .dK []) hwd).add (o := .lst []) hlt
    refine ⟨_, rfl, rl, _, _, _, rfl, rfl, SqL.of (S1.s _ _ hrl2), hz1, .inl ⟨z1, rfl, ?_⟩⟩
    refine ⟨_, _, rfl, rfl, by show (0 : Int) < 3; decide, S1.hd2, [(.inr "at", .int 11), (.inr "late", .ref lt), (.inr "mode", .int (z1 % 3)), (.inr "missing", .bl false)], rfl, by show 4 ≤ 15; decide, ?_⟩
    have S3 := (S1.put2 (u := .dK (wW 11 lt (z1 % 3) false))).swap
    have e1 : mergeK [] [(.inr "at", .int 11), (.inr "late", .ref lt), (.inr "mode", .int (z1 % 3)), (.inr "missing", .bl false)] = wW 11 lt (z1 % 3) false := rfl
    rw [e1]
    generalize upd (upd (upd H2 wd (.dK [])) lt (.lst [])) wd (.dK (wW 11 lt (z1 % 3) false)) = H3 at S3 ⊢
    refine ⟨_, rfl, _, rfl, _, rfl, p, rl, wd, lt, zs, ks, 11, z1 % 3, false, [], H2, [], rfl, S3, tk, hrl2, zl, sh, by omega, by omega, by rw [List.length_nil]; omega, fun nw ls G4 H4 c4 m1 l1 S4 g4 tn al lts ll dp9 nd9 => ?_⟩
    rw [Bool.false_or, List.nil_append] at S4
    have hR : R 8 [] [] 0 0 (tkS ks) (tkS ls) (reS [] [] 0 0 ks ls) := by
      have := R_alS ks ls (n := 8) (p := []) (q := []) (i := 0) (j := 0) (r := []) (s := []) (z := some []) (al 8 (by decide)) R.nil
      rw [List.append_nil, List.append_nil] at this
      have e : glue (reS [] [] 0 0 ks ls) (some []) = reS [] [] 0 0 ks ls := by
        cases reS [] [] 0 0 ks ls with
        | none => rfl
        | some es => simp [glue]
      rwa [e] at this
    obtain ⟨q1, q2⟩ := lts [] [] 0 0
    refine ⟨_, rfl, wd, .bl m1, rfl, dg_missW S4.hd, m1, rfl, ?_⟩
    have tk4 := tk.same g4
    cases m1 with
    | true =>
      have hz : reS [] [] 0 0 ks ls = none := Option.isNone_iff_eq_none.mp q1
      rw [hz] at hR
      refine iteT' rfl ?_
      refine ⟨_, rfl, _, rfl, p, nw, ks, ls, none, G4, _, rfl, S4, tk4, tn, by omega, by omega, by omega, by omega, hR, (fun es e => nomatch e), fun _ H' => ?_⟩
      refine ⟨true, T.x_MissingAnswer.em, fun _ a' ha => ?_, fun q => nomatch q⟩
      refine ⟨_, rfl, rfl, rfl, .ref C.ViewError, .ref C.ViewError, true, rfl, (fun u h => h), T.k_MissingAnswer_ViewError, ?_⟩
      exact k _
    | false =>
      obtain ⟨es, hes⟩ : ∃ es, reS [] [] 0 0 ks ls = some es := by
        cases e : reS [] [] 0 0 ks ls with
        | none => rw [e] at q1; exact nomatch q1
        | some es => exact ⟨es, rfl⟩
      have hlt := q2 es hes
      rw [hes] at hR
      have esl := R_len hR es rfl
      have wl := wLk_S ks
      refine iteF' (by decide) ?_
      refine ⟨_, rfl, _, rfl, p, nw, ks, ls, some es, G4, _, rfl, S4, tk4, tn, by omega, by omega, by omega, by omega, hR, ?_, fun e => nomatch e⟩
      rintro es' ees c dx dl ll0 pl ps G5 H5 S5 g5 hc hdl hll hpl dps
      cases ees
      refine fun fo hfo => ⟨by show 0 ≤ sizeLine; decide, fun pa hpa => ?_⟩
      have S6 := (S5.add (o := .dK []) hfo).add (o := .lst []) hpa
      refine ⟨S6.hd2, [(.inr "i", .int 0), (.inr "j", .int 0), (.inr "pairs", .ref pa)], rfl, by show 3 ≤ 15; decide, ?_⟩
      have S7 := (S6.put2 (u := .dK (wF 0 0 pa))).swap
      have e2 : mergeK [] [(.inr "i", .int 0), (.inr "j", .int 0), (.inr "pairs", .ref pa)] = wF 0 0 pa := rfl
      rw [e2]
      generalize upd (upd (upd H5 fo (.dK [])) pa (.lst [])) fo (.dK (wF 0 0 pa)) = H7 at S7 ⊢
      refine ⟨_, rfl, _, rfl, by show 0 ≤ sizeLine; decide, fun t1 ht1 => ⟨by show 0 ≤ sizeLine; decide, fun t2 ht2 => ?_⟩⟩
      have S8 := S7.alloc (o := .tup []) ht1
      have g8 := S7.grow (o := .tup []) ht1
      have S9 := S8.alloc (o := .tup []) ht2
      have g9 := S8.grow (o := .tup []) ht2
      have g59 := Same.trans g5 (Same.trans g8 g9)
      refine ⟨_, rfl, p, nw, t1, t2, fo, pa, [], ks, ls, [], [], 0, 0, 8, es, _, _, rfl, S9, tk4.same g59, tn.same g59, al 8 (by decide), by omega, by omega, by decide, by omega, g9 _ _ upd_same, upd_same, by decide, by decide, hes, by rw [List.length_nil]; omega, fun ps' GA HA SA gA dpa => ?_⟩
      rw [List.nil_append] at SA
      have g5A := Same.trans (Same.trans g8 g9) gA
      have hcA := SA.s _ _ (g5A _ _ hc)
      have hdlA := SA.s _ _ (g5A _ _ hdl)
      have hllA := SA.s _ _ (g5A _ _ hll)
      have hplA := SA.s _ _ (g5A _ _ hpl)
      have dpsA := (dps.same g5A).same SA.s
      have dpaA := dpa.same SA.s
      have tkA := (tk4.same (Same.trans g5 g5A)).same SA.s
      have hfoA := SA.hd
      have hpaA := SA.hd2
      have hwdA := (SA.m _ (List.mem_cons_of_mem _ (List.mem_cons_of_mem _ List.mem_cons_self))).2
      have hltA := (SA.m _ (List.mem_cons_of_mem _ (List.mem_cons_of_mem _ (List.mem_cons_of_mem _ List.mem_cons_self)))).2
      dsimp only at hfoA hpaA hwdA hltA
      rw [hlt] at hllA
      clear S9 S8 S7 S6 S5 S4 S3 S1 SA
      refine ⟨_, rfl, c, _, dx, _, _, rfl, hcA, T.cl_Comparison, T.n_Comparison_differences, rfl, by show 0 ≤ sizeLine; decide, fun l0 hl0 => ?_⟩
      have sl := Sm.new (o := .lst []) hl0
      refine ⟨.list [], .list [], (Dq.lst (sl _ _ hdlA) .nil).dp rfl, (Dq.lst upd_same .nil).dp rfl, rfl, rfl, by decide, ?_⟩
      refine ⟨_, rfl, ite2 (fun c => nomatch c) (fun _ => ?_)⟩
      obtain ⟨p1, p2⟩ := plain_dp (plain_ints l1)
      obtain ⟨p3, p4⟩ := plain_dp (plain_pr es)
      refine ⟨_, rfl, c, _, dx, _, _, rfl, sl _ _ hcA, T.cl_Comparison, T.n_Comparison_late, rfl, _, rfl, wd, _, rfl, dg_lateW (sl _ _ hwdA), _, _, (Dq.lst (sl _ _ hllA) (dqa_ints l1)).dp p1, (Dq.lst (sl _ _ hltA) (dqa_ints l1)).dp p1, p1, p1, Nat.le_trans p2 (by decide), ?_⟩
      rw [show (!PyData.eqv (.list (l1.map PyData.int)) (.list (l1.map PyData.int))) = false by rw [SeqAt.eqv_refl_plain _ p1]; rfl]
      refine ⟨_, rfl, ite2 (fun c => nomatch c) (fun _ => ?_)⟩
      refine ⟨_, rfl, c, _, dx, _, _, rfl, sl _ _ hcA, T.cl_Comparison, T.n_Comparison_partners, rfl, _, rfl, fo, _, rfl, dg_ps (sl _ _ hfoA), _, _, (Dq.lst (sl _ _ hplA) (dpsA.same sl)).dp p3, (Dq.lst (sl _ _ hpaA) (dpaA.same sl)).dp p3, p3, p3, Nat.le_trans p4 (by decide), ?_⟩
      rw [show (!PyData.eqv (.list (prD es)) (.list (prD es))) = false by rw [SeqAt.eqv_refl_plain _ p3]; rfl]
      refine ⟨_, rfl, ite2 (fun c => nomatch c) (fun _ => ?_)⟩
      have tkB := tkA.same sl
      generalize upd HA l0 (.lst []) = HB at tkB ⊢
      obtain ⟨f2, r2, n2⟩ := R_bare 8 ks [] [] 0 0 (gd_shS ks 8 sh (by omega))
      obtain ⟨f3, r3, n3⟩ := R_swap r2 f2 rfl n2
      have dpb := dp_bS ks
      have ndb := nd_bS ks
      refine ⟨_, rfl, _, rfl, p, ks, HB, [], rfl, Sb.nil, tkB, by omega, by omega, fun rd GC HC SC gC tr => ?_⟩
      refine ⟨p, rd, ks, bS ks, some f2, GC, [], rfl, SC, tkB.same gC, tr, by omega, by omega, by omega, by omega, r2, ?_, fun e => nomatch e⟩
      rintro f2' ee c2 dx2 dl2 ll2 pl2 ps2 GD HD SD gD hc2 hdl2 hll2 _ _
      cases ee
      rw [n2] at hll2
      have tkD := ((tkB.same gC).same gD).same SD.s
      have hc2D := SD.s _ _ hc2
      have hdl2D := SD.s _ _ hdl2
      have hll2D := SD.s _ _ hll2
      refine ⟨_, rfl, p, ks, HD, [], rfl, Sb.nil, tkD, by omega, by omega, fun rd2 GE HE SE gE tr2 => ?_⟩
      refine ⟨_, rfl, rd2, p, bS ks, ks, some f3, GE, [], rfl, SE, tr2, tkD.same gE, by omega, by omega, by omega, by omega, r3, ?_, fun e => nomatch e⟩
      rintro f3' ee c3 dx3 dl3 ll3 pl3 ps3 GF HF SF gF hc3 hdl3 hll3 _ _
      cases ee
      rw [n3] at hll3
      have sDF : Same HD HF := Same.trans gE (Same.trans gF SF.s)
      refine ⟨_, rfl, c2, _, dx2, _, _, rfl, sDF _ _ hc2D, T.cl_Comparison, T.n_Comparison_differences, rfl, by show 0 ≤ sizeLine; decide, fun l0 hl0 => ?_⟩
      have s1 := Sm.new (o := .lst []) hl0
      refine ⟨.list [], .list [], (Dq.lst (s1 _ _ (sDF _ _ hdl2D)) .nil).dp rfl, (Dq.lst upd_same .nil).dp rfl, rfl, rfl, by decide, ?_⟩
      refine ⟨_, rfl, ite2 (fun _ => ?_) (fun c => absurd rfl c)⟩
      refine ⟨_, rfl, c2, _, dx2, _, _, rfl, s1 _ _ (sDF _ _ hc2D), T.cl_Comparison, T.n_Comparison_late, rfl, by show 0 ≤ sizeLine; decide, fun l4 hl4 => ?_⟩
      have s2 := Sm.new (o := .lst []) hl4
      refine ⟨.list [], .list [], (Dq.lst (s2 _ _ (s1 _ _ (sDF _ _ hll2D))) .nil).dp rfl, (Dq.lst upd_same .nil).dp rfl, rfl, rfl, by decide, ?_⟩
      refine ⟨_, rfl, ite2 (fun _ => ?_) (fun c => absurd rfl c)⟩
      refine ⟨_, rfl, c3, _, dx3, _, _, rfl, s2 _ _ (s1 _ _ (SF.s _ _ hc3)), T.cl_Comparison, T.n_Comparison_differences, rfl, by show 0 ≤ sizeLine; decide, fun l5 hl5 => ?_⟩
      have s3 := Sm.new (o := .lst []) hl5
      refine ⟨.list [], .list [], (Dq.lst (s3 _ _ (s2 _ _ (s1 _ _ (SF.s _ _ hdl3)))) .nil).dp rfl, (Dq.lst upd_same .nil).dp rfl, rfl, rfl, by decide, ?_⟩
      refine ⟨_, rfl, ite2 (fun _ => ?_) (fun c => absurd rfl c)⟩
      refine ⟨_, rfl, c3, _, dx3, _, _, rfl, s3 _ _ (s2 _ _ (s1 _ _ (SF.s _ _ hc3))), T.cl_Comparison, T.n_Comparison_late, rfl, by show 0 ≤ sizeLine; decide, fun l6 hl6 => ?_⟩
      have s4 := Sm.new (o := .lst []) hl6
      refine ⟨.list [], .list [], (Dq.lst (s4 _ _ (s3 _ _ (s2 _ _ (s1 _ _ (SF.s _ _ hll3))))) .nil).dp rfl, (Dq.lst upd_same .nil).dp rfl, rfl, rfl, by decide, ?_⟩
      exact k _
end
end VL

set_option Elab.async false
set_option linter.all false
set_option maxRecDepth 100000
set_option maxHeartbeats 4000000
namespace VL
open PySem PySem.Spec PyProof.Rows L2
theorem all_mk {l : PySem.W.OpenLaw} {w : World} {K : PySem.W.Frag} {h : Heap} {mg : Str → Option Value} {fa aComparison aSide aK_TURNS aMissingAnswer aViewError f1 f2 f3 f4 f5 f6 f7 f8 f9 f10 f11 f12 f13 f14 f15 f16 f17 f18 f19 f20 f21 f22 f23 : Addr} (X : K.In h) (G : h.Ns mainGlobals mg) (hfa : mg "law" = some (.ref fa))
    {od1 an1 od2 an2 od3 an3 od4 an4 od5 an5 od6 an6 od7 an7 od8 an8 od9 an9 od10 an10 od11 an11 od12 an12 od13 an13 od14 an14 od15 an15 od16 an16 od17 an17 od18 an18 od19 an19 od20 an20 od21 an21 od22 an22 od23 an23 : Option Addr} {sl1 sl2 sl3 sl4 sl5 sl6 sl7 sl8 sl9 sl10 sl11 sl12 sl13 sl14 sl15 sl16 sl17 sl18 sl19 sl20 sl21 sl22 sl23 : Array (Option Value)} {uK_TURNS_0 uK_TURNS_1 uK_TURNS_2 oc1 kV1 dc1 pm1 cd1 ct1 oc2 kV2 dc2 pm2 cd2 ct2 oc3 kV3 dc3 pm3 cd3 ct3 oc4 kV4 dc4 pm4 cd4 ct4 oc5 kV5 dc5 pm5 cd5 ct5 oc6 kV6 dc6 pm6 cd6 ct6 oc7 kV7 dc7 pm7 cd7 ct7 oc8 kV8 dc8 pm8 cd8 ct8 oc9 kV9 dc9 pm9 cd9 ct9 oc10 kV10 dc10 pm10 cd10 ct10 oc11 kV11 dc11 pm11 cd11 ct11 oc12 kV12 dc12 pm12 cd12 ct12 oc13 kV13 dc13 pm13 cd13 ct13 oc14 kV14 dc14 pm14 cd14 ct14 oc15 kV15 dc15 pm15 cd15 ct15 oc16 kV16 dc16 pm16 cd16 ct16 oc17 kV17 dc17 pm17 cd17 ct17 oc18 kV18 dc18 pm18 cd18 ct18 oc19 kV19 dc19 pm19 cd19 ct19 oc20 kV20 dc20 pm20 cd20 ct20 oc21 kV21 dc21 pm21 cd21 ct21 oc22 kV22 dc22 pm22 cd22 ct22 oc23 kV23 dc23 pm23 cd23 ct23 : Value} {nK_TURNS : Nat} {es_TURNS : Array DictEntry} 
    (q_Comparison : PySem.W.nsIn K mainGlobals "Comparison" = some (some (.ref aComparison)))
    (pg_Comparison : PySem.W.plainGet K aComparison Str.empty = true)
    (hd_Comparison : PySem.W.hasDictIn K aComparison = true)
    (po_Comparison : PySem.W.plainOver K aComparison = true)
    (sa_Comparison : PySem.W.findIn K (.ref aComparison) "__setattr__" = some (some (.builtin "object.__setattr__")))
    (mk_Comparison : PySem.W.makesIn K aComparison = true)
    (kc_Comparison : PySem.W.keepIn K (.ref aComparison) = true)
    (n_Comparison_differences : PySem.W.findIn K (.ref aComparison) "differences" = some none)
    (n_Comparison_late : PySem.W.findIn K (.ref aComparison) "late" = some none)
    (n_Comparison_partners : PySem.W.findIn K (.ref aComparison) "partners" = some none)
    (q_Side : PySem.W.nsIn K mainGlobals "Side" = some (some (.ref aSide)))
    (pg_Side : PySem.W.plainGet K aSide Str.empty = true)
    (hd_Side : PySem.W.hasDictIn K aSide = true)
    (po_Side : PySem.W.plainOver K aSide = true)
    (sa_Side : PySem.W.findIn K (.ref aSide) "__setattr__" = some (some (.builtin "object.__setattr__")))
    (mk_Side : PySem.W.makesIn K aSide = true)
    (kc_Side : PySem.W.keepIn K (.ref aSide) = true)
    (n_Side_row : PySem.W.findIn K (.ref aSide) "row" = some none)
    (n_Side_at : PySem.W.findIn K (.ref aSide) "at" = some none)
    (n_Side_path : PySem.W.findIn K (.ref aSide) "path" = some none)
    (n_Side_index : PySem.W.findIn K (.ref aSide) "index" = some none)
    (z_dict : PySem.W.nsIn K mainGlobals "dict" = some none)
    (z_int : PySem.W.nsIn K mainGlobals "int" = some none)
    (z_isinstance : PySem.W.nsIn K mainGlobals "isinstance" = some none)
    (z_len : PySem.W.nsIn K mainGlobals "len" = some none)
    (z_range : PySem.W.nsIn K mainGlobals "range" = some none)
    (gK_TURNS : PySem.W.nsIn K mainGlobals "TURNS" = some (some (.ref aK_TURNS)))
    (lK_TURNS : K.lookup aK_TURNS = some ⟨.type "dict", none, .dict es_TURNS nK_TURNS, #[]⟩)
    (tK_TURNS : PySem.W.KeysLit w.params es_TURNS.toList)
    (sK_TURNS : (aK_TURNS == sysModules) = false)
    (yK_TURNS : keysT es_TURNS = (["await", "end", "node"] : List Str))
    (eK_TURNS_0 : PySem.W.nsIn K aK_TURNS "await" = some (some uK_TURNS_0))
    (rK_TURNS_0 : RelV (V.int 1) uK_TURNS_0)
    (eK_TURNS_1 : PySem.W.nsIn K aK_TURNS "end" = some (some uK_TURNS_1))
    (rK_TURNS_1 : RelV (V.int (-1)) uK_TURNS_1)
    (eK_TURNS_2 : PySem.W.nsIn K aK_TURNS "node" = some (some uK_TURNS_2))
    (rK_TURNS_2 : RelV (V.int 0) uK_TURNS_2)
    (q_MissingAnswer : PySem.W.nsIn K mainGlobals "MissingAnswer" = some (some (.ref aMissingAnswer)))
    (xx_MissingAnswer : PySem.W.excIn K aMissingAnswer [.type "ValueError", .type "Exception", .type "BaseException", .type "object"] "ValueError.__new__" = true)
    (xk_MissingAnswer : PySem.W.keepIn K (.ref aMissingAnswer) = true)
    (xb_MissingAnswer : PySem.W.subIn K (.ref aMissingAnswer) (.type "BaseException") = some true)
    (xt_MissingAnswer : PySem.W.typeIn K (.ref aMissingAnswer) = some (.type "type"))
    (xs_MissingAnswer : PySem.W.subIn K (.ref aMissingAnswer) (.ref aMissingAnswer) = some true)
    (xg_MissingAnswer : PySem.W.findIn K (.ref aMissingAnswer) "__getattribute__" = some (some (.builtin "BaseException.__getattribute__")))
    (xh_MissingAnswer : PySem.W.findIn K (.ref aMissingAnswer) "__getattr__" = some none)
    (xd_MissingAnswer : PySem.W.hasDictIn K aMissingAnswer = true)
    (xc_MissingAnswer : PySem.W.findIn K (.ref aMissingAnswer) "__class__" = some (some (.builtin "object.__class__")))
    (xp_MissingAnswer : PySem.W.specialIn K (.builtin "object.__class__") "__get__" = some (some (.builtin "getset_descriptor.__get__")))
    (xq_MissingAnswer : PySem.W.takesIn K (.builtin "object.__class__") = some true)
    (xm_MissingAnswer : PySem.W.mroIn K aMissingAnswer (.type "object") = some true)
    (q_ViewError : PySem.W.nsIn K mainGlobals "ViewError" = some (some (.ref aViewError)))
    (ki_MissingAnswer_ViewError : PySem.W.kitOne K (.ref aMissingAnswer) (.ref aViewError) = some true)
    (a1 : PySem.W.findIn K (.ref aComparison) "__init__" = some (some (.ref f1)))
    (i1 : PySem.W.isFn K (.ref f1) = true)
    (l1 : K.lookup f1 = some ⟨oc1, od1, .func (PySem.W.fnOf "__init__" "Comparison.__init__" (defArgs s_Comparison___init__) (defBody s_Comparison___init__) (defScope s_Comparison___init__) .none kV1 dc1 pm1 an1 cd1 ct1), sl1⟩)
    (c1 : PySem.W.codeIn K cd1 "Comparison.__init__" = true)
    (k1 : PySem.W.keepIn K (.ref f1) = true)
    (a2 : PySem.W.findIn K (.ref aSide) "__init__" = some (some (.ref f2)))
    (i2 : PySem.W.isFn K (.ref f2) = true)
    (l2 : K.lookup f2 = some ⟨oc2, od2, .func (PySem.W.fnOf "__init__" "Side.__init__" (defArgs s_Side___init__) (defBody s_Side___init__) (defScope s_Side___init__) .none kV2 dc2 pm2 an2 cd2 ct2), sl2⟩)
    (c2 : PySem.W.codeIn K cd2 "Side.__init__" = true)
    (k2 : PySem.W.keepIn K (.ref f2) = true)
    (a3 : PySem.W.findIn K (.ref aSide) "word" = some (some (.ref f3)))
    (i3 : PySem.W.isFn K (.ref f3) = true)
    (l3 : K.lookup f3 = some ⟨oc3, od3, .func (PySem.W.fnOf "word" "Side.word" (defArgs s_Side_word) (defBody s_Side_word) (defScope s_Side_word) .none kV3 dc3 pm3 an3 cd3 ct3), sl3⟩)
    (c3 : PySem.W.codeIn K cd3 "Side.word" = true)
    (k3 : PySem.W.keepIn K (.ref f3) = true)
    (a4 : PySem.W.findIn K (.ref aSide) "part" = some (some (.ref f4)))
    (i4 : PySem.W.isFn K (.ref f4) = true)
    (l4 : K.lookup f4 = some ⟨oc4, od4, .func (PySem.W.fnOf "part" "Side.part" (defArgs s_Side_part) (defBody s_Side_part) (defScope s_Side_part) .none kV4 dc4 pm4 an4 cd4 ct4), sl4⟩)
    (c4 : PySem.W.codeIn K cd4 "Side.part" = true)
    (k4 : PySem.W.keepIn K (.ref f4) = true)
    (a5 : PySem.W.findIn K (.ref aSide) "place" = some (some (.ref f5)))
    (i5 : PySem.W.isFn K (.ref f5) = true)
    (l5 : K.lookup f5 = some ⟨oc5, od5, .func (PySem.W.fnOf "place" "Side.place" (defArgs s_Side_place) (defBody s_Side_place) (defScope s_Side_place) .none kV5 dc5 pm5 an5 cd5 ct5), sl5⟩)
    (c5 : PySem.W.codeIn K cd5 "Side.place" = true)
    (k5 : PySem.W.keepIn K (.ref f5) = true)
    (a6 : PySem.W.findIn K (.ref aSide) "step" = some (some (.ref f6)))
    (i6 : PySem.W.isFn K (.ref f6) = true)
    (l6 : K.lookup f6 = some ⟨oc6, od6, .func (PySem.W.fnOf "step" "Side.step" (defArgs s_Side_step) (defBody s_Side_step) (defScope s_Side_step) .none kV6 dc6 pm6 an6 cd6 ct6), sl6⟩)
    (c6 : PySem.W.codeIn K cd6 "Side.step" = true)
    (k6 : PySem.W.keepIn K (.ref f6) = true)
    (a7 : PySem.W.findIn K (.ref aSide) "step_over" = some (some (.ref f7)))
    (i7 : PySem.W.isFn K (.ref f7) = true)
    (l7 : K.lookup f7 = some ⟨oc7, od7, .func (PySem.W.fnOf "step_over" "Side.step_over" (defArgs s_Side_step_over) (defBody s_Side_step_over) (defScope s_Side_step_over) .none kV7 dc7 pm7 an7 cd7 ct7), sl7⟩)
    (c7 : PySem.W.codeIn K cd7 "Side.step_over" = true)
    (k7 : PySem.W.keepIn K (.ref f7) = true)
    (a8 : PySem.W.findIn K (.ref aSide) "drop_marks" = some (some (.ref f8)))
    (i8 : PySem.W.isFn K (.ref f8) = true)
    (l8 : K.lookup f8 = some ⟨oc8, od8, .func (PySem.W.fnOf "drop_marks" "Side.drop_marks" (defArgs s_Side_drop_marks) (defBody s_Side_drop_marks) (defScope s_Side_drop_marks) .none kV8 dc8 pm8 an8 cd8 ct8), sl8⟩)
    (c8 : PySem.W.codeIn K cd8 "Side.drop_marks" = true)
    (k8 : PySem.W.keepIn K (.ref f8) = true)
    (a9 : PySem.W.nsIn K mainGlobals "row_of" = some (some (.ref f9)))
    (l9 : K.lookup f9 = some ⟨oc9, od9, .func (PySem.W.fnOf "row_of" "row_of" (defArgs s_row_of) (defBody s_row_of) (defScope s_row_of) .none kV9 dc9 pm9 an9 cd9 ct9), sl9⟩)
    (c9 : PySem.W.codeIn K cd9 "row_of" = true)
    (k9 : PySem.W.keepIn K (.ref f9) = true)
    (a10 : PySem.W.nsIn K mainGlobals "compare_trees" = some (some (.ref f10)))
    (l10 : K.lookup f10 = some ⟨oc10, od10, .func (PySem.W.fnOf "compare_trees" "compare_trees" (defArgs s_compare_trees) (defBody s_compare_trees) (defScope s_compare_trees) .none kV10 dc10 pm10 an10 cd10 ct10), sl10⟩)
    (c10 : PySem.W.codeIn K cd10 "compare_trees" = true)
    (k10 : PySem.W.keepIn K (.ref f10) = true)
    (a11 : PySem.W.nsIn K mainGlobals "compare_rows" = some (some (.ref f11)))
    (l11 : K.lookup f11 = some ⟨oc11, od11, .func (PySem.W.fnOf "compare_rows" "compare_rows" (defArgs s_compare_rows) (defBody s_compare_rows) (defScope s_compare_rows) .none kV11 dc11 pm11 an11 cd11 ct11), sl11⟩)
    (c11 : PySem.W.codeIn K cd11 "compare_rows" = true)
    (k11 : PySem.W.keepIn K (.ref f11) = true)
    (a12 : PySem.W.nsIn K mainGlobals "compare_awaits" = some (some (.ref f12)))
    (l12 : K.lookup f12 = some ⟨oc12, od12, .func (PySem.W.fnOf "compare_awaits" "compare_awaits" (defArgs s_compare_awaits) (defBody s_compare_awaits) (defScope s_compare_awaits) .none kV12 dc12 pm12 an12 cd12 ct12), sl12⟩)
    (c12 : PySem.W.codeIn K cd12 "compare_awaits" = true)
    (k12 : PySem.W.keepIn K (.ref f12) = true)
    (a13 : PySem.W.nsIn K mainGlobals "compare_nodes" = some (some (.ref f13)))
    (l13 : K.lookup f13 = some ⟨oc13, od13, .func (PySem.W.fnOf "compare_nodes" "compare_nodes" (defArgs s_compare_nodes) (defBody s_compare_nodes) (defScope s_compare_nodes) .none kV13 dc13 pm13 an13 cd13 ct13), sl13⟩)
    (c13 : PySem.W.codeIn K cd13 "compare_nodes" = true)
    (k13 : PySem.W.keepIn K (.ref f13) = true)
    (a14 : PySem.W.nsIn K mainGlobals "_law_rows" = some (some (.ref f14)))
    (l14 : K.lookup f14 = some ⟨oc14, od14, .func (PySem.W.fnOf "_law_rows" "_law_rows" (defArgs s__law_rows) (defBody s__law_rows) (defScope s__law_rows) .none kV14 dc14 pm14 an14 cd14 ct14), sl14⟩)
    (c14 : PySem.W.codeIn K cd14 "_law_rows" = true)
    (k14 : PySem.W.keepIn K (.ref f14) = true)
    (a15 : PySem.W.nsIn K mainGlobals "_law_text" = some (some (.ref f15)))
    (l15 : K.lookup f15 = some ⟨oc15, od15, .func (PySem.W.fnOf "_law_text" "_law_text" (defArgs s__law_text) (defBody s__law_text) (defScope s__law_text) .none kV15 dc15 pm15 an15 cd15 ct15), sl15⟩)
    (c15 : PySem.W.codeIn K cd15 "_law_text" = true)
    (k15 : PySem.W.keepIn K (.ref f15) = true)
    (a16 : PySem.W.nsIn K mainGlobals "_law_word" = some (some (.ref f16)))
    (l16 : K.lookup f16 = some ⟨oc16, od16, .func (PySem.W.fnOf "_law_word" "_law_word" (defArgs s__law_word) (defBody s__law_word) (defScope s__law_word) .none kV16 dc16 pm16 an16 cd16 ct16), sl16⟩)
    (c16 : PySem.W.codeIn K cd16 "_law_word" = true)
    (k16 : PySem.W.keepIn K (.ref f16) = true)
    (a17 : PySem.W.nsIn K mainGlobals "_law_tree" = some (some (.ref f17)))
    (l17 : K.lookup f17 = some ⟨oc17, od17, .func (PySem.W.fnOf "_law_tree" "_law_tree" (defArgs s__law_tree) (defBody s__law_tree) (defScope s__law_tree) .none kV17 dc17 pm17 an17 cd17 ct17), sl17⟩)
    (c17 : PySem.W.codeIn K cd17 "_law_tree" = true)
    (k17 : PySem.W.keepIn K (.ref f17) = true)
    (a18 : PySem.W.nsIn K mainGlobals "_law_drawn" = some (some (.ref f18)))
    (l18 : K.lookup f18 = some ⟨oc18, od18, .func (PySem.W.fnOf "_law_drawn" "_law_drawn" (defArgs s__law_drawn) (defBody s__law_drawn) (defScope s__law_drawn) .none kV18 dc18 pm18 an18 cd18 ct18), sl18⟩)
    (c18 : PySem.W.codeIn K cd18 "_law_drawn" = true)
    (k18 : PySem.W.keepIn K (.ref f18) = true)
    (a19 : PySem.W.nsIn K mainGlobals "_law_turned" = some (some (.ref f19)))
    (l19 : K.lookup f19 = some ⟨oc19, od19, .func (PySem.W.fnOf "_law_turned" "_law_turned" (defArgs s__law_turned) (defBody s__law_turned) (defScope s__law_turned) .none kV19 dc19 pm19 an19 cd19 ct19), sl19⟩)
    (c19 : PySem.W.codeIn K cd19 "_law_turned" = true)
    (k19 : PySem.W.keepIn K (.ref f19) = true)
    (a20 : PySem.W.nsIn K mainGlobals "_law_bare" = some (some (.ref f20)))
    (l20 : K.lookup f20 = some ⟨oc20, od20, .func (PySem.W.fnOf "_law_bare" "_law_bare" (defArgs s__law_bare) (defBody s__law_bare) (defScope s__law_bare) .none kV20 dc20 pm20 an20 cd20 ct20), sl20⟩)
    (c20 : PySem.W.codeIn K cd20 "_law_bare" = true)
    (k20 : PySem.W.keepIn K (.ref f20) = true)
    (a21 : PySem.W.nsIn K mainGlobals "_law_count" = some (some (.ref f21)))
    (l21 : K.lookup f21 = some ⟨oc21, od21, .func (PySem.W.fnOf "_law_count" "_law_count" (defArgs s__law_count) (defBody s__law_count) (defScope s__law_count) .none kV21 dc21 pm21 an21 cd21 ct21), sl21⟩)
    (c21 : PySem.W.codeIn K cd21 "_law_count" = true)
    (k21 : PySem.W.keepIn K (.ref f21) = true)
    (a22 : PySem.W.nsIn K mainGlobals "_law_partners" = some (some (.ref f22)))
    (l22 : K.lookup f22 = some ⟨oc22, od22, .func (PySem.W.fnOf "_law_partners" "_law_partners" (defArgs s__law_partners) (defBody s__law_partners) (defScope s__law_partners) .none kV22 dc22 pm22 an22 cd22 ct22), sl22⟩)
    (c22 : PySem.W.codeIn K cd22 "_law_partners" = true)
    (k22 : PySem.W.keepIn K (.ref f22) = true)
    (a23 : PySem.W.nsIn K mainGlobals "law" = some (some (.ref f23)))
    (l23 : K.lookup f23 = some ⟨oc23, od23, .func (PySem.W.fnOf "law" "law" (defArgs s_law) (defBody s_law) (defScope s_law) .none kV23 dc23 pm23 an23 cd23 ct23), sl23⟩)
    (c23 : PySem.W.codeIn K cd23 "law" = true)
    (k23 : PySem.W.keepIn K (.ref f23) = true)
    : ∃ fd : FuncData, (∀ (s : Shared) (v : Value), BindsTo s fd ⟨[v], []⟩ [("script", v)]) ∧ ∀ base : Heap, K.In base → base.Ns mainGlobals mg → FnG l.prog w K mg base 50 fa fd ["script"] (spLaw K) := by
  have e := hfa.symm.trans (PySem.W.mg_of X G a23)
  cases e
  have F1 := fun_mk (st := s_Comparison___init__) l1 c1 k1
  have b1 := F1.binds (ps := ["self"]) fun _ _ _ _ _ _ us hl => match us, hl with | [_], _ => rfl
  have F2 := fun_mk (st := s_Side___init__) l2 c2 k2
  have b2 := F2.binds (ps := ["self", "nodes", "path"]) fun _ _ _ _ _ _ us hl => match us, hl with | [_, _, _], _ => rfl
  have F3 := fun_mk (st := s_Side_word) l3 c3 k3
  have b3 := F3.binds (ps := ["self"]) fun _ _ _ _ _ _ us hl => match us, hl with | [_], _ => rfl
  have F4 := fun_mk (st := s_Side_part) l4 c4 k4
  have b4 := F4.binds (ps := ["self"]) fun _ _ _ _ _ _ us hl => match us, hl with | [_], _ => rfl
  have F5 := fun_mk (st := s_Side_place) l5 c5 k5
  have b5 := F5.binds (ps := ["self"]) fun _ _ _ _ _ _ us hl => match us, hl with | [_], _ => rfl
  have F6 := fun_mk (st := s_Side_step) l6 c6 k6
  have b6 := F6.binds (ps := ["self"]) fun _ _ _ _ _ _ us hl => match us, hl with | [_], _ => rfl
  have F7 := fun_mk (st := s_Side_step_over) l7 c7 k7
  have b7 := F7.binds (ps := ["self"]) fun _ _ _ _ _ _ us hl => match us, hl with | [_], _ => rfl
  have F8 := fun_mk (st := s_Side_drop_marks) l8 c8 k8
  have b8 := F8.binds (ps := ["self"]) fun _ _ _ _ _ _ us hl => match us, hl with | [_], _ => rfl
  have F9 := fun_mk (st := s_row_of) l9 c9 k9
  have b9 := F9.binds (ps := ["nodes"]) fun _ _ _ _ _ _ us hl => match us, hl with | [_], _ => rfl
  have F10 := fun_mk (st := s_compare_trees) l10 c10 k10
  have b10 := F10.binds (ps := ["read", "now"]) fun _ _ _ _ _ _ us hl => match us, hl with | [_, _], _ => rfl
  have F11 := fun_mk (st := s_compare_rows) l11 c11 k11
  have b11 := F11.binds (ps := ["comparison", "read", "now"]) fun _ _ _ _ _ _ us hl => match us, hl with | [_, _, _], _ => rfl
  have F12 := fun_mk (st := s_compare_awaits) l12 c12 k12
  have b12 := F12.binds (ps := ["comparison", "read", "now"]) fun _ _ _ _ _ _ us hl => match us, hl with | [_, _, _], _ => rfl
  have F13 := fun_mk (st := s_compare_nodes) l13 c13 k13
  have b13 := F13.binds (ps := ["comparison", "read", "now"]) fun _ _ _ _ _ _ us hl => match us, hl with | [_, _, _], _ => rfl
  have F14 := fun_mk (st := s__law_rows) l14 c14 k14
  have b14 := F14.binds (ps := ["script", "count"]) fun _ _ _ _ _ _ us hl => match us, hl with | [_, _], _ => rfl
  have F15 := fun_mk (st := s__law_text) l15 c15 k15
  have b15 := F15.binds (ps := ["row"]) fun _ _ _ _ _ _ us hl => match us, hl with | [_], _ => rfl
  have F16 := fun_mk (st := s__law_word) l16 c16 k16
  have b16 := F16.binds (ps := ["row"]) fun _ _ _ _ _ _ us hl => match us, hl with | [_], _ => rfl
  have F17 := fun_mk (st := s__law_tree) l17 c17 k17
  have b17 := F17.binds (ps := ["rows", "world", "depth"]) fun _ _ _ _ _ _ us hl => match us, hl with | [_, _, _], _ => rfl
  have F18 := fun_mk (st := s__law_drawn) l18 c18 k18
  have b18 := F18.binds (ps := ["rows", "at", "most"]) fun _ _ _ _ _ _ us hl => match us, hl with | [_, _, _], _ => rfl
  have F19 := fun_mk (st := s__law_turned) l19 c19 k19
  have b19 := F19.binds (ps := ["nodes", "rows", "world"]) fun _ _ _ _ _ _ us hl => match us, hl with | [_, _, _], _ => rfl
  have F20 := fun_mk (st := s__law_bare) l20 c20 k20
  have b20 := F20.binds (ps := ["nodes"]) fun _ _ _ _ _ _ us hl => match us, hl with | [_], _ => rfl
  have F21 := fun_mk (st := s__law_count) l21 c21 k21
  have b21 := F21.binds (ps := ["nodes"]) fun _ _ _ _ _ _ us hl => match us, hl with | [_], _ => rfl
  have F22 := fun_mk (st := s__law_partners) l22 c22 k22
  have b22 := F22.binds (ps := ["read", "now", "before", "after", "found"]) fun _ _ _ _ _ _ us hl => match us, hl with | [_, _, _, _, _], _ => rfl
  have T : Txt K w mg ⟨(), aComparison, aSide, aMissingAnswer, aViewError⟩ := {
    g_Comparison := ⟨_, PySem.W.mg_of X G q_Comparison, rfl⟩,
    cl_Comparison := ⟨pg_Comparison, hd_Comparison, po_Comparison, sa_Comparison⟩,
    n_Comparison_differences := n_Comparison_differences,
    n_Comparison_late := n_Comparison_late,
    n_Comparison_partners := n_Comparison_partners,
    g_Side := ⟨_, PySem.W.mg_of X G q_Side, rfl⟩,
    cl_Side := ⟨pg_Side, hd_Side, po_Side, sa_Side⟩,
    n_Side_row := n_Side_row,
    n_Side_at := n_Side_at,
    n_Side_path := n_Side_path,
    n_Side_index := n_Side_index,
    z_dict := PySem.W.mg_none_of X G z_dict,
    z_int := PySem.W.mg_none_of X G z_int,
    z_isinstance := PySem.W.mg_none_of X G z_isinstance,
    z_len := PySem.W.mg_none_of X G z_len,
    z_range := PySem.W.mg_none_of X G z_range,
    k_TURNS := ⟨_, _, _, ⟨_, PySem.W.mg_of X G gK_TURNS, rfl⟩, ⟨⟨lK_TURNS, tK_TURNS, sK_TURNS⟩, yK_TURNS⟩, ⟨_, eK_TURNS_0, rK_TURNS_0⟩, ⟨_, eK_TURNS_1, rK_TURNS_1⟩, ⟨_, eK_TURNS_2, rK_TURNS_2⟩⟩,
    x_MissingAnswer := ⟨PySem.W.mg_of X G q_MissingAnswer, xx_MissingAnswer, xk_MissingAnswer, xb_MissingAnswer, xt_MissingAnswer, PySem.W.exm_ref xb_MissingAnswer xd_MissingAnswer xt_MissingAnswer xs_MissingAnswer, ⟨xg_MissingAnswer, xh_MissingAnswer, xb_MissingAnswer, xd_MissingAnswer, xc_MissingAnswer, xp_MissingAnswer, xq_MissingAnswer, xm_MissingAnswer⟩⟩,
    gx_ViewError := ⟨_, PySem.W.mg_of X G q_ViewError, rfl⟩,
    k_MissingAnswer_ViewError := ki_MissingAnswer_ViewError,
    i_Comparison := ⟨_, _, F1, ⟨mk_Comparison, a1, i1, kc_Comparison⟩, PySem.W.mg_of X G q_Comparison, b1⟩,
    i_Side := ⟨_, _, F2, ⟨mk_Side, a2, i2, kc_Side⟩, PySem.W.mg_of X G q_Side, b2⟩,
    m_Side_word := ⟨_, _, F3, ⟨a3, i3, k3⟩, b3⟩,
    m_Side_part := ⟨_, _, F4, ⟨a4, i4, k4⟩, b4⟩,
    m_Side_place := ⟨_, _, F5, ⟨a5, i5, k5⟩, b5⟩,
    m_Side_step := ⟨_, _, F6, ⟨a6, i6, k6⟩, b6⟩,
    m_Side_step_over := ⟨_, _, F7, ⟨a7, i7, k7⟩, b7⟩,
    m_Side_drop_marks := ⟨_, _, F8, ⟨a8, i8, k8⟩, b8⟩,
    d_row_of := ⟨_, _, F9, PySem.W.mg_of X G a9, b9⟩,
    d_compare_trees := ⟨_, _, F10, PySem.W.mg_of X G a10, b10⟩,
    d_compare_rows := ⟨_, _, F11, PySem.W.mg_of X G a11, b11⟩,
    d_compare_awaits := ⟨_, _, F12, PySem.W.mg_of X G a12, b12⟩,
    d_compare_nodes := ⟨_, _, F13, PySem.W.mg_of X G a13, b13⟩,
    d__law_rows := ⟨_, _, F14, PySem.W.mg_of X G a14, b14⟩,
    d__law_text := ⟨_, _, F15, PySem.W.mg_of X G a15, b15⟩,
    d__law_word := ⟨_, _, F16, PySem.W.mg_of X G a16, b16⟩,
    d__law_tree := ⟨_, _, F17, PySem.W.mg_of X G a17, b17⟩,
    d__law_drawn := ⟨_, _, F18, PySem.W.mg_of X G a18, b18⟩,
    d__law_turned := ⟨_, _, F19, PySem.W.mg_of X G a19, b19⟩,
    d__law_bare := ⟨_, _, F20, PySem.W.mg_of X G a20, b20⟩,
    d__law_count := ⟨_, _, F21, PySem.W.mg_of X G a21, b21⟩,
    d__law_partners := ⟨_, _, F22, PySem.W.mg_of X G a22, b22⟩ }
  exact ⟨_, fun s v => .of_eq rfl, fun base _ _ => ok_law (fun_mk (st := s_law) l23 c23 k23) T⟩
theorem walk {l : PySem.W.OpenLaw} {q : Program} {loose : List Str} {XP : (Str → Option Value) → Heap → Prop} {YP : World → Heap → Prop} {d : DefRec} {K : Params → PySem.W.Frag} (hn : l.most = some 63) (hdf : d.params.defaults = [])
    (hY : ∀ (w : World) (h : Heap), YP w h → (K w.params).In h)
    (F : ∀ (w : World) (mg : Str → Option Value) (fa : Addr) (h : Heap), (K w.params).In h → h.Ns mainGlobals mg → mg d.name = some (.ref fa) →
      ∃ fd : FuncData, (∀ (s : Shared) (u : Value), BindsTo s fd ⟨[u], []⟩ [("script", u)]) ∧ ∀ base : Heap, (K w.params).In base → base.Ns mainGlobals mg → FnG l.prog w (K w.params) mg base 50 fa fd ["script"] (spLaw (K w.params))) :
    PySem.W.WalkO q loose XP YP l.row.toRowW d [] (fun f vs => PySem.call f vs) :=
  walk_ofG (n := 63) (k := 50) (x := "script") (sp := fun w => spLaw (K w.params)) hn (by decide) hdf ⟨rfl, by decide, by decide⟩ hY F (fun _ _ a ns hl _ hS => ⟨a, ns, rfl, hS, hl, fun _ => rfl⟩)
end VL

open PySem PySem.W PyProof.Rows in
set_option maxRecDepth 100000 in
set_option maxHeartbeats 0 in
set_option pp.maxSteps 60 in
theorem PySem.Challenge.cw_viewloom_k70_awaits_are_taken_over_holds : PySem.Challenge.rw_viewloom_k70_awaits_are_taken_over.Holds := by
  w_on; o_law; k_head; (case hw => w_witness2)
  k_fill
  refine VL.walk (l := PySem.Challenge.rw_viewloom_k70_awaits_are_taken_over) rfl rfl (fun w h Y => PySem.W.kIn_of Y) ?F
  case F =>
    intro w mg fa h KX G hmg
    refine' VL.all_mk KX G hmg ?q_Comparison ?pg_Comparison ?hd_Comparison ?po_Comparison ?sa_Comparison ?mk_Comparison ?kc_Comparison ?n_Comparison_differences ?n_Comparison_late ?n_Comparison_partners ?q_Side ?pg_Side ?hd_Side ?po_Side ?sa_Side ?mk_Side ?kc_Side ?n_Side_row ?n_Side_at ?n_Side_path ?n_Side_index ?z_dict ?z_int ?z_isinstance ?z_len ?z_range ?gK_TURNS ?lK_TURNS ?tK_TURNS ?sK_TURNS ?yK_TURNS ?eK_TURNS_0 ?rK_TURNS_0 ?eK_TURNS_1 ?rK_TURNS_1 ?eK_TURNS_2 ?rK_TURNS_2 ?q_MissingAnswer ?xx_MissingAnswer ?xk_MissingAnswer ?xb_MissingAnswer ?xt_MissingAnswer ?xs_MissingAnswer ?xg_MissingAnswer ?xh_MissingAnswer ?xd_MissingAnswer ?xc_MissingAnswer ?xp_MissingAnswer ?xq_MissingAnswer ?xm_MissingAnswer ?q_ViewError ?ki_MissingAnswer_ViewError ?a1 ?i1 ?l1 ?c1 ?k1 ?a2 ?i2 ?l2 ?c2 ?k2 ?a3 ?i3 ?l3 ?c3 ?k3 ?a4 ?i4 ?l4 ?c4 ?k4 ?a5 ?i5 ?l5 ?c5 ?k5 ?a6 ?i6 ?l6 ?c6 ?k6 ?a7 ?i7 ?l7 ?c7 ?k7 ?a8 ?i8 ?l8 ?c8 ?k8 ?a9 ?l9 ?c9 ?k9 ?a10 ?l10 ?c10 ?k10 ?a11 ?l11 ?c11 ?k11 ?a12 ?l12 ?c12 ?k12 ?a13 ?l13 ?c13 ?k13 ?a14 ?l14 ?c14 ?k14 ?a15 ?l15 ?c15 ?k15 ?a16 ?l16 ?c16 ?k16 ?a17 ?l17 ?c17 ?k17 ?a18 ?l18 ?c18 ?k18 ?a19 ?l19 ?c19 ?k19 ?a20 ?l20 ?c20 ?k20 ?a21 ?l21 ?c21 ?k21 ?a22 ?l22 ?c22 ?k22 ?a23 ?l23 ?c23 ?k23
    (case q_Comparison => k_is)
    (case pg_Comparison => k_is)
    (case hd_Comparison => k_is)
    (case po_Comparison => k_is)
    (case sa_Comparison => k_is)
    (case mk_Comparison => k_is)
    (case kc_Comparison => k_is)
    (case n_Comparison_differences => k_is)
    (case n_Comparison_late => k_is)
    (case n_Comparison_partners => k_is)
    (case q_Side => k_is)
    (case pg_Side => k_is)
    (case hd_Side => k_is)
    (case po_Side => k_is)
    (case sa_Side => k_is)
    (case mk_Side => k_is)
    (case kc_Side => k_is)
    (case n_Side_row => k_is)
    (case n_Side_at => k_is)
    (case n_Side_path => k_is)
    (case n_Side_index => k_is)
    (case z_dict => k_is)
    (case z_int => k_is)
    (case z_isinstance => k_is)
    (case z_len => k_is)
    (case z_range => k_is)
    (case gK_TURNS => k_is)
    (case lK_TURNS => k_is)
    (case tK_TURNS => k_keys)
    (case sK_TURNS => first | rfl | decide +kernel)
    (case yK_TURNS => first | rfl | decide +kernel)
    (case eK_TURNS_0 => k_is)
    (case rK_TURNS_0 => exact ⟨_, rfl⟩)
    (case eK_TURNS_1 => k_is)
    (case rK_TURNS_1 => exact ⟨_, rfl⟩)
    (case eK_TURNS_2 => k_is)
    (case rK_TURNS_2 => exact ⟨_, rfl⟩)
    (case q_MissingAnswer => k_is)
    (case xx_MissingAnswer => k_exc)
    (case xk_MissingAnswer => k_is)
    (case xb_MissingAnswer => k_is)
    (case xt_MissingAnswer => k_is)
    (case xs_MissingAnswer => first | rfl | k_is)
    (case xg_MissingAnswer => k_is)
    (case xh_MissingAnswer => k_is)
    (case xd_MissingAnswer => k_is)
    (case xc_MissingAnswer => k_is)
    (case xp_MissingAnswer => k_is)
    (case xq_MissingAnswer => k_is)
    (case xm_MissingAnswer => k_is)
    (case q_ViewError => k_is)
    (case ki_MissingAnswer_ViewError => kit_is)
    (case a1 => k_is)
    (case i1 => k_is)
    (case l1 => k_is)
    (case c1 => k_is)
    (case k1 => k_is)
    (case a2 => k_is)
    (case i2 => k_is)
    (case l2 => k_is)
    (case c2 => k_is)
    (case k2 => k_is)
    (case a3 => k_is)
    (case i3 => k_is)
    (case l3 => k_is)
    (case c3 => k_is)
    (case k3 => k_is)
    (case a4 => k_is)
    (case i4 => k_is)
    (case l4 => k_is)
    (case c4 => k_is)
    (case k4 => k_is)
    (case a5 => k_is)
    (case i5 => k_is)
    (case l5 => k_is)
    (case c5 => k_is)
    (case k5 => k_is)
    (case a6 => k_is)
    (case i6 => k_is)
    (case l6 => k_is)
    (case c6 => k_is)
    (case k6 => k_is)
    (case a7 => k_is)
    (case i7 => k_is)
    (case l7 => k_is)
    (case c7 => k_is)
    (case k7 => k_is)
    (case a8 => k_is)
    (case i8 => k_is)
    (case l8 => k_is)
    (case c8 => k_is)
    (case k8 => k_is)
    (case a9 => k_is)
    (case l9 => k_is)
    (case c9 => k_is)
    (case k9 => k_is)
    (case a10 => k_is)
    (case l10 => k_is)
    (case c10 => k_is)
    (case k10 => k_is)
    (case a11 => k_is)
    (case l11 => k_is)
    (case c11 => k_is)
    (case k11 => k_is)
    (case a12 => k_is)
    (case l12 => k_is)
    (case c12 => k_is)
    (case k12 => k_is)
    (case a13 => k_is)
    (case l13 => k_is)
    (case c13 => k_is)
    (case k13 => k_is)
    (case a14 => k_is)
    (case l14 => k_is)
    (case c14 => k_is)
    (case k14 => k_is)
    (case a15 => k_is)
    (case l15 => k_is)
    (case c15 => k_is)
    (case k15 => k_is)
    (case a16 => k_is)
    (case l16 => k_is)
    (case c16 => k_is)
    (case k16 => k_is)
    (case a17 => k_is)
    (case l17 => k_is)
    (case c17 => k_is)
    (case k17 => k_is)
    (case a18 => k_is)
    (case l18 => k_is)
    (case c18 => k_is)
    (case k18 => k_is)
    (case a19 => k_is)
    (case l19 => k_is)
    (case c19 => k_is)
    (case k19 => k_is)
    (case a20 => k_is)
    (case l20 => k_is)
    (case c20 => k_is)
    (case k20 => k_is)
    (case a21 => k_is)
    (case l21 => k_is)
    (case c21 => k_is)
    (case k21 => k_is)
    (case a22 => k_is)
    (case l22 => k_is)
    (case c22 => k_is)
    (case k22 => k_is)
    (case a23 => k_is)
    (case l23 => k_is)
    (case c23 => k_is)
    (case k23 => k_is)
#print axioms PySem.Challenge.cw_viewloom_k70_awaits_are_taken_over_holds
