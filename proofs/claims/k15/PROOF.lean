import PyProof.Rows.All
import Wide.All
import OpenK.AllK
import Wide.FinOn
import HandS.ForMost
import HandS.More
import HandS.Codes
import HandS.StrMore
import HandS.ReplaceDef
import HandS.ReplaceLit
import HandS.ReplaceList
import HandS.FStr
import HandS.Ends
import PyProof.ReprRoads
import PyProof.ReprReads
import PyProof.RowDictHeap
import HandS.DictComp
import HandS.Walk
import KE.DataEq
import HandS.Defaults
import HandS.Property
import HandS.ClsMeth
import HandS.ExcIs
import HandS.RaiseMore
import HandS.ForExc
import HandS.IsInst
import HandS.DeepEq
import HandS.Deep
import PyProof.DictUpdate
import PyProof.DictDisplay
import HandS.Nested
import HandS.ExcInit
import KE.KSuper
import KE.KExcSuper
import HandS.ExcField
import KE.KExcIs
import HandS.ExcOwn
import HandS.IterVal
import HandS.Star
import HandS.DictTup
import HandS.ListItems
import KE.KDictCopyH
import KE.KDictList
import HandS.Steps
import HandS.Style
import HandS.TupLe
import HandS.Wide
import HandS.Comp
import HandS.List
import HandS.FStrTup
import KE.RegKIsAll
import KE.RegKSuper
import PySem.Challenge.RW_viewloom_k15_places
set_option Elab.async false
set_option linter.all false
set_option maxRecDepth 100000
set_option maxHeartbeats 4000000
namespace VL
open PySem PySem.Spec PyProof.Rows L2

/-! ### defs, methods, classes, as callers see them -/
structure Cal (P : Program) (w : World) (K : PySem.W.Frag) (mg : Str → Option Value) (base : Heap) (k : Nat) (x : Str) (sp : Sp) : Prop where
  ex : ∃ (f : Addr) (fd : FuncData) (ps : List Str), FnOk P w K mg base CX0 k f fd ps sp ∧ mg x = some (.ref f) ∧ PySem.W.keepIn K (.ref f) = true ∧ Binds K fd ps []
structure Met (P : Program) (w : World) (K : PySem.W.Frag) (mg : Str → Option Value) (base : Heap) (k : Nat) (C : Addr) (m : Str) (sp : Sp) : Prop where
  ex : ∃ (f : Addr) (fd : FuncData) (ps : List Str), Cls K C ∧ Meth K C m f ∧ FnOk P w K mg base CX0 k f fd ps sp ∧ Binds K fd ps []
structure Mak (P : Program) (w : World) (K : PySem.W.Frag) (mg : Str → Option Value) (base : Heap) (k : Nat) (x : Str) (C : Addr) (sp : Sp) : Prop where
  ex : ∃ (f : Addr) (fd : FuncData) (ps : List Str), Mk K C f ∧ FnOk P w K mg base CX0 k f fd ps sp ∧ mg x = some (.ref C) ∧ Binds K fd ps []
section
variable {X : Cx} {k j : Nat} {C : Addr} {x m : Str} {sp : Sp} {p pos apos : Pos} {e o : Expr} {es : List Expr} {ta : TE} {t : TA}
theorem pe_c (c : Cal X.prog X.w X.K X.mg X.base k x sp) (hr : Room j X.A) (hk : k ≤ j) (hg : Gl X x) (ha : PA X (e :: es) t)
    (hdb : (x == ("__debug__" : Str)) = false := by decide) (he : starEach (e :: es) X.env = (false, eval e X.env) :: starEach es X.env := by rfl) (hpl : (backTo pos (starEach es X.env)).any (·.1) = false := by rfl) :
    PE X (.Call (.Name x p) (e :: es) [] pos) (tCall sp [] E0 t) := by
  obtain ⟨f, fd, ps, F, hm, kp, b⟩ := c.ex
  exact pe_call F (hr.mono hk) hg hm kp b .nil pass0 ha hdb he hpl
theorem pe_mk (c : Mak X.prog X.w X.K X.mg X.base k x C sp) (hr : Room j X.A) (hk : k + 1 ≤ j) (hg : Gl X x) (ha : PA X (e :: es) t)
    (hdb : (x == ("__debug__" : Str)) = false := by decide) (he : starEach (e :: es) X.env = (false, eval e X.env) :: starEach es X.env := by rfl) (hpl : (backTo pos (starEach es X.env)).any (·.1) = false := by rfl) :
    PE X (.Call (.Name x p) (e :: es) [] pos) (tMake C sp [] E0 t) := by
  obtain ⟨f, fd, ps, M, F, hm, b⟩ := c.ex
  exact pe_make M F (hr.mono hk) hg hm b .nil pass0 ha hdb he hpl
theorem pe_mk0 (c : Mak X.prog X.w X.K X.mg X.base k x C sp) (hr : Room j X.A) (hk : k + 1 ≤ j) (hg : Gl X x) (hdb : (x == ("__debug__" : Str)) = false := by decide) :
    PE X (.Call (.Name x p) [] [] pos) (tMake C sp [] E0 tNil) := by
  obtain ⟨f, fd, ps, M, F, hm, b⟩ := c.ex
  exact pe_make0 M F (hr.mono hk) hg hm b .nil pass0 hdb
theorem pe_mt {pl : Sem Bool} (c : Met X.prog X.w X.K X.mg X.base k C m sp) (hr : Room j X.A) (hk : k ≤ j) (he : PE X o ta) (ha : PA X (e :: es) t)
    (hst : starEach (e :: es) X.env = (false, eval e X.env) :: starEach es X.env := by rfl) (hpl : (backTo pos (starEach es X.env)).any (·.1) = false := by rfl)
    (ht : eval (.Call (.Attribute o m apos) (e :: es) [] pos) X.env = (do
      let ov ← eval o X.env
      standAt apos.atName
      let (f, first) ← holding [ov] (getMethod ov m pl)
      callWith pos f first (backTo pos (starEach (e :: es) X.env)) (backToKw pos (keywordEach [] X.env))) := by rfl) :
    PE X (.Call (.Attribute o m apos) (e :: es) [] pos) (tMeth C m sp [] E0 ta t) := by
  obtain ⟨f, fd, ps, hc, hm, F, b⟩ := c.ex
  exact pe_meth (pl := pl) he hc hm F (hr.mono hk) b .nil pass0 ha hst hpl ht
theorem pe_mt0 {pl : Sem Bool} (c : Met X.prog X.w X.K X.mg X.base k C m sp) (hr : Room j X.A) (hk : k ≤ j) (he : PE X o ta)
    (ht : eval (.Call (.Attribute o m apos) [] [] pos) X.env = (do
      let ov ← eval o X.env
      standAt apos.atName
      let (f, first) ← holding [ov] (getMethod ov m pl)
      callWith pos f first (backTo pos (starEach [] X.env)) (backToKw pos (keywordEach [] X.env))) := by rfl) :
    PE X (.Call (.Attribute o m apos) [] [] pos) (tMeth C m sp [] E0 ta tNil) := by
  obtain ⟨f, fd, ps, hc, hm, F, b⟩ := c.ex
  exact pe_meth0 (pl := pl) he hc hm F (hr.mono hk) b .nil pass0 ht
end

/-! ### what the text has -/
def DefE (K : PySem.W.Frag) (mg : Str → Option Value) (x : Str) (st : Stmt) (ps : List Str) : Prop := ∃ (f : Addr) (fd : FuncData), Fun K x x st f fd ∧ mg x = some (.ref f) ∧ Binds K fd ps []
def MethE (K : PySem.W.Frag) (C : Addr) (x qual : Str) (st : Stmt) (ps : List Str) : Prop := ∃ (f : Addr) (fd : FuncData), Fun K x qual st f fd ∧ Meth K C x f ∧ Binds K fd ps []
def InitE (K : PySem.W.Frag) (mg : Str → Option Value) (cn : Str) (C : Addr) (qual : Str) (st : Stmt) (ps : List Str) : Prop := ∃ (f : Addr) (fd : FuncData), Fun K "__init__" qual st f fd ∧ Mk K C f ∧ mg cn = some (.ref C) ∧ Binds K fd ps []
/-- a global name of the module has the value v -/
abbrev GV (mg : Str → Option Value) (x : Str) (v : V) : Prop := ∃ u, mg x = some u ∧ RelV v u
section
variable {P : Program} {w : World} {K : PySem.W.Frag} {mg : Str → Option Value} {base : Heap}
theorem cal_of {x : Str} {st : Stmt} {ps N : List Str} {k : Nat} {sp : Sp} (D : DefE K mg x st ps) (S : FnScope N ps (defScope st)) (len : ∀ vs H Q E, sp vs H Q E → vs.length = ps.length)
    (hbody : ∀ (f : Addr) (cdv : Value) (A : Around) (outer : List Env) (s : Shared) (H : Hp) (vs : List V) (Q : VK) (E : XK), Room k (A.deeper (envOfC x (defScope st) s.heap.objs.size f cdv)) → sp vs H Q E →
      ∃ t, PSs (cxOf CX0 P w K mg base N x (defScope st) f cdv A outer s H E).nox (defBody st) t ∧ t { nx := fun _ H' => Q .non H', rt := Q } (start N vs) H) : Cal P w K mg base (k + 1) x sp := by
  obtain ⟨f, fd, F, hm, b⟩ := D
  exact ⟨f, fd, ps, F.ok S len (hbody f), hm, F.kp, b⟩
theorem met_of {C : Addr} {x qual : Str} {st : Stmt} {ps N : List Str} {k : Nat} {sp : Sp} (D : MethE K C x qual st ps) (c : Cls K C) (S : FnScope N ps (defScope st)) (len : ∀ vs H Q E, sp vs H Q E → vs.length = ps.length)
    (hbody : ∀ (f : Addr) (cdv : Value) (A : Around) (outer : List Env) (s : Shared) (H : Hp) (vs : List V) (Q : VK) (E : XK), Room k (A.deeper (envOfC qual (defScope st) s.heap.objs.size f cdv)) → sp vs H Q E →
      ∃ t, PSs (cxOf CX0 P w K mg base N qual (defScope st) f cdv A outer s H E).nox (defBody st) t ∧ t { nx := fun _ H' => Q .non H', rt := Q } (start N vs) H) : Met P w K mg base (k + 1) C x sp := by
  obtain ⟨f, fd, F, hm, b⟩ := D
  exact ⟨f, fd, ps, c, hm, F.ok S len (hbody f), b⟩
theorem mak_of {C : Addr} {cn qual : Str} {st : Stmt} {ps N : List Str} {k : Nat} {sp : Sp} (D : InitE K mg cn C qual st ps) (S : FnScope N ps (defScope st)) (len : ∀ vs H Q E, sp vs H Q E → vs.length = ps.length)
    (hbody : ∀ (f : Addr) (cdv : Value) (A : Around) (outer : List Env) (s : Shared) (H : Hp) (vs : List V) (Q : VK) (E : XK), Room k (A.deeper (envOfC qual (defScope st) s.heap.objs.size f cdv)) → sp vs H Q E →
      ∃ t, PSs (cxOf CX0 P w K mg base N qual (defScope st) f cdv A outer s H E).nox (defBody st) t ∧ t { nx := fun _ H' => Q .non H', rt := Q } (start N vs) H) : Mak P w K mg base (k + 1) cn C sp := by
  obtain ⟨f, fd, F, M, hm, b⟩ := D
  exact ⟨f, fd, ps, M, F.ok S len (hbody f), hm, b⟩
end
theorem ps_str_loc : True := trivial
end VL

set_option Elab.async false
set_option linter.all false
set_option maxRecDepth 100000
set_option maxHeartbeats 4000000
namespace VL
open PySem PySem.Spec PyProof.Rows L2

/-! ### texts as lists of signs -/
abbrev TX (l : List Nat) : Str := ⟨l.toArray⟩
theorem TX_tl (l : List Nat) : (TX l).cps.toList = l := by simp
theorem TX_len (l : List Nat) : (TX l).length = l.length := by simp [Str.length]
theorem TX_cat (a b : List Nat) : TX a ++ TX b = TX (a ++ b) := SX.S_cat a b
theorem TX_inj {a b : List Nat} (h : TX a = TX b) : a = b := SX.S_inj h
theorem vstr_TX {a b : List Nat} : decide (V.str (TX a) = V.str (TX b)) = decide (a = b) := by
  by_cases e : a = b
  · subst e; simp
  · have : ¬ V.str (TX a) = V.str (TX b) := fun q => e (TX_inj (V.str.inj q))
    rw [decide_eq_false this, decide_eq_false e]
theorem one_eq {c d : Nat} : decide (V.str (TX [c]) = V.str (TX [d])) = decide (c = d) := by
  rw [vstr_TX]
  by_cases e : c = d
  · subst e; simp
  · simp [e]
/-- the sign at a place -/
theorem at_mid {pre r : List Nat} {c : Nat} {i : Int} (hi : i = (pre.length : Int)) : atI (TX (pre ++ c :: r)).cps.toList i = some c := by
  subst hi
  rw [TX_tl]
  unfold atI ixN
  rw [if_pos (by omega), if_pos (by simp; omega)]
  show (pre ++ c :: r)[(pre.length : Int).toNat]? = _
  rw [Int.toNat_natCast]
  simp
theorem getD_TX (l : List Nat) (v : Nat) : (TX l).cps.getD v 0 = l.getD v 0 := by
  simp only [Array.getD, List.getD_eq_getElem?_getD]
  by_cases h : v < l.length
  · rw [dif_pos (by simpa using h)]
    simp [h]
  · rw [dif_neg (by simpa using h), List.getElem?_eq_none (by omega)]
    rfl
theorem lt_one {c d : Nat} : ([c] < [d]) ↔ c < d := by
  constructor
  · intro h
    cases h with
    | rel h => exact h
    | cons h => cases h
  · intro h
    exact .rel h
/-- s.startswith(y, i) -/
theorem starts_at {pre R y : List Nat} {i : Int} (hi : i = (pre.length : Int)) : Txt.startswith3 (TX (pre ++ R)) (TX y) i = (R.take y.length == y) := by
  subst hi
  have e : fromIndex (TX (pre ++ R)).length (pre.length : Int) = pre.length := by
    unfold fromIndex
    rw [if_neg (by omega)]
    omega
  unfold Txt.startswith3
  rw [e, StrLaws.subAt_eq]
  have h1 : (TX (pre ++ R)).cps.toList.drop pre.length = R := by simp
  rw [h1, TX_len, TX_len]
  show (decide (pre.length + y.length ≤ (pre ++ R).length) && (R.take y.length == (TX y).cps.toList)) = _
  rw [TX_tl, List.length_append]
  by_cases h : y.length ≤ R.length
  · rw [decide_eq_true (by omega)]
    rfl
  · rw [decide_eq_false (by omega)]
    have : (R.take y.length == y) = false := by
      refine beq_eq_false_iff_ne.mpr fun q => h ?_
      have := congrArg List.length q
      rw [List.length_take] at this
      omega
    rw [this]
    rfl
/-- s.find("\n", i) -/
theorem find_nl {pre c r : List Nat} {d : Nat} {i : Int} (hi : i = (pre.length : Int)) (hc : d ∉ c) : Txt.find3 (TX (pre ++ (c ++ d :: r))) (TX [d]) i = ((pre.length + c.length : Nat) : Int) := by
  subst hi
  have e : fromIndex (TX (pre ++ (c ++ d :: r))).length (pre.length : Int) = pre.length := by
    unfold fromIndex
    rw [if_neg (by omega)]
    omega
  have hg : ∀ v, v < (pre ++ (c ++ d :: r)).length → (TX (pre ++ (c ++ d :: r))).cps.getD v 0 = (pre ++ (c ++ d :: r)).getD v 0 := fun v _ => getD_TX _ v
  have hat : (pre ++ (c ++ d :: r)).getD (pre.length + c.length) 0 = d := by simp [List.getD_eq_getElem?_getD]
  have hlt : pre.length + c.length < (pre ++ (c ++ d :: r)).length := by rw [List.length_append, List.length_append, List.length_cons]; omega
  rcases StrLaws.find3_spec (TX (pre ++ (c ++ d :: r))) d (pre.length : Int) with ⟨_, h2⟩ | ⟨k, h1, h2, h3, h4, h5⟩
  · rw [e, TX_len] at h2
    exact absurd (by rw [hg _ hlt]; exact hat) (h2 (pre.length + c.length) (by omega) hlt)
  · rw [e] at h2 h5
    rw [TX_len] at h3
    rw [h1]
    have hk : k = pre.length + c.length := by
      rcases Nat.lt_trichotomy k (pre.length + c.length) with q | q | q
      · exfalso
        rw [hg k h3] at h4
        have e3 : (pre ++ (c ++ d :: r)).getD k 0 = c.getD (k - pre.length) 0 := by
          rw [List.getD_eq_getElem?_getD, List.getD_eq_getElem?_getD, List.getElem?_append_right h2, List.getElem?_append_left (by omega)]
        rw [e3] at h4
        apply hc
        have hlt2 : k - pre.length < c.length := by omega
        rw [List.getD_eq_getElem?_getD, List.getElem?_eq_getElem hlt2] at h4
        have h4 : c[k - pre.length] = d := h4
        rw [← h4]
        exact List.getElem_mem hlt2
      · exact q
      · exfalso
        exact h5 (pre.length + c.length) (by omega) q (by rw [hg _ hlt]; exact hat)
    rw [hk]
/-- s[i:j] -/
theorem cut_mid {pre m r : List Nat} {i j : Int} (hi : i = (pre.length : Int)) (hj : j = ((pre.length + m.length : Nat) : Int)) : cutS (TX (pre ++ (m ++ r))) (some i) (some j) = TX m := by
  subst hi hj
  unfold cutS
  rw [TX_len, HT.sIx_nat, HT.sIx_nat, TX_tl]
  have e1 : min pre.length (pre ++ (m ++ r)).length = pre.length := by simp
  have e2 : min (pre.length + m.length) (pre ++ (m ++ r)).length = pre.length + m.length := by simp
  rw [e1, e2]
  refine congrArg TX ?_
  rw [List.drop_left, Nat.add_sub_cancel_left, List.take_left]

/-! ### rows -/
def rws : List Nat → List Nat → List (List Nat)
  | acc, [] => [acc]
  | acc, c :: r => if c = 10 then acc :: rws [] r else rws (acc ++ [c]) r
theorem spl_rws : ∀ (l acc : List Nat), TL.spl [10] 0 acc l = rws acc l
  | [], acc => by rw [TL.spl_nil]; rfl
  | c :: r, acc => by
    unfold rws
    by_cases h : c = 10
    · subst h
      rw [if_pos rfl, TL.spl_hit (by rfl)]
      exact congrArg (acc :: ·) (spl_rws r [])
    · rw [if_neg h, TL.spl_miss (by
        show TL.pre [10] (c :: r) = false
        unfold TL.pre
        simp [h])]
      exact spl_rws r _
theorem rws_ne : ∀ (l acc : List Nat), rws acc l ≠ []
  | [], acc => by unfold rws; simp
  | c :: r, acc => by
    unfold rws
    split
    · simp
    · exact rws_ne r _
def lnOf (l : List Nat) : Nat := (rws [] l).length
def clOf (l : List Nat) : Nat := ((rws [] l).getLast (rws_ne _ _)).length
theorem rws_plain : ∀ (l acc m : List Nat), 10 ∉ m → ∃ fr la, rws acc l = fr ++ [la] ∧ rws acc (l ++ m) = fr ++ [la ++ m]
  | [], acc, m, h => by
    refine ⟨[], acc, rfl, ?_⟩
    show rws acc m = [acc ++ m]
    induction m generalizing acc with
    | nil => rw [List.append_nil]; rfl
    | cons c m ih =>
      have hc : c ≠ 10 := fun e => h (by rw [e]; exact List.mem_cons_self)
      unfold rws
      rw [if_neg hc, ih _ fun e => h (List.mem_cons_of_mem _ e), List.append_assoc]
      rfl
  | c :: r, acc, m, h => by
    rw [List.cons_append]
    unfold rws
    by_cases hc : c = 10
    · rw [if_pos hc, if_pos hc]
      obtain ⟨fr, la, e1, e2⟩ := rws_plain r [] m h
      exact ⟨acc :: fr, la, by rw [e1]; rfl, by rw [e2]; rfl⟩
    · rw [if_neg hc, if_neg hc]
      exact rws_plain r _ m h
theorem rws_nl : ∀ (l acc : List Nat), rws acc (l ++ [10]) = rws acc l ++ [[]]
  | [], acc => by
    show rws acc [10] = [acc] ++ [[]]
    unfold rws
    rw [if_pos rfl]
    rfl
  | c :: r, acc => by
    rw [List.cons_append]
    unfold rws
    split
    · rw [rws_nl r []]; rfl
    · exact rws_nl r _
theorem getLast_of {α : Type} {l fr : List α} {la : α} (h : l ≠ []) (e : l = fr ++ [la]) : l.getLast h = la := by
  subst e
  simp
theorem ln_plain (l m : List Nat) (h : 10 ∉ m) : lnOf (l ++ m) = lnOf l := by
  obtain ⟨fr, la, e1, e2⟩ := rws_plain l [] m h
  unfold lnOf
  rw [e1, e2]
  simp
theorem cl_plain (l m : List Nat) (h : 10 ∉ m) : clOf (l ++ m) = clOf l + m.length := by
  obtain ⟨fr, la, e1, e2⟩ := rws_plain l [] m h
  unfold clOf
  rw [getLast_of _ e1, getLast_of _ e2, List.length_append]
theorem ln_nl (l : List Nat) : lnOf (l ++ [10]) = lnOf l + 1 := by
  unfold lnOf
  rw [rws_nl]
  simp
theorem cl_nl (l : List Nat) : clOf (l ++ [10]) = 0 := by
  unfold clOf
  rw [getLast_of _ (rws_nl l [])]
  rfl
theorem cl_le : ∀ l : List Nat, clOf l ≤ l.length := by
  intro l
  have : ∀ (l acc : List Nat), ((rws acc l).getLast (rws_ne _ _)).length ≤ acc.length + l.length := by
    intro l
    induction l with
    | nil => intro acc; simp [rws]
    | cons c r ih =>
      intro acc
      by_cases hc : c = 10
      · have e : rws acc (c :: r) = acc :: rws [] r := by
          show (if c = 10 then _ else _) = _
          rw [if_pos hc]
        have e2 : (rws acc (c :: r)).getLast (rws_ne _ _) = (rws [] r).getLast (rws_ne _ _) := by
          simp only [e]
          exact List.getLast_cons (rws_ne _ _)
        rw [e2]
        have := ih []
        simp at this ⊢
        omega
      · have e : rws acc (c :: r) = rws (acc ++ [c]) r := by
          show (if c = 10 then _ else _) = _
          rw [if_neg hc]
        have e2 : (rws acc (c :: r)).getLast (rws_ne _ _) = (rws (acc ++ [c]) r).getLast (rws_ne _ _) := by simp only [e]
        rw [e2]
        have := ih (acc ++ [c])
        simp at this ⊢
        omega
  have := this l []
  simpa [clOf] using this
/-- row = source.split("\n"): how many, and the last one's length -/
theorem split_rows (l : List Nat) : Txt.split (TX l) (TX [10]) = (rws [] l).map TX := by
  have := SX.split_S (a := l) (b := [10]) (by simp) (by decide)
  rw [spl_rws] at this
  exact this
theorem rows_last (l : List Nat) : ∃ la : List Nat, atI ((rws [] l).map fun r => V.str (TX r)) (-1) = some (.str (TX la)) ∧ la.length = clOf l := by
  refine ⟨(rws [] l).getLast (rws_ne _ _), ?_, rfl⟩
  have hp : 0 < (rws [] l).length := List.length_pos_iff.mpr (rws_ne _ _)
  unfold atI ixN
  rw [if_neg (by decide), if_pos (by rw [List.length_map]; omega)]
  show ((rws [] l).map fun r => V.str (TX r))[_]? = _
  have e : (-1 + (((rws [] l).map fun r => V.str (TX r)).length : Int)).toNat = (rws [] l).length - 1 := by rw [List.length_map]; omega
  rw [e, List.getElem?_map, List.getElem?_eq_getElem (by omega), List.getLast_eq_getElem]
  rfl

/-! ### signs -/
def isLet (c : Nat) : Bool := (decide (97 ≤ c) && decide (c ≤ 122)) || (decide (65 ≤ c) && decide (c ≤ 90))
def isDig (c : Nat) : Bool := decide (48 ≤ c) && decide (c ≤ 57)
def isWs (c : Nat) : Bool := isLet c || isDig c || decide (c = 95)
end VL

set_option Elab.async false
set_option linter.all false
set_option maxRecDepth 100000
set_option maxHeartbeats 4000000
namespace VL
open PySem PySem.Spec PyProof.Rows L2

/-! ### defs whose first deed is s.replace(..) of written texts: a parameter's token is out -/
section
variable {P : Program} {w : World} {K : PySem.W.Frag} {mg : Str → Option Value} {base : Heap}
theorem cal_ofT {x : Str} {st : Stmt} {ps N : List Str} {k : Nat} {sp : Sp} (D : DefE K mg x st ps) (S : FnScope N ps (defScope st)) (hnc : ∀ y ∈ (defScope st).names, y.2 ≠ .cell) (hps : 1 ≤ ps.length) (len : ∀ vs H Q E, sp vs H Q E → vs.length = ps.length)
    (hbody : ∀ (f : Addr) (cdv : Value) (A : Around) (outer : List Env) (s : Shared) (H : Hp) (vs : List V) (Q : VK) (E : XK), Room k (A.deeper (envOfC x (defScope st) s.heap.objs.size f cdv)) → sp vs H Q E →
      ∃ t, PSsT (cxOf CX0 P w K mg base N x (defScope st) f cdv A outer s H E) (defBody st) t ∧ t { nx := fun _ H' => Q .non H', rt := Q } (start N vs) H) : Cal P w K mg base (k + 1) x sp := by
  obtain ⟨f, fd, F, hm, b⟩ := D
  have kp := F.kp
  obtain ⟨oc, od, kV, doc, pm, an, cdv, ct, osl, rfl, lk, hcd⟩ := F.ex
  exact ⟨f, _, ps, fn_ofT lk hcd S hnc hps len (fun A outer s H vs Q E hr h => hbody f cdv A outer s H vs Q E hr h), hm, kp, b⟩
end
/-- x = e, e with s.replace(..) in it -/
theorem pst_set {X : Cx} {i : Nat} {x : Str} {e : Expr} {te : TE} {pos' pos : Pos} (hN : X.N.Nodup) (hi : X.N[i]? = some x) (hx : Loc X.env.scope x) (he : PET X e te)
    (hs : swapsWith e (some (.Name x pos')) pos.line X.env = pure false := by rfl) (hf : X.fn x = true ∨ X.env.scope.names.lookup x = some .local := by first | exact .inl rfl | exact .inr rfl | assumption) :
    PST X (.Assign [.Name x pos'] e pos) (tAsg te (gName i)) := by
  intro pins s σ H D h0 I h
  refine wpAny_Assign_Name (thn (he pins s σ H _ h0 I h) fun v s1 z => ?_) hs
  obtain ⟨y, H1, I1, r1, q1⟩ := z
  exact store_ok I1 hN hi hx r1 (fun s2 I2 => ⟨_, H1, I2, q1⟩) hf
/-- an f-string, its reading by name (for comprehensions) -/
def tJoined (ts : List TE) : TE := fun σ H Q => tJs ts Str.empty σ H fun out H1 => Q (.str out) H1
theorem pe_joinedT {X : Cx} {v1 v2 : Expr} {rest : List Expr} {ts : List TE} {pos : Pos} (h : PJ X (v1 :: v2 :: rest) ts) : PE X (.JoinedStr (v1 :: v2 :: rest) pos) (tJoined ts) := pe_joined h
/-- each sign c of a text becomes z -/
def rep1 (c : Nat) (z l : List Nat) : List Nat := l.flatMap fun d => if d = c then z else [d]
theorem replL_one (c : Nat) (z : List Nat) : ∀ l : List Nat, StrLaws.replL [c] z l = rep1 c z l
  | [] => by rw [StrLaws.replL_nil]; rfl
  | d :: l => by
    by_cases h : d = c
    · subst h
      rw [StrLaws.replL_hit (by simp) (by simp)]
      show z ++ StrLaws.replL [d] z l = _
      rw [replL_one d z l]
      simp [rep1]
    · rw [StrLaws.replL_miss (by simpa using h), replL_one c z l]
      simp [rep1, h]
theorem replace_TX {l z : List Nat} {c : Nat} : Txt.replace (TX l) (TX [c]) (TX z) = TX (rep1 c z l) := by
  have h := StrLaws.replace_list (x := TX l) (y := TX [c]) (z := TX z) (by rw [TX_len]; exact Nat.le_refl _)
  rw [TX_tl, TX_tl, TX_tl, replL_one] at h
  calc Txt.replace (TX l) (TX [c]) (TX z) = TX (Txt.replace (TX l) (TX [c]) (TX z)).cps.toList := by simp
    _ = _ := by rw [h]
theorem join_TX : ∀ ls : List (List Nat), Txt.join (TX []) (ls.map TX) = TX ls.flatten := by
  intro ls
  rw [TL.join_eq]
  induction ls with
  | nil => rfl
  | cons a r ih =>
    cases r with
    | nil =>
      show TX a = _
      simp
    | cons b r =>
      show TX a ++ TX [] ++ Str.join (TX []) ((b :: r).map TX) = _
      rw [ih, TX_cat, TX_cat]
      simp
theorem sum_TX (ls : List (List Nat)) : ((ls.map TX).map (·.length)).sum = ls.flatten.length := by
  induction ls with
  | nil => rfl
  | cons a r ih => simp only [List.map_cons, List.sum_cons, List.flatten_cons, List.length_append, ih, TX_len]
end VL

set_option Elab.async false
set_option linter.all false
set_option maxRecDepth 100000
set_option maxHeartbeats 4000000
namespace VL
open PySem PySem.Spec PyProof.Rows L2

/-! ### a def that is called where nothing is being shown: the law's own; repr of nested data there -/
structure FnG (P : Program) (w : World) (K : PySem.W.Frag) (mg : Str → Option Value) (base : Heap) (k : Nat) (f : Addr) (fd : FuncData) (ps : List Str) (sp : Sp) : Prop where
  run : ∀ (A : Around) (outer : List Env) (s : Shared) (H : Hp) (args : Args) (us : List Value) (vs : List V) (Q : VK) (E : XK), A.guards = some [] → Room k A → Env0 P w K mg base A outer s H → BindsTo s fd args (ps.zip us) → Vals vs us → sp vs H Q E →
    codeAny (model P w) A (.call (.ref f) args) (CR CX0 outer P w H s Q E) s
theorem fnG_of {P : Program} {w : World} {K : PySem.W.Frag} {mg : Str → Option Value} {base : Heap} {x qual : Str} {st : Stmt} {f : Addr} {fd : FuncData} {N ps : List Str} {k : Nat} {sp : Sp} (F : Fun K x qual st f fd) (S : FnScope N ps (defScope st)) (len : ∀ vs H Q E, sp vs H Q E → vs.length = ps.length)
    (hb0 : ∀ (cdv : Value) (A : Around) (outer : List Env) (s : Shared) (H : Hp) (vs : List V) (Q : VK) (E : XK), A.guards = some [] → Room k (A.deeper (envOfC qual (defScope st) s.heap.objs.size f cdv)) → sp vs H Q E →
      ∃ t, PSs (cxOf CX0 P w K mg base N qual (defScope st) f cdv A outer s H E).nox (defBody st) t ∧ t { nx := fun _ H' => Q .non H', rt := Q } (start N vs) H) : FnG P w K mg base (k + 1) f fd ps sp := by
  obtain ⟨oc, od, kV, doc, pm, an, cdv, ct, osl, rfl, lk, hcd⟩ := F.ex
  refine ⟨fun A outer s H args us vs Q E gd hr en hb rv hsp => ?_⟩
  have hlen := len _ _ _ _ hsp
  have kin : K.In s.heap := en.mod.kin.keeps fun b o e => (en.bs b o e).1
  have nl : s.heap.NoLimit := en.mod.nolimit.keeps fun b o e => (en.bs b o e).1
  have kinds : ∀ y ∈ ps.zip us, (defScope st).names.lookup y.1 = some .local ∨ ((defScope st).names.lookup y.1 = some .cell ∧ ((cellsFrom (s.heap.objs.size + 1) (defScope st).names []).lookup y.1).isSome = true) := fun ⟨n, v⟩ hy => by
    rcases S.par n (List.of_mem_zip hy).1 with c | c
    · exact .inl c
    · exact .inr ⟨c, PySem.W.cellsFrom_some _ _ _ (.inl c)⟩
  refine codeAny_call_function hr.depth (kin _ _ lk) rfl S.co S.gen rfl (PySem.W.codeRec_of kin hcd) (hb _ _ _ _ ?_)
  refine wpAny_newFunctionEnv_cells S.kind kinds fun env he s1 ic => ?_
  subst he
  refine ⟨nl.keeps ic.toInCall.keep, codeAny_func ?_⟩
  obtain ⟨t, hd, hq⟩ := hb0 cdv A outer s H vs Q E gd (hr.deeper _) hsp
  have J0 : Inv (cxOf CX0 P w K mg base N qual (defScope st) f cdv A outer s H E) [] (start N vs) H s1 := inv_start S hr.hd en hlen rv ic
  refine wpAny_mono (hd.nox.run [] s1 (start N vs) H _ J0 hq) (fun fl s2 hs => ?_) fun e s2 hs => hs
  have done : ∀ {σ2 : L2.St} {H2 : Hp} {v : V} {u : Value}, Inv (cxOf CX0 P w K mg base N qual (defScope st) f cdv A outer s H E) [] σ2 H2 s2 → RelV v u → Q v H2 → CE outer P w H s Q u s2 :=
    fun {σ2 H2 v u} J rw q => ⟨v, H2, J.os, J.bare, J.base, J.hok, rw, q⟩
  cases fl with
  | ret u =>
    obtain ⟨v, σ2, H2, J, rw, q⟩ := hs
    exact done J rw q
  | next =>
    obtain ⟨σ2, H2, J, q⟩ := hs
    exact done (v := V.non) (u := Value.none) J rfl q
  | brk => exact hs.elim fun _ z => z.elim fun _ z => z.2.elim
  | cont => exact hs.elim fun _ z => z.elim fun _ z => z.2.elim
/-- the law's call, where nothing is being shown -/
theorem law_callG {P : Program} {w : World} {K : PySem.W.Frag} {mg mb : Str → Option Value} {k : Nat} {fa a : Addr} {fd : FuncData} {x : Str} {sp : Sp} {s₁ : Shared} {vs : List Value} {ns : List Int}
    (kin : K.In s₁.heap) (ng : s₁.heap.Ns mainGlobals mg) (nb : s₁.heap.Ns builtinsNs mb) (bb : ∀ x : Str, x ≠ "__name__" → mb x = bootBuiltins x) (nl : s₁.heap.NoLimit) (hgen : s₁.gens = #[])
    (ea : s₁.heap.get? a = some { cls := .type "list", data := .seq vs.toArray }) (hi : IntsAre vs ns) (hz : ns.length ≤ sizeLine) (hr : Room k callerA)
    (F : ∀ base : Heap, K.In base → base.Ns mainGlobals mg → FnG P w K mg base k fa fd [x] sp) (hbind : ∀ (s : Shared) (u : Value), BindsTo s fd ⟨[u], []⟩ [(x, u)])
    (hsp : ∀ H : Hp, Only H → SqL K H a (ns.map V.int) → sp [.ref a] H (fun v _ => v = .bl true) fun _ _ _ => False) :
    codeAny (model P w) callerA (.call (.ref fa) ⟨[.ref a], []⟩) (fun r s2 => r = .ok (.ret (.bool true)) ∧ OldK s₁.heap s2.heap ∧ s2.os = s₁.os ∧ AllBare s2.gens) s₁ := by
  have rel := vals_ints hi
  have lv := hi.length
  have go : ∀ H : Hp, Only H → SqL K H a (ns.map V.int) → HOk P w H s₁.heap → (∀ b, H b ≠ none → b = a) → (H a ≠ none → K.lookup a = none) →
      codeAny (model P w) callerA (.call (.ref fa) ⟨[.ref a], []⟩) (fun r s2 => r = .ok (.ret (.bool true)) ∧ OldK s₁.heap s2.heap ∧ s2.os = s₁.os ∧ AllBare s2.gens) s₁ := by
    intro H ho hq ok only out
    have low : ∀ {b : Addr} {o : Obj}, s₁.heap.get? b = some o → H b = none → (hidT s₁.heap H).get? b = some o := fun e n => hidT_get e n
    have nod : ∀ {b : Addr} {o : Obj} {es : Array DictEntry} {ep : Nat}, s₁.heap.get? b = some o → o.data = .dict es ep → H b = none := fun {b o es ep} e d => by
      cases c : H b with
      | none => rfl
      | some u =>
        obtain rfl : b = a := only b (by rw [c]; simp)
        rw [ea] at e
        cases e
        exact nomatch (show Data.seq vs.toArray _ = Data.dict es ep from d)
    have nsl : ∀ {b : Addr} {m : Str → Option Value}, s₁.heap.Ns b m → (hidT s₁.heap H).Ns b m := fun {b m} ⟨o, es, ep, e, d, r⟩ => ⟨o, es, ep, low e (nod e d), d, r⟩
    have kl : K.In (hidT s₁.heap H) := fun b o e => low (kin b o e) (by
      cases c : H b with
      | none => rfl
      | some u =>
        obtain rfl : b = a := only b (by rw [c]; simp)
        rw [out (by rw [c]; simp)] at e
        exact nomatch e)
    have md : Mod K mg (hidT s₁.heap H) := ⟨kl, nsl ng, ⟨mb, nsl nb, bb⟩, let ⟨mc, h1, h2⟩ := nl; ⟨mc, nsl h1, h2⟩⟩
    have en : Env0 P w K mg (hidT s₁.heap H) callerA [] s₁ H := ⟨rfl, md, fun b o e => of_hidT e, Nat.le_of_eq (hidT_size _ _), trivial, fun b hb => absurd (show b ∈ ([] : List Addr) from hb) (by simp), ok, .of_eq hgen⟩
    refine codeAny_mono ((F _ kl (nsl ng)).run callerA [] s₁ H ⟨[.ref a], []⟩ [.ref a] [.ref a] _ _ rfl hr en (hbind s₁ (.ref a)) (.cons rfl .nil) (hsp H ho hq)) fun r s2 h => ?_
    cases r with
    | error e => exact False.elim h
    | ok fl =>
      cases fl with
      | next => exact h.elim
      | brk => exact h.elim
      | cont => exact h.elim
      | ret u =>
        obtain ⟨v, H2, os, bare, un, ok2, r2, q⟩ := h
        obtain rfl : v = .bl true := q
        obtain rfl : u = Value.bool true := r2
        refine ⟨rfl, OldK.of_keep fun b o e => ?_, os, bare⟩
        cases c : H b with
        | none => exact un.keep b o e c (by intro z; exact absurd (show b ∈ ([] : List Addr) from z) (by simp)) (by simp)
        | some u =>
          rcases ho b with z | ⟨ob, xs, z⟩
          · exact nomatch c.symm.trans z
          · obtain ⟨e1, _⟩ := ok b _ z
            obtain ⟨e2, _⟩ := ok2 b _ (un.frzs b ob _ z)
            rw [e] at e1
            cases e1
            exact e2
  cases hk : K.lookup a with
  | some o =>
    have e := kin a o hk
    rw [ea] at e
    cases e
    exact go (fun _ => none) (fun _ => .inl rfl) (.inr ⟨_, vs.toArray, _, hk, rfl, rfl, rfl, by rw [List.size_toArray, lv]; exact hz, by simpa using rel⟩) (fun b u z => nomatch (show (none : Option HO) = some u from z)) (fun b z => absurd rfl z) fun z => absurd rfl z
  | none =>
    refine go (fun b => if b = a then some (.frz { cls := .type "list", data := .seq vs.toArray } (.lst (ns.map V.int))) else none) (fun b => ?_) (.inl (.inr ⟨{ cls := .type "list", data := .seq vs.toArray }, if_pos rfl⟩)) (fun b u z => ?_) (fun b z => ?_) fun _ => hk
    · by_cases hb : b = a
      · exact Or.inr ⟨_, _, if_pos hb⟩
      · exact Or.inl (if_neg hb)
    · by_cases hb : b = a
      · cases (if_pos hb).symm.trans z
        subst hb
        exact ⟨ea, by rw [List.length_map]; exact hz, vs, _, rel, ea⟩
      · exact nomatch (if_neg hb).symm.trans z
    · by_cases hb : b = a
      · exact hb
      · exact absurd (if_neg hb) z
theorem walk_ofG {l : PySem.W.OpenLaw} {n k : Nat} {q : Program} {loose : List Str} {XP : (Str → Option Value) → Heap → Prop} {YP : World → Heap → Prop} {d : DefRec} {K : Params → PySem.W.Frag} {sp : World → Sp} {x : Str}
    (hn : l.most = some n) (hn2 : n ≤ sizeLine) (hdf : d.params.defaults = []) (hr : Room k callerA) (hY : ∀ (w : World) (h : Heap), YP w h → (K w.params).In h)
    (F : ∀ (w : World) (mg : Str → Option Value) (fa : Addr) (h : Heap), (K w.params).In h → h.Ns mainGlobals mg → mg d.name = some (.ref fa) →
      ∃ fd : FuncData, (∀ (s : Shared) (u : Value), BindsTo s fd ⟨[u], []⟩ [(x, u)]) ∧ ∀ base : Heap, (K w.params).In base → base.Ns mainGlobals mg → FnG l.prog w (K w.params) mg base k fa fd [x] (sp w))
    (hsp : ∀ (w : World) (H : Hp) (a : Addr) (ns : List Int), ns.length ≤ n → Only H → SqL (K w.params) H a (ns.map V.int) → sp w [.ref a] H (fun v _ => v = .bl true) fun _ _ _ => False) :
    PySem.W.WalkO q loose XP YP l.row.toRowW d [] (fun f vs => PySem.call f vs) := by
  refine Att.attach_call hn hdf fun w s₀ s₁ mg mb fa o pm cd doc a vs ns G Y ho hd hcd hmg hobj hints hlen hgen => ?_
  have kin := hY w _ Y
  obtain ⟨fd, hb, hF⟩ := F w mg fa _ kin G.T.g hmg
  exact law_callG kin G.T.g G.T.b G.T.builtins G.T.nolimit hgen hobj hints (Nat.le_trans hlen hn2) hr hF hb fun H ho hq => hsp w H a ns hlen ho hq
end VL

set_option Elab.async false
set_option linter.all false
set_option maxRecDepth 100000
set_option maxHeartbeats 4000000
namespace VL
open PySem PySem.Spec PyProof.Rows L2 PyProof.V

/-! ### repr of a dict of nested data, where nothing is being shown -/
def enK : Key → PyData
  | .inl i => .int i
  | .inr x => .str x
def zipK : List (Key × V) → List PyData → List (PyData × PyData)
  | p :: ks, d :: ds => (enK p.1, d) :: zipK ks ds
  | _, _ => []
theorem zipK_vals : ∀ {ks : List (Key × V)} {ds : List PyData}, ks.length = ds.length → (zipK ks ds).map (·.2) = ds
  | [], [], _ => rfl
  | p :: ks, d :: ds, h => by
    show d :: (zipK ks ds).map (·.2) = d :: ds
    rw [zipK_vals (Nat.succ.inj h)]
theorem dpAll_len {K : PySem.W.Frag} {H : Hp} : ∀ {vs : List V} {ds : List PyData}, DpAll K H vs ds → vs.length = ds.length
  | _, _, .nil => rfl
  | _, _, .cons _ h => by simp [dpAll_len h]
section
variable {X : Cx} {pins : List (Addr × Obj)} {σ : L2.St} {H : Hp} {s : Shared}
theorem enK_reads {h : Heap} {P : Program} {w : World} (k : Key) (key : Value) (e : (mixKind P w).is k key = true) : Reads h key (enK k) [] := by
  rcases keyIs_shape (show keyIs k key = true from e) with ⟨i, t, rfl, rfl⟩ | ⟨x, t, rfl, rfl⟩
  · exact Reads.int i t
  · exact Reads.str x t
theorem pairs_read (I : Inv X pins σ H s) : ∀ {ks : List (Key × V)} {vs : List (Key × Value)} {ds : List PyData}, KV ks vs → DpAll X.K H (ks.map (·.2)) ds → ∃ bs, PairsRead s.heap enK vs (zipK ks ds) bs
  | [], _, _, r, h => by
    cases r
    exact ⟨[], by unfold zipK; exact .nil⟩
  | p :: ks, _, _, r, h => by
    cases r with
    | @cons _ q _ qs h1 h2 =>
      cases h with
      | @cons _ _ d ds g1 g2 =>
        obtain ⟨k, v⟩ := q
        obtain ⟨kp, vp⟩ := p
        obtain ⟨rfl, rv⟩ := h1
        obtain ⟨as, r1⟩ := Dp.reads I d _ _ g1 rv
        obtain ⟨bs, r2⟩ := pairs_read I h2 g2
        exact ⟨as ++ bs, .cons r1 r2⟩
def rRepD (K : PySem.W.Frag) : List V → Hp → VK → Prop := fun xs H Q => ∃ (a : Addr) (ks : List (Key × V)) (ds : List PyData), xs = [.ref a] ∧ H a = some (.dK ks) ∧ DpAll K H (ks.map (·.2)) ds ∧ PyData.showableKv (zipK ks ds) = true ∧ PyData.hasDictAll ds = false ∧
  PyData.depthKv (zipK ks ds) ≤ 40 ∧ (dictText (PyData.shownKv (zipK ks ds))).length ≤ sizeLine ∧ Q (.str (dictText (PyData.shownKv (zipK ks ds)))) H
theorem call_repD (gd : X.A.guards = some []) (hu : X.A.units + 64 < cLine) : CallR X (.builtin "repr") (rRepD X.K) := by
  intro pins s σ H xs us Q I r h
  obtain ⟨a, ks, ds, rfl, ha, hd, sh, nd, dep, len, q⟩ := h
  obtain ⟨u, rfl, ru⟩ := vals1 r
  cases (show u = Value.ref a from ru)
  obtain ⟨_, hsys, vs, rk, dic⟩ := (show ObjOk X.prog X.w H s.heap a (.dK ks) from I.hok a _ ha)
  obtain ⟨bs, pr⟩ := pairs_read I rk hd
  have rd := reads_dictOf (fun k key e => enK_reads k key e) dic pr
  obtain ⟨o, es, ep, ho, hx, hdat, _, hp, _⟩ := dic
  obtain ⟨rk1, rk2⟩ := readsAll_of_pairs (fun k key e => enK_reads k key e) hp pr
  obtain ⟨sh1, sh2⟩ := PyData.showableKv_split _ sh
  have vv : (zipK ks ds).map (·.2) = ds := zipK_vals (by have := dpAll_len hd; rw [List.length_map] at this; exact this)
  obtain ⟨b1, hb1, k1⟩ := ReprAllK.of_readsAll (prog := X.prog) (w := X.w) rk1 sh1 (fun _ z => nomatch z) (fun t ht => let ⟨p, hp, hl⟩ := PyData.shownKv_key_le _ t ht; Nat.le_trans hl (Nat.le_trans (dictText_mem_le hp) len))
  obtain ⟨b2, hb2, k2⟩ := ReprAllK.of_readsAll (prog := X.prog) (w := X.w) rk2 sh2 (fun z => by rw [vv, nd] at z; exact nomatch z) (fun t ht => let ⟨p, hp, hl⟩ := PyData.shownKv_val_le _ t ht; Nat.le_trans hl (Nat.le_trans (dictText_mem_le hp) len))
  have rm : ReadAtMost s.heap (PyData.depthKv (zipK ks ds)) (b1 ++ b2) := (hb1.mono (PyData.depthAll_keys_le _)).append (hb2.mono (PyData.depthAll_vals_le _))
  have na : a ∉ b1 ++ b2 := not_mem_of_deeper rd (by simp only [PyData.depth]; omega) rm
  have EK := ReprEntriesK.of_two es.toList _ _ (k1.more_le (fun b z => List.mem_append_left b2 z) (PyData.depthAll_keys_le (zipK ks ds))) (k2.more_le (fun b z => List.mem_append_right b1 z) (PyData.depthAll_vals_le (zipK ks ds)))
  rw [← PyData.shownKv_eq] at EK
  refine call_repr_slot (T := "dict") (idr := "dict.__repr__") (by omega) ⟨o, ho, hx.1⟩ F.slot_dict_repr (call_dict_reprK (h₀ := s.heap) ho hx.1 hdat hsys na EK gd (fun b _ => Clear.nil b) (by show X.A.units + 1 + (PyData.depthKv (zipK ks ds) + 1) < cLine; omega) (fun _ _ e => e) (fun h2 u tk hk => ?_) len)
  exact ⟨_, _, rfl, .str _, H, I.kept hk, ⟨u, rfl⟩, q⟩
end
theorem strApp (x y : Str) : (x ++ y).length = x.length + y.length := strLen_append x y
theorem textFrom_le : ∀ (ts : List Str) (k : Nat) (acc : Str), (textFrom k acc ts).length ≤ acc.length + piled ts
  | [], k, acc => by show acc.length ≤ _; omega
  | t :: ts, k, acc => by
    have ih := textFrom_le ts (k + 1) (acc ++ (if k > 0 then ", " else "" : String) ++ t)
    have e : (acc ++ (if k > 0 then ", " else "" : String) ++ t).length ≤ acc.length + 2 + t.length := by
      rw [strApp, strApp]
      split
      · exact Nat.le_of_eq rfl
      · show acc.length + 0 + t.length ≤ _
        omega
    show (textFrom (k + 1) (acc ++ (if k > 0 then ", " else "" : String) ++ t) ts).length ≤ _
    have : piled (t :: ts) = t.length + 2 + piled ts := by simp [piled]
    omega
theorem listText_le (ts : List Str) : (listText ts).length ≤ 2 + piled ts := by
  have := textFrom_le ts 0 "["
  have e1 : (("[" : String) : Str).length = 1 := rfl
  have e2 : (("]" : String) : Str).length = 1 := rfl
  unfold listText
  rw [strApp, e2]
  omega
theorem dictText_le (ts : List Str) : (dictText ts).length ≤ 2 + piled ts := by
  have e1 : (("{" : String) : Str).length = 1 := rfl
  have e2 : (("}" : String) : Str).length = 1 := rfl
  unfold dictText
  rw [strApp, strApp, e1, e2]
  by_cases h : ts = []
  · subst h
    show 1 + 0 + 1 ≤ _
    omega
  · have := join_length_add ts h
    omega
theorem piled_le {c : Nat} : ∀ {ts : List Str}, (∀ t ∈ ts, t.length ≤ c) → piled ts ≤ ts.length * (c + 2)
  | [], _ => by simp [piled]
  | t :: ts, h => by
    have ih := piled_le (ts := ts) fun x hx => h x (List.mem_cons_of_mem _ hx)
    have := h t List.mem_cons_self
    have e : piled (t :: ts) = t.length + 2 + piled ts := by simp [piled]
    have e2 : (t :: ts).length * (c + 2) = ts.length * (c + 2) + (c + 2) := by rw [List.length_cons, Nat.succ_mul]
    omega
end VL

set_option Elab.async false
set_option linter.all false
set_option maxRecDepth 100000
set_option maxHeartbeats 4000000
namespace VL
open PySem PySem.Spec PyProof.Rows L2 PyProof.V

/-! ### nested data with dicts: what stands there; repr of it, where nothing is being shown -/
mutual
inductive Dq (H : Hp) : V → PyData → Prop
  | non : Dq H .non .none
  | bl (b : Bool) : Dq H (.bl b) (.bool b)
  | int (i : Int) : Dq H (.int i) (.int i)
  | str (x : Str) : Dq H (.str x) (.str x)
  | lst {a : Addr} {xs : List V} {ds : List PyData} : H a = some (.lst xs) → DqAll H xs ds → Dq H (.ref a) (.list ds)
  | tup {a : Addr} {xs : List V} {ds : List PyData} : H a = some (.tup xs) → DqAll H xs ds → Dq H (.ref a) (.tuple ds)
  | dic {a : Addr} {ks : List (Key × V)} {ds : List PyData} : H a = some (.dK ks) → (ks.map (·.1)).Nodup → DqAll H (ks.map (·.2)) ds → Dq H (.ref a) (.dict (zipK ks ds))
inductive DqAll (H : Hp) : List V → List PyData → Prop
  | nil : DqAll H [] []
  | cons {v : V} {vs : List V} {d : PyData} {ds : List PyData} : Dq H v d → DqAll H vs ds → DqAll H (v :: vs) (d :: ds)
end
theorem DqAll.len {H : Hp} : ∀ {vs : List V} {ds : List PyData}, DqAll H vs ds → vs.length = ds.length
  | _, _, .nil => rfl
  | _, _, .cons _ h => by simp [DqAll.len h]
theorem DqAll.of_each {H : Hp} {P : V → PyData → Prop} : ∀ {vs : List V} {ds : List PyData}, DqAll H vs ds → (∀ v d, Dq H v d → P v d) → Paired P vs ds
  | _, _, .nil, _ => .nil
  | _, _, .cons a b, f => .cons (f _ _ a) (DqAll.of_each b f)
theorem DqAll.paired {H : Hp} : ∀ {vs : List V} {ds : List PyData}, DqAll H vs ds → Paired (Dq H) vs ds
  | _, _, .nil => .nil
  | _, _, .cons a b => .cons a (DqAll.paired b)
theorem DqAll.of_paired {H : Hp} : ∀ {vs : List V} {ds : List PyData}, Paired (Dq H) vs ds → DqAll H vs ds
  | _, _, .nil => .nil
  | _, _, .cons a b => .cons a (DqAll.of_paired b)
theorem dKv_le : ∀ (ks : List (Key × V)) (ds : List PyData), ks.length = ds.length → PyData.depthAll ds ≤ PyData.depthKv (zipK ks ds)
  | [], [], _ => Nat.le_refl _
  | p :: ks, d :: ds, h => by
    have ih := dKv_le ks ds (Nat.succ.inj h)
    show max (PyData.depth d) (PyData.depthAll ds) ≤ max (max (PyData.depth (enK p.1)) (PyData.depth d)) (PyData.depthKv (zipK ks ds))
    omega
theorem dq_mono_n {H H' : Hp} (s : Same H H') : ∀ (n : Nat) (d : PyData) (v : V), PyData.depth d ≤ n → Dq H v d → Dq H' v d := by
  intro n
  induction n with
  | zero =>
    intro d v hn h
    cases h with
    | non => exact .non
    | bl b => exact .bl b
    | int i => exact .int i
    | str x => exact .str x
    | lst _ _ => exact absurd hn (by simp [PyData.depth])
    | tup _ _ => exact absurd hn (by simp [PyData.depth])
    | dic _ _ _ => exact absurd hn (by simp [PyData.depth])
  | succ n ih =>
    have all : ∀ {vs : List V} {ds : List PyData}, DqAll H vs ds → PyData.depthAll ds ≤ n → DqAll H' vs ds := by
      intro vs
      induction vs with
      | nil => intro ds h _; cases h; exact .nil
      | cons v vs iv =>
        intro ds h hd
        cases h with
        | @cons _ _ d ds a b =>
          have hd' : max (PyData.depth d) (PyData.depthAll ds) ≤ n := hd
          exact .cons (ih d v (by omega) a) (iv b (by omega))
    intro d v hn h
    cases h with
    | non => exact .non
    | bl b => exact .bl b
    | int i => exact .int i
    | str x => exact .str x
    | lst h1 h2 => exact .lst (s _ _ h1) (all h2 (by simp only [PyData.depth] at hn; omega))
    | tup h1 h2 => exact .tup (s _ _ h1) (all h2 (by simp only [PyData.depth] at hn; omega))
    | @dic a ks ds h1 nd h2 =>
      have := dKv_le ks ds (by have := h2.len; rwa [List.length_map] at this)
      exact .dic (s _ _ h1) nd (all h2 (by simp only [PyData.depth] at hn; omega))
theorem Dq.same {H H' : Hp} {v : V} {d : PyData} (h : Dq H v d) (s : Same H H') : Dq H' v d := dq_mono_n s _ d v (Nat.le_refl _) h
theorem DqAll.same {H H' : Hp} (s : Same H H') : ∀ {vs : List V} {ds : List PyData}, DqAll H vs ds → DqAll H' vs ds
  | _, _, .nil => .nil
  | _, _, .cons a b => .cons (a.same s) (DqAll.same s b)
section
variable {X : Cx} {pins : List (Addr × Obj)} {σ : L2.St} {H : Hp} {s : Shared}
/-- what repr asks of a value that reads as d -/
def RpOk (X : Cx) (s : Shared) (u : Value) (d : PyData) : Prop := ∃ as bs, Reads s.heap u d as ∧ ReadAtMost s.heap (PyData.depth d) bs ∧ ReprK X.prog X.w bs s.heap (PyData.depth d) u (PyData.shown d)
def RpAll (X : Cx) (s : Shared) (us : List Value) (ds : List PyData) : Prop := ∃ as bs, ReadsAll s.heap us ds as ∧ ReadAtMost s.heap (PyData.depthAll ds) bs ∧ ReprAllK X.prog X.w bs s.heap (PyData.depthAll ds) us (PyData.shownAll ds)
theorem rp_all {n : Nat} (ih : ∀ (d : PyData) (v : V) (u : Value), PyData.depth d ≤ n → Dq H v d → RelV v u → PyData.showable d = true → (PyData.shown d).length ≤ sizeLine → RpOk X s u d) :
    ∀ {vs : List V} {us : List Value} {ds : List PyData}, DqAll H vs ds → PyData.depthAll ds ≤ n → Vals vs us → PyData.showableAll ds = true → (∀ t ∈ PyData.shownAll ds, t.length ≤ sizeLine) → RpAll X s us ds
  | [], us, ds, h, _, r, _, _ => by
    cases h
    cases r
    exact ⟨[], [], .nil, (fun _ h => nomatch h), .nil⟩
  | v :: vs, us, ds, h, hd, r, hs, hz => by
    cases h with
    | @cons _ _ d ds a b =>
      cases r with
      | @cons _ u _ us r1 r2 =>
        have hd' : max (PyData.depth d) (PyData.depthAll ds) ≤ n := hd
        have hs' : PyData.showable d = true ∧ PyData.showableAll ds = true := by simpa [PyData.showableAll] using hs
        obtain ⟨as1, bs1, x1, y1, z1⟩ := ih d v u (by omega) a r1 hs'.1 (hz _ (by simp only [PyData.shownAll]; exact List.mem_cons_self))
        obtain ⟨as2, bs2, x2, y2, z2⟩ := rp_all ih b (by omega) r2 hs'.2 (fun t ht => hz t (by simp only [PyData.shownAll]; exact List.mem_cons_of_mem _ ht))
        refine ⟨as1 ++ as2, bs1 ++ bs2, .cons x1 x2, fun b hm => ?_, ?_⟩
        · show ∃ d' as', Reads s.heap (.ref b) d' as' ∧ PyData.depth d' ≤ max (PyData.depth d) (PyData.depthAll ds)
          rcases List.mem_append.mp hm with hm | hm
          · obtain ⟨d', as', r', hd'⟩ := y1 b hm
            exact ⟨d', as', r', by omega⟩
          · obtain ⟨d', as', r', hd'⟩ := y2 b hm
            exact ⟨d', as', r', by omega⟩
        · simp only [PyData.depthAll, PyData.shownAll]
          exact .cons ((z1.more fun b hb => List.mem_append_left bs2 hb).level_le (Nat.le_max_left _ _)) (z2.more_le (fun b hb => List.mem_append_right bs1 hb) (Nat.le_max_right _ _))
theorem pairs_vals {P : Program} {w : World} : ∀ {es : List DictEntry} {kvs : List (Key × Value)}, Pairs (mixKind P w) es kvs → es.map (·.val) = kvs.map (·.2)
  | _, _, .nil => rfl
  | _, _, .cons _ hv hp => by rw [List.map_cons, List.map_cons, hv, pairs_vals hp]
theorem pairs_keys {h : Heap} {P : Program} {w : World} : ∀ {es : List DictEntry} {vs : List (Key × Value)} {ks : List (Key × V)} {ds : List PyData}, Pairs (mixKind P w) es vs → KV ks vs → ks.length = ds.length → ReadsAll h (es.map (·.key)) ((zipK ks ds).map (·.1)) []
  | _, _, [], [], .nil, _, _ => .nil
  | _, _, p :: ks, d :: ds, .cons (kv := q) hk hv hp, r, hl => by
    cases r with
    | cons r1 r2 =>
      have hk' := hk
      rw [← r1.1] at hk'
      exact ReadsAll.cons (enK_reads _ _ hk') (pairs_keys hp r2 (Nat.succ.inj hl))
  | _, _, p :: ks, d :: ds, .nil, r, hl => by cases r
  | _, _, [], [], .cons _ _ _, r, _ => by cases r
  | _, _, [], d :: ds, _, _, hl => nomatch hl
  | _, _, p :: ks, [], _, _, hl => nomatch hl
theorem kv_vals : ∀ {ks : List (Key × V)} {vs : List (Key × Value)}, KV ks vs → Vals (ks.map (·.2)) (vs.map (·.2))
  | _, _, .nil => .nil
  | _, _, .cons r rs => .cons r.2 (kv_vals rs)
theorem dq_rp (I : Inv X pins σ H s) : ∀ (n : Nat) (d : PyData) (v : V) (u : Value), PyData.depth d ≤ n → Dq H v d → RelV v u → PyData.showable d = true → (PyData.shown d).length ≤ sizeLine → RpOk X s u d := by
  intro n
  induction n with
  | zero =>
    intro d v u hn h r hs hz
    cases h with
    | non => cases r; exact ⟨_, [], .none, (fun _ h => nomatch h), by simp only [PyData.shown]; exact .of_is ReprIs.none _ _ _⟩
    | bl b => cases r; exact ⟨_, [], .bool b, (fun _ h => nomatch h), by simp only [PyData.shown]; exact .of_is (ReprIs.bool b) _ _ _⟩
    | int i =>
      obtain ⟨t, rfl⟩ := r
      exact ⟨_, [], .int i t, (fun _ h => nomatch h), by simp only [PyData.shown]; exact .of_is (ReprIs.int t (by simpa [PyData.showable] using hs)) _ _ _⟩
    | str x =>
      obtain ⟨t, rfl⟩ := r
      exact ⟨_, [], .str x t, (fun _ h => nomatch h), by simp only [PyData.shown]; exact .of_is (ReprIs.str x t (by simpa only [PyData.shown] using hz)) _ _ _⟩
    | lst _ _ => exact absurd hn (by simp [PyData.depth])
    | tup _ _ => exact absurd hn (by simp [PyData.depth])
    | dic _ _ _ => exact absurd hn (by simp [PyData.depth])
  | succ n ih =>
    intro d v u hn h r hs hz
    cases h with
    | non => exact ih _ _ _ (Nat.zero_le _) .non r hs hz
    | bl b => exact ih _ _ _ (Nat.zero_le _) (.bl b) r hs hz
    | int i => exact ih _ _ _ (Nat.zero_le _) (.int i) r hs hz
    | str x => exact ih _ _ _ (Nat.zero_le _) (.str x) r hs hz
    | @lst a xs ds h1 h2 =>
      cases (show u = Value.ref a from r)
      obtain ⟨_, its, m, rv, ho⟩ := (show ObjOk X.prog X.w H s.heap a (.lst xs) from I.hok a _ h1)
      have zz : (listText (PyData.shownAll ds)).length ≤ sizeLine := by simpa only [PyData.shown] using hz
      obtain ⟨as, bs, ra, rm, rk⟩ := rp_all ih h2 (by simp only [PyData.depth] at hn; omega) rv (by simpa [PyData.showable] using hs) (fun t ht => Nat.le_trans (listText_mem_le ht) zz)
      have rd : Reads s.heap (.ref a) (.list ds) (a :: as) := .list ho rfl rfl ra
      have na : a ∉ bs := not_mem_of_deeper rd (by simp only [PyData.depth]; omega) rm
      refine ⟨_, a :: bs, rd, ReadAtMost.cons rd (by simp only [PyData.depth]; omega) rm, ?_⟩
      simp only [PyData.depth, PyData.shown]
      cases its with
      | nil =>
        cases ra
        simp only [PyData.shownAll, listText_nil]
        exact ReprK.listEmpty ho rfl rfl
      | cons x l => exact ReprK.list ho rfl rfl na (by simpa using rk.length_eq) (fun i y e => rk.item i y (by simpa using e))
    | @tup a xs ds h1 h2 =>
      cases (show u = Value.ref a from r)
      obtain ⟨_, its, rv, o, ho, oc, m, od⟩ := (show ObjOk X.prog X.w H s.heap a (.tup xs) from I.hok a _ h1)
      have zz : (tupleText (PyData.shownAll ds)).length ≤ sizeLine := by simpa only [PyData.shown] using hz
      obtain ⟨as, bs, ra, rm, rk⟩ := rp_all ih h2 (by simp only [PyData.depth] at hn; omega) rv (by simpa [PyData.showable] using hs) (fun t ht => Nat.le_trans (tupleText_mem_le ht) zz)
      have rd : Reads s.heap (.ref a) (.tuple ds) as := .tuple ho oc od ra
      have na : a ∉ bs := not_mem_of_deeper rd (by simp only [PyData.depth]; omega) rm
      refine ⟨_, a :: bs, rd, ReadAtMost.cons rd (by simp only [PyData.depth]; omega) rm, ?_⟩
      simp only [PyData.depth, PyData.shown]
      exact ReprK.tuple ho oc od na rk
    | @dic a ks ds h1 nd h2 =>
      cases (show u = Value.ref a from r)
      obtain ⟨_, hsys, vs, rkv, dof⟩ := (show ObjOk X.prog X.w H s.heap a (.dK ks) from I.hok a _ h1)
      have kl : ks.length = ds.length := by have := h2.len; rwa [List.length_map] at this
      have zz : (dictText (PyData.shownKv (zipK ks ds))).length ≤ sizeLine := by simpa only [PyData.shown] using hz
      obtain ⟨o, es, ep, ho, hx, hdat, _, hp, _⟩ := dof
      have vv : (zipK ks ds).map (·.2) = ds := zipK_vals kl
      obtain ⟨sh1, sh2⟩ := PyData.showableKv_split _ (show PyData.showableKv (zipK ks ds) = true by simpa [PyData.showable] using hs)
      rw [vv] at sh2
      have rk1 : ReadsAll s.heap (es.toList.map (·.key)) ((zipK ks ds).map (·.1)) [] := pairs_keys hp rkv kl
      have dle := dKv_le ks ds kl
      obtain ⟨as2, b2, ra2, hb2, k2⟩ := rp_all ih h2 (by simp only [PyData.depth] at hn; omega) (kv_vals rkv) sh2 (fun t ht => by
        rw [← vv] at ht
        obtain ⟨p, hp, hl⟩ := PyData.shownKv_val_le _ t ht
        exact Nat.le_trans hl (Nat.le_trans (dictText_mem_le hp) zz))
      obtain ⟨b1, hb1, k1⟩ := ReprAllK.of_readsAll (prog := X.prog) (w := X.w) rk1 sh1 (fun _ z => nomatch z) (fun t ht => let ⟨p, hp, hl⟩ := PyData.shownKv_key_le _ t ht; Nat.le_trans hl (Nat.le_trans (dictText_mem_le hp) zz))
      have ev : es.toList.map (·.val) = vs.map (·.2) := pairs_vals hp
      rw [← ev] at ra2 k2
      have ra2' : ReadsAll s.heap (es.toList.map (·.val)) ((zipK ks ds).map (·.2)) as2 := by rw [vv]; exact ra2
      have rd : Reads s.heap (.ref a) (.dict (zipK ks ds)) (a :: [] ++ as2) := .dict ho hx.1 hdat rk1 ra2'
      have rm : ReadAtMost s.heap (PyData.depthKv (zipK ks ds)) (b1 ++ b2) := (hb1.mono (PyData.depthAll_keys_le _)).append (hb2.mono dle)
      have na : a ∉ b1 ++ b2 := not_mem_of_deeper rd (by simp only [PyData.depth]; omega) rm
      refine ⟨_, a :: (b1 ++ b2), rd, ReadAtMost.cons rd (by simp only [PyData.depth]; omega) rm, ?_⟩
      have EK := ReprEntriesK.of_two es.toList _ _ (k1.more_le (fun b z => List.mem_append_left b2 z) (PyData.depthAll_keys_le (zipK ks ds))) (k2.more_le (fun b z => List.mem_append_right b1 z) dle)
      rw [show PyData.shownAll ds = PyData.shownAll ((zipK ks ds).map (·.2)) by rw [vv], ← PyData.shownKv_eq] at EK
      simp only [PyData.depth, PyData.shown]
      exact ReprK.dict ho hx.1 hdat hsys na EK
theorem rp_list (I : Inv X pins σ H s) {vs : List V} {us : List Value} {ds : List PyData} (h : DqAll H vs ds) (r : Vals vs us) (hs : PyData.showableAll ds = true) (hz : ∀ t ∈ PyData.shownAll ds, t.length ≤ sizeLine) : RpAll X s us ds :=
  rp_all (fun d v u hn => dq_rp I _ d v u hn) h (Nat.le_refl _) r hs hz
def rRepQ : List V → Hp → VK → Prop := fun xs H Q => ∃ (a : Addr) (d : PyData), xs = [.ref a] ∧ Dq H (.ref a) d ∧ PyData.showable d = true ∧ PyData.depth d ≤ 40 ∧ (PyData.shown d).length ≤ sizeLine ∧ Q (.str (PyData.shown d)) H
theorem call_repQ (gd : X.A.guards = some []) (hu : X.A.units + 64 < cLine) : CallR X (.builtin "repr") rRepQ := by
  intro pins s σ H xs us Q I r h
  obtain ⟨a, d, rfl, hd, hs, dep, hz, q⟩ := h
  obtain ⟨u, rfl, ru⟩ := vals1 r
  cases (show u = Value.ref a from ru)
  have fin : ∀ (h' : Heap) (v : Tok) (tk : Nat), (∀ b o, s.heap.get? b = some o → h'.get? b = some o) → EP X pins σ Q (.str (PyData.shown d) v) { s with heap := h', toks := tk } := fun h' v tk hk => ⟨.str _, H, I.kept hk, ⟨v, rfl⟩, q⟩
  cases hd with
  | @lst _ xs ds h1 h2 =>
    obtain ⟨_, its, m, rv, ho⟩ := (show ObjOk X.prog X.w H s.heap a (.lst xs) from I.hok a _ h1)
    have zz : (listText (PyData.shownAll ds)).length ≤ sizeLine := by simpa only [PyData.shown] using hz
    obtain ⟨as, bs, ra, rm, rk⟩ := rp_list I h2 rv (by simpa [PyData.showable] using hs) (fun t ht => Nat.le_trans (listText_mem_le ht) zz)
    have rd : Reads s.heap (.ref a) (.list ds) (a :: as) := .list ho rfl rfl ra
    have na : a ∉ bs := not_mem_of_deeper rd (by simp only [PyData.depth]; omega) rm
    simp only [PyData.depth] at dep
    simp only [PyData.shown] at fin
    cases its with
    | nil =>
      cases ra
      simp only [PyData.shownAll, listText_nil] at fin
      exact call_repr_slot (T := "list") (by omega) ⟨_, ho, rfl⟩ F.slot_list_repr.toG (call_list_repr_empty ⟨_, ho, rfl⟩ ho rfl ⟨_, _, rfl, fin s.heap _ _ fun _ _ e => e⟩)
    | cons x l =>
      exact call_repr_slot (T := "list") (by omega) ⟨_, ho, rfl⟩ F.slot_list_repr.toG (call_list_reprK (h₀ := s.heap) ho rfl rfl na (by simpa using rk.length_eq) (fun i y e => rk.item i y (by simpa using e)) gd (fun b _ => Clear.nil b) (by show X.A.units + 1 + _ < cLine; omega) (fun _ _ e => e) (fun h' v tk hk => ⟨_, _, rfl, fin h' v tk hk⟩) zz)
  | @tup _ xs ds h1 h2 =>
    obtain ⟨_, its, rv, o, ho, oc, m, od⟩ := (show ObjOk X.prog X.w H s.heap a (.tup xs) from I.hok a _ h1)
    have zz : (tupleText (PyData.shownAll ds)).length ≤ sizeLine := by simpa only [PyData.shown] using hz
    obtain ⟨as, bs, ra, rm, rk⟩ := rp_list I h2 rv (by simpa [PyData.showable] using hs) (fun t ht => Nat.le_trans (tupleText_mem_le ht) zz)
    have rd : Reads s.heap (.ref a) (.tuple ds) as := .tuple ho oc od ra
    have na : a ∉ bs := not_mem_of_deeper rd (by simp only [PyData.depth]; omega) rm
    simp only [PyData.depth] at dep
    simp only [PyData.shown] at fin
    exact call_repr_slot (T := "tuple") (by omega) ⟨_, ho, oc⟩ F.slot_tuple_repr (call_tuple_reprK (h₀ := s.heap) ho oc od na rk gd (fun b _ => Clear.nil b) (by show X.A.units + 1 + _ < cLine; omega) (fun _ _ e => e) (fun h' v tk hk => ⟨_, _, rfl, fin h' v tk hk⟩) zz)
  | @dic _ ks ds h1 nd h2 =>
    obtain ⟨_, hsys, vs, rkv, dof⟩ := (show ObjOk X.prog X.w H s.heap a (.dK ks) from I.hok a _ h1)
    have kl : ks.length = ds.length := by have := h2.len; rwa [List.length_map] at this
    have zz : (dictText (PyData.shownKv (zipK ks ds))).length ≤ sizeLine := by simpa only [PyData.shown] using hz
    obtain ⟨o, es, ep, ho, hx, hdat, _, hp, _⟩ := dof
    have vv : (zipK ks ds).map (·.2) = ds := zipK_vals kl
    obtain ⟨sh1, sh2⟩ := PyData.showableKv_split _ (show PyData.showableKv (zipK ks ds) = true by simpa [PyData.showable] using hs)
    rw [vv] at sh2
    have rk1 : ReadsAll s.heap (es.toList.map (·.key)) ((zipK ks ds).map (·.1)) [] := pairs_keys hp rkv kl
    have dle := dKv_le ks ds kl
    obtain ⟨as2, b2, ra2, hb2, k2⟩ := rp_list I h2 (kv_vals rkv) sh2 (fun t ht => by
      rw [← vv] at ht
      obtain ⟨p, hp, hl⟩ := PyData.shownKv_val_le _ t ht
      exact Nat.le_trans hl (Nat.le_trans (dictText_mem_le hp) zz))
    obtain ⟨b1, hb1, k1⟩ := ReprAllK.of_readsAll (prog := X.prog) (w := X.w) rk1 sh1 (fun _ z => nomatch z) (fun t ht => let ⟨p, hp, hl⟩ := PyData.shownKv_key_le _ t ht; Nat.le_trans hl (Nat.le_trans (dictText_mem_le hp) zz))
    have ev : es.toList.map (·.val) = vs.map (·.2) := pairs_vals hp
    rw [← ev] at ra2 k2
    have ra2' : ReadsAll s.heap (es.toList.map (·.val)) ((zipK ks ds).map (·.2)) as2 := by rw [vv]; exact ra2
    have rd : Reads s.heap (.ref a) (.dict (zipK ks ds)) (a :: [] ++ as2) := .dict ho hx.1 hdat rk1 ra2'
    have rm : ReadAtMost s.heap (PyData.depthKv (zipK ks ds)) (b1 ++ b2) := (hb1.mono (PyData.depthAll_keys_le _)).append (hb2.mono dle)
    have na : a ∉ b1 ++ b2 := not_mem_of_deeper rd (by simp only [PyData.depth]; omega) rm
    have EK := ReprEntriesK.of_two es.toList _ _ (k1.more_le (fun b z => List.mem_append_left b2 z) (PyData.depthAll_keys_le (zipK ks ds))) (k2.more_le (fun b z => List.mem_append_right b1 z) dle)
    rw [show PyData.shownAll ds = PyData.shownAll ((zipK ks ds).map (·.2)) by rw [vv], ← PyData.shownKv_eq] at EK
    simp only [PyData.depth] at dep
    simp only [PyData.shown] at fin
    exact call_repr_slot (T := "dict") (idr := "dict.__repr__") (by omega) ⟨o, ho, hx.1⟩ F.slot_dict_repr (call_dict_reprK (h₀ := s.heap) ho hx.1 hdat hsys na EK gd (fun b _ => Clear.nil b) (by show X.A.units + 1 + _ < cLine; omega) (fun _ _ e => e) (fun h' v tk hk => ⟨_, _, rfl, fin h' v tk hk⟩) zz)
end
end VL

set_option Elab.async false
set_option linter.all false
set_option maxRecDepth 100000
set_option maxHeartbeats 4000000
namespace VL
open PySem PySem.Spec PyProof.Rows L2
/-! ### dict comprehensions over any walk; dicts read while locked -/
theorem dc_itQ {J : It} {n : Nat} {G : Hp → Prop} {Y : Nat → Hp → V → Hp → Prop} (w : Walk J n G Y) {g : TG} {tt : TT} {tk tv : TE} {vs : List Nat} {σ : L2.St} {H1 : Hp} {D : Addr} {Qd : Hp → Prop} (Pv : Nat → Hp → Prop) (h0 : Pv 0 (upd H1 D (.dK []))) (hG : ∀ i H, i ≤ n → Pv i H → G H)
    (hs : ∀ i x H H', i < n → Pv i H → Y i H x H' → g x (wipe σ vs) H' fun σ2 H2 => wipe σ2 vs = wipe σ vs ∧ tt σ2 H2 fun b H3 =>
      if b = true then tk σ2 H3 fun y H4 => tv σ2 H4 fun z H5 => ∃ kvs k, y = kV k ∧ H5 D = some (.dK kvs) ∧ kvs.length < sizeLine ∧ Pv (i + 1) (upd H5 D (.dK (putK kvs k z))) else Pv (i + 1) H3) (hd : ∀ H, Pv n H → Qd H) :
    ∃ W : Nat → Nat → Hp → Prop, (∃ m, W 0 m (upd H1 D (.dK []))) ∧ ∀ i m H, W i m H →
      (J.stop i H ∧ Qd H) ∨ (J.go i H ∧ ∃ Nx : Hp → Prop, (∀ H', Nx H' → ∃ m', m' < m ∧ W (i + 1) m' H') ∧ ∀ x H', J.yld i H x H' → g x (wipe σ vs) H' fun σ2 H2 => wipe σ2 vs = wipe σ vs ∧ tt σ2 H2 fun b H3 =>
        if b = true then tk σ2 H3 fun y H4 => tv σ2 H4 fun z H5 => ∃ kvs k, y = kV k ∧ H5 D = some (.dK kvs) ∧ kvs.length < sizeLine ∧ Nx (upd H5 D (.dK (putK kvs k z))) else Nx H3) := by
  refine ⟨fun i m H => m = n - i ∧ i ≤ n ∧ Pv i H, ⟨n, by simp, Nat.zero_le _, h0⟩, ?_⟩
  rintro i m H ⟨rfl, hi, p⟩
  have q := hG i H hi p
  by_cases hlt : i < n
  · refine .inr ⟨w.goes i H hlt q, Pv (i + 1), fun H' p' => ⟨n - (i + 1), by omega, rfl, hlt, p'⟩, fun x H' y => hs i x H H' hlt p (w.yields i H x H' hlt q y)⟩
  · have e : i = n := by omega
    subst e
    exact .inl ⟨w.stops H q, hd H p⟩
theorem dget_fz {H : Hp} {a : Addr} {o : Obj} {kvs : List (Key × V)} {k : Key} (e : H a = some (.frz o (.dK kvs))) : DGet H a (kV k) (valV kvs k) := .inl ⟨kvs, k, .inr ⟨o, e⟩, rfl, rfl⟩
theorem putK_nw {ks : List (Key × V)} {k : Key} {v : V} (h : valV ks k = none) : putK ks k v = ks ++ [(k, v)] := by
  unfold putK
  rw [valV_any, h]
  rfl
theorem valV_out {ks : List (Key × V)} {k : Key} (h : k ∉ ks.map (·.1)) : valV ks k = none := by
  induction ks with
  | nil => rfl
  | cons p ks ih =>
    rw [valV_neg (fun z => h (by rw [List.map_cons, ← z]; exact List.mem_cons_self))]
    exact ih fun z => h (List.mem_cons_of_mem _ z)
theorem valV_nd : ∀ {ks : List (Key × V)} {i : Nat} {k : Key} {v : V}, (ks.map (·.1)).Nodup → ks[i]? = some (k, v) → valV ks k = some v
  | [], _, _, _, _, h => by simp at h
  | p :: ks, 0, k, v, nd, h => by
    simp at h
    subst h
    exact valV_pos rfl
  | p :: ks, i + 1, k, v, nd, h => by
    simp at h
    rw [List.map_cons, List.nodup_cons] at nd
    have hm : k ∈ ks.map (·.1) := List.mem_map.mpr ⟨_, List.mem_of_getElem? h, rfl⟩
    rw [valV_neg (fun z => nd.1 (by rw [z]; exact hm))]
    exact valV_nd nd.2 h
theorem zipK_keys : ∀ {ks ls : List (Key × V)} {ds : List PyData}, ks.map (·.1) = ls.map (·.1) → zipK ks ds = zipK ls ds
  | [], [], _, _ => by unfold zipK; rfl
  | p :: ks, q :: ls, [], h => by unfold zipK; rfl
  | p :: ks, q :: ls, d :: ds, h => by
    rw [List.map_cons, List.map_cons] at h
    injection h with h1 h2
    show (enK p.1, d) :: zipK ks ds = (enK q.1, d) :: zipK ls ds
    rw [h1, zipK_keys h2]
  | [], q :: ls, _, h => nomatch h
  | p :: ks, [], _, h => nomatch h
theorem zipK_app : ∀ {ks ls : List (Key × V)} {ds es : List PyData}, ks.length = ds.length → zipK (ks ++ ls) (ds ++ es) = zipK ks ds ++ zipK ls es
  | [], ls, [], es, _ => rfl
  | p :: ks, ls, d :: ds, es, h => by
    show (enK p.1, d) :: zipK (ks ++ ls) (ds ++ es) = (enK p.1, d) :: zipK ks ds ++ zipK ls es
    rw [zipK_app (Nat.succ.inj h)]
    rfl
theorem enK_inj {a b : Key} (h : enK a = enK b) : a = b := by
  cases a with
  | inl i => cases b with
    | inl j => injection h with h; rw [h]
    | inr y => exact nomatch h
  | inr x => cases b with
    | inl j => exact nomatch h
    | inr y => injection h with h; rw [h]
/-! ### what stands there is one thing -/
theorem dq_det_n {H : Hp} : ∀ (n : Nat) (d d' : PyData) (v : V), PyData.depth d ≤ n → Dq H v d → Dq H v d' → d = d' := by
  intro n
  induction n with
  | zero =>
    intro d d' v hn h h'
    cases h with
    | non => cases h'; rfl
    | bl b => cases h'; rfl
    | int i => cases h'; rfl
    | str x => cases h'; rfl
    | lst _ _ => exact absurd hn (by simp [PyData.depth])
    | tup _ _ => exact absurd hn (by simp [PyData.depth])
    | dic _ _ _ => exact absurd hn (by simp [PyData.depth])
  | succ n ih =>
    have all : ∀ {vs : List V} {ds es : List PyData}, DqAll H vs ds → DqAll H vs es → PyData.depthAll ds ≤ n → ds = es := by
      intro vs
      induction vs with
      | nil => intro ds es h h' _; cases h; cases h'; rfl
      | cons v vs iv =>
        intro ds es h h' hd
        cases h with
        | @cons _ _ d ds a b =>
          cases h' with
          | @cons _ _ e es a' b' =>
            have hd' : max (PyData.depth d) (PyData.depthAll ds) ≤ n := hd
            rw [ih d e v (by omega) a a', iv b b' (by omega)]
    intro d d' v hn h h'
    cases h with
    | non => cases h'; rfl
    | bl b => cases h'; rfl
    | int i => cases h'; rfl
    | str x => cases h'; rfl
    | lst h1 h2 =>
      simp only [PyData.depth] at hn
      cases h' with
      | lst g1 g2 => rw [h1] at g1; cases g1; rw [all h2 g2 (by omega)]
      | tup g1 g2 => rw [h1] at g1; cases g1
      | dic g1 _ g2 => rw [h1] at g1; cases g1
    | tup h1 h2 =>
      simp only [PyData.depth] at hn
      cases h' with
      | lst g1 g2 => rw [h1] at g1; cases g1
      | tup g1 g2 => rw [h1] at g1; cases g1; rw [all h2 g2 (by omega)]
      | dic g1 _ g2 => rw [h1] at g1; cases g1
    | @dic a ks ds h1 nd h2 =>
      have := dKv_le ks ds (by have := h2.len; rwa [List.length_map] at this)
      simp only [PyData.depth] at hn
      cases h' with
      | lst g1 g2 => rw [h1] at g1; cases g1
      | tup g1 g2 => rw [h1] at g1; cases g1
      | dic g1 _ g2 => rw [h1] at g1; cases g1; rw [all h2 g2 (by omega)]
theorem Dq.det {H : Hp} {v : V} {d d' : PyData} (h : Dq H v d) (h' : Dq H v d') : d = d' := dq_det_n _ d d' v (Nat.le_refl _) h h'
/-- a store at what is deeper changes nothing -/
theorem dq_upd_n {H : Hp} {a : Addr} {da : PyData} {o : HO} (ha : Dq H (.ref a) da) : ∀ (n : Nat) (d : PyData) (v : V), PyData.depth d ≤ n → PyData.depth d < PyData.depth da → Dq H v d → Dq (upd H a o) v d := by
  intro n
  induction n with
  | zero =>
    intro d v hn _ h
    cases h with
    | non => exact .non
    | bl b => exact .bl b
    | int i => exact .int i
    | str x => exact .str x
    | lst _ _ => exact absurd hn (by simp [PyData.depth])
    | tup _ _ => exact absurd hn (by simp [PyData.depth])
    | dic _ _ _ => exact absurd hn (by simp [PyData.depth])
  | succ n ih =>
    have all : ∀ {vs : List V} {ds : List PyData}, DqAll H vs ds → PyData.depthAll ds ≤ n → PyData.depthAll ds < PyData.depth da → DqAll (upd H a o) vs ds := by
      intro vs
      induction vs with
      | nil => intro ds h _ _; cases h; exact .nil
      | cons v vs iv =>
        intro ds h hd hl
        cases h with
        | @cons _ _ d ds b c =>
          have hd' : max (PyData.depth d) (PyData.depthAll ds) ≤ n := hd
          have hl' : max (PyData.depth d) (PyData.depthAll ds) < PyData.depth da := hl
          exact .cons (ih d v (by omega) (by omega) b) (iv c (by omega) (by omega))
    intro d v hn hl h
    have ne : ∀ b : Addr, v = .ref b → b ≠ a := fun b e z => by
      subst e
      subst z
      rw [h.det ha] at hl
      exact Nat.lt_irrefl _ hl
    cases h with
    | non => exact .non
    | bl b => exact .bl b
    | int i => exact .int i
    | str x => exact .str x
    | lst h1 h2 =>
      simp only [PyData.depth] at hn hl
      exact .lst (by rw [upd_ne (ne _ rfl)]; exact h1) (all h2 (by omega) (by omega))
    | tup h1 h2 =>
      simp only [PyData.depth] at hn hl
      exact .tup (by rw [upd_ne (ne _ rfl)]; exact h1) (all h2 (by omega) (by omega))
    | @dic b ks ds h1 nd h2 =>
      have := dKv_le ks ds (by have := h2.len; rwa [List.length_map] at this)
      simp only [PyData.depth] at hn hl
      exact .dic (by rw [upd_ne (ne _ rfl)]; exact h1) nd (all h2 (by omega) (by omega))
theorem Dq.upd {H : Hp} {a : Addr} {da d : PyData} {v : V} {o : HO} (h : Dq H v d) (ha : Dq H (.ref a) da) (hl : PyData.depth d < PyData.depth da) : Dq (upd H a o) v d := dq_upd_n ha _ d v (Nat.le_refl _) hl h
theorem mem_depth {d : PyData} : ∀ {ds : List PyData}, d ∈ ds → PyData.depth d ≤ PyData.depthAll ds
  | e :: ds, h => by
    show _ ≤ max (PyData.depth e) (PyData.depthAll ds)
    rcases List.mem_cons.mp h with rfl | h
    · omega
    · have := mem_depth h
      omega
/-! ### reading a dict's data -/
def keyB : PyData → Key → Bool
  | .int i, .inl j => decide (i = j)
  | .str x, .inr y => decide (x = y)
  | _, _ => false
theorem keyB_en (a b : Key) : keyB (enK a) b = decide (a = b) := by
  cases a with
  | inl i => cases b with
    | inl j => show decide (i = j) = decide (Sum.inl i = Sum.inl j); by_cases e : i = j <;> simp [e]
    | inr y => show false = decide (Sum.inl i = Sum.inr y); simp
  | inr x => cases b with
    | inl j => show false = decide (Sum.inr x = Sum.inl j); simp
    | inr y => show decide (x = y) = decide (Sum.inr x = Sum.inr y); by_cases e : x = y <;> simp [e]
def lkp : List (PyData × PyData) → Key → Option PyData
  | [], _ => none
  | p :: r, k => if keyB p.1 k = true then some p.2 else lkp r k
theorem lkp_at {H : Hp} {k : Key} : ∀ {ks : List (Key × V)} {ds : List PyData}, DqAll H (ks.map (·.2)) ds → (lkp (zipK ks ds) k = none ∧ valV ks k = none) ∨ ∃ d v, lkp (zipK ks ds) k = some d ∧ valV ks k = some v ∧ Dq H v d
  | [], ds, h => by
    cases h
    exact .inl ⟨rfl, rfl⟩
  | p :: ks, _, .cons (d := d) (ds := ds) a b => by
    have e : lkp (zipK (p :: ks) (d :: ds)) k = if keyB (enK p.1) k = true then some d else lkp (zipK ks ds) k := rfl
    rw [e, keyB_en]
    by_cases q : p.1 = k
    · rw [if_pos (decide_eq_true q), valV_pos q]
      exact .inr ⟨d, p.2, rfl, rfl, a⟩
    · rw [if_neg (by simp [q]), valV_neg q]
      exact lkp_at b
theorem dq_dict {H : Hp} {v : V} {kvs : List (PyData × PyData)} (h : Dq H v (.dict kvs)) : ∃ a ks, v = .ref a ∧ H a = some (.dK ks) ∧ (ks.map (·.1)).Nodup ∧ ks.length = kvs.length ∧
    ∀ k, (lkp kvs k = none ∧ valV ks k = none) ∨ ∃ d v, lkp kvs k = some d ∧ valV ks k = some v ∧ Dq H v d := by
  cases h with
  | @dic a ks ds h1 nd h2 =>
    refine ⟨a, ks, rfl, h1, nd, ?_, fun k => lkp_at h2⟩
    have e : ks.length = ds.length := by have := h2.len; rwa [List.length_map] at this
    have : ((zipK ks ds).map (·.2)).length = ds.length := by rw [zipK_vals e]
    rw [List.length_map] at this
    omega
theorem dq_list {H : Hp} {v : V} {ds : List PyData} (h : Dq H v (.list ds)) : ∃ a xs, v = .ref a ∧ H a = some (.lst xs) ∧ DqAll H xs ds := by
  cases h with
  | @lst a xs _ h1 h2 => exact ⟨a, xs, rfl, h1, h2⟩
theorem dq_tup {H : Hp} {v : V} {ds : List PyData} (h : Dq H v (.tuple ds)) : ∃ a xs, v = .ref a ∧ H a = some (.tup xs) ∧ DqAll H xs ds := by
  cases h with
  | @tup a xs _ h1 h2 => exact ⟨a, xs, rfl, h1, h2⟩
theorem dqAll_at {H : Hp} : ∀ {vs : List V} {ds : List PyData}, DqAll H vs ds → ∀ {i : Nat} {d : PyData}, ds[i]? = some d → ∃ v, vs[i]? = some v ∧ Dq H v d
  | _, _, .nil, i, d, h => by simp at h
  | _, _, .cons a b, 0, d, h => by
    simp at h
    subst h
    exact ⟨_, rfl, a⟩
  | _, _, .cons a b, i + 1, d, h => by
    simp at h
    obtain ⟨v, h1, h2⟩ := dqAll_at b h
    exact ⟨v, by simpa using h1, h2⟩
theorem dqAll_ap {H : Hp} : ∀ {vs ws : List V} {ds es : List PyData}, DqAll H vs ds → DqAll H ws es → DqAll H (vs ++ ws) (ds ++ es)
  | _, _, _, _, .nil, q => q
  | _, _, _, _, .cons a b, q => .cons a (dqAll_ap b q)
/-! ### small data -/
structure Small (c k : Nat) (d : PyData) : Prop where
  sh : PyData.showable d = true
  dp : PyData.depth d ≤ k
  ln : (PyData.shown d).length ≤ c
theorem Small.mono {c k c' k' : Nat} {d : PyData} (h : Small c k d) (h1 : c ≤ c') (h2 : k ≤ k') : Small c' k' d := ⟨h.sh, Nat.le_trans h.dp h2, Nat.le_trans h.ln h1⟩
theorem tupText_le (ts : List Str) : (tupleText ts).length ≤ 3 + piled ts := by
  have e1 : ((("(" : String) : Str)).length = 1 := rfl
  have e3 : (((if ts.length == 1 then ",)" else ")" : String) : Str)).length ≤ 2 := by split <;> decide
  unfold tupleText
  rw [strApp, strApp, e1]
  by_cases h : ts = []
  · subst h
    have : (Str.join ", " ([] : List Str)).length = 0 := rfl
    omega
  · have := join_length_add ts h
    omega
theorem shAll_mem : ∀ {ds : List PyData}, (∀ d ∈ ds, PyData.showable d = true) → PyData.showableAll ds = true
  | [], _ => rfl
  | d :: ds, h => by
    show (PyData.showable d && PyData.showableAll ds) = true
    rw [h d List.mem_cons_self, shAll_mem fun x hx => h x (List.mem_cons_of_mem _ hx)]
    rfl
theorem dpAll_mem {k : Nat} : ∀ {ds : List PyData}, (∀ d ∈ ds, PyData.depth d ≤ k) → PyData.depthAll ds ≤ k
  | [], _ => Nat.zero_le _
  | d :: ds, h => by
    show max (PyData.depth d) (PyData.depthAll ds) ≤ k
    have := h d List.mem_cons_self
    have := dpAll_mem fun x hx => h x (List.mem_cons_of_mem _ hx)
    omega
theorem shownAll_len : ∀ ds : List PyData, (PyData.shownAll ds).length = ds.length
  | [] => rfl
  | d :: ds => by
    show (PyData.shownAll ds).length + 1 = _
    rw [shownAll_len ds]
    rfl
theorem shownAll_mem : ∀ {ds : List PyData} {t : Str}, t ∈ PyData.shownAll ds → ∃ d ∈ ds, t = PyData.shown d
  | d :: ds, t, h => by
    rcases List.mem_cons.mp (show t ∈ PyData.shown d :: PyData.shownAll ds from h) with rfl | h
    · exact ⟨d, List.mem_cons_self, rfl⟩
    · obtain ⟨e, h1, h2⟩ := shownAll_mem h
      exact ⟨e, List.mem_cons_of_mem _ h1, h2⟩
theorem piledAll {c k : Nat} {ds : List PyData} (h : ∀ d ∈ ds, Small c k d) : piled (PyData.shownAll ds) ≤ ds.length * (c + 2) := by
  have := piled_le (c := c) (ts := PyData.shownAll ds) fun t ht => by
    obtain ⟨d, hd, rfl⟩ := shownAll_mem ht
    exact (h d hd).ln
  rwa [shownAll_len] at this
theorem small_list {c k n : Nat} {ds : List PyData} (h : ∀ d ∈ ds, Small c k d) (hl : ds.length ≤ n) : Small (2 + n * (c + 2)) (k + 1) (.list ds) := by
  refine ⟨?_, ?_, ?_⟩
  · show PyData.showableAll ds = true
    exact shAll_mem fun d hd => (h d hd).sh
  · show PyData.depthAll ds + 1 ≤ k + 1
    have := dpAll_mem fun d hd => (h d hd).dp
    omega
  · show (listText (PyData.shownAll ds)).length ≤ _
    have h1 := listText_le (PyData.shownAll ds)
    have h2 := piledAll h
    have h3 := Nat.mul_le_mul_right (c + 2) hl
    omega
theorem small_tup {c k n : Nat} {ds : List PyData} (h : ∀ d ∈ ds, Small c k d) (hl : ds.length ≤ n) : Small (3 + n * (c + 2)) (k + 1) (.tuple ds) := by
  refine ⟨?_, ?_, ?_⟩
  · show PyData.showableAll ds = true
    exact shAll_mem fun d hd => (h d hd).sh
  · show PyData.depthAll ds + 1 ≤ k + 1
    have := dpAll_mem fun d hd => (h d hd).dp
    omega
  · show (tupleText (PyData.shownAll ds)).length ≤ _
    have h1 := tupText_le (PyData.shownAll ds)
    have h2 := piledAll h
    have h3 := Nat.mul_le_mul_right (c + 2) hl
    omega
theorem small_dict {c k n : Nat} {kvs : List (PyData × PyData)} (h : ∀ p ∈ kvs, Small c k p.1 ∧ Small c k p.2) (hl : kvs.length ≤ n) : Small (2 + n * (2 * c + 4)) (k + 1) (.dict kvs) := by
  have sh : ∀ L : List (PyData × PyData), (∀ p ∈ L, Small c k p.1 ∧ Small c k p.2) → PyData.showableKv L = true ∧ PyData.depthKv L ≤ k ∧ piled (PyData.shownKv L) ≤ L.length * (2 * c + 4) := by
    intro L
    induction L with
    | nil => exact fun _ => ⟨rfl, Nat.zero_le _, by simp [PyData.shownKv, piled]⟩
    | cons p L ih =>
      intro hp
      obtain ⟨i1, i2, i3⟩ := ih fun x hx => hp x (List.mem_cons_of_mem _ hx)
      obtain ⟨a, b⟩ := hp p List.mem_cons_self
      refine ⟨?_, ?_, ?_⟩
      · show (PyData.showable p.1 && PyData.showable p.2 && PyData.showableKv L) = true
        rw [a.sh, b.sh, i1]
        rfl
      · show max (max (PyData.depth p.1) (PyData.depth p.2)) (PyData.depthKv L) ≤ k
        have := a.dp
        have := b.dp
        omega
      · have e : PyData.shownKv (p :: L) = (PyData.shown p.1 ++ (": " : Str) ++ PyData.shown p.2) :: PyData.shownKv L := rfl
        have e2 : piled (PyData.shownKv (p :: L)) = (PyData.shown p.1 ++ (": " : Str) ++ PyData.shown p.2).length + 2 + piled (PyData.shownKv L) := by rw [e]; simp [piled]
        have e3 : ((": " : String) : Str).length = 2 := rfl
        have := a.ln
        have := b.ln
        have e4 : (p :: L).length * (2 * c + 4) = L.length * (2 * c + 4) + (2 * c + 4) := by rw [List.length_cons, Nat.succ_mul]
        rw [e2, strApp, strApp]
        omega
  obtain ⟨i1, i2, i3⟩ := sh kvs h
  refine ⟨i1, ?_, ?_⟩
  · show PyData.depthKv kvs + 1 ≤ k + 1
    omega
  · show (dictText (PyData.shownKv kvs)).length ≤ _
    have h1 := dictText_le (PyData.shownKv kvs)
    have h3 := Nat.mul_le_mul_right (2 * c + 4) hl
    omega
end VL

set_option Elab.async false
set_option linter.all false
set_option maxRecDepth 100000
namespace VL
open PySem PySem.Spec PyProof.Rows L2
/-! ### != of lists of any texts; repr of a truth value or None -/
section
variable {X : Cx}
def rNeP (K : PySem.W.Frag) : R2 := fun x y H Q => ∃ d e, Dp K H x d ∧ Dp K H y e ∧ d.plain = true ∧ e.plain = true ∧ PyData.depth d ≤ 60 ∧ Q (.bl (!PyData.eqv d e)) H
theorem op_neP (hu : X.A.units + 64 < cLine) : OpR X (compareOp .NotEq) (rNeP X.K) := by
  intro pins s σ H x y v u Q I rx ry h
  obtain ⟨d, e, hd, he, sd, se, dp, q⟩ := h
  obtain ⟨as, r1⟩ := Dp.reads I d x v hd rx
  obtain ⟨bs, r2⟩ := Dp.reads I e y u he ry
  exact SeqAt.ne_plain r1 r2 sd se (by have := Nat.min_le_left d.depth e.depth; omega) ⟨.bl _, H, I, rfl, q⟩
def rEqP (K : PySem.W.Frag) : R2 := fun x y H Q => ∃ d e, Dp K H x d ∧ Dp K H y e ∧ d.plain = true ∧ e.plain = true ∧ PyData.depth d ≤ 60 ∧ Q (.bl (PyData.eqv d e)) H
theorem op_eqP {K : PySem.W.Frag} (hK : X.K = K) (hu : X.A.units + 64 < cLine) : OpR X (compareOp .Eq) (rEqP K) := by
  subst hK
  intro pins s σ H x y v u Q I rx ry h
  obtain ⟨d, e, hd, he, sd, se, dp, q⟩ := h
  obtain ⟨as, r1⟩ := Dp.reads I d x v hd rx
  obtain ⟨bs, r2⟩ := Dp.reads I e y u he ry
  exact SeqAt.eq_plain r1 r2 sd se (by have := Nat.min_le_left d.depth e.depth; omega) ⟨.bl _, H, I, rfl, q⟩
def rRepB : List V → Hp → VK → Prop := fun xs H Q => ∃ x : Str, (xs = [.non] ∧ x = "None" ∨ ∃ b : Bool, xs = [.bl b] ∧ x = if b then "True" else "False") ∧ Q (.str x) H
theorem call_repB : CallR X (.builtin "repr") rRepB := by
  intro pins s σ H xs us Q I r h
  obtain ⟨x, h, q⟩ := h
  have fin : ∀ (t : Tok) (tk : Nat), EP X pins σ Q (.str x t) { s with toks := tk } := fun t tk => ⟨.str _, H, I.kept (h' := s.heap) (fun _ _ e => e), ⟨t, rfl⟩, q⟩
  rcases h with ⟨rfl, rfl⟩ | ⟨b, rfl, rfl⟩
  · obtain ⟨u, rfl, ru⟩ := vals1 r
    cases (show u = Value.none from ru)
    exact P.repr_of_none (fin _ _)
  · obtain ⟨u, rfl, ru⟩ := vals1 r
    cases (show u = Value.bool b from ru)
    refine P.repr_of_bool ?_
    cases b
    · exact fin _ _
    · exact fin _ _
theorem dpAll_strT {K : PySem.W.Frag} {H : Hp} : ∀ ns : List Str, DpAll K H (ns.map V.str) (ns.map PyData.str)
  | [] => .nil
  | a :: ns => .cons (.str a) (dpAll_strT ns)
theorem plain_strs (ns : List Str) : PyData.plain (.list (ns.map PyData.str)) = true := by
  show PyData.plainAll _ = true
  induction ns with
  | nil => rfl
  | cons a ns ih =>
    show (PyData.plain (.str a) && PyData.plainAll (ns.map PyData.str)) = true
    rw [ih]
    rfl
theorem depth_strs (ns : List Str) : PyData.depth (.list (ns.map PyData.str)) = 1 := by
  have : ∀ ns : List Str, PyData.depthAll (ns.map PyData.str) = 0 := by
    intro ns
    induction ns with
    | nil => rfl
    | cons a ns ih => simp [PyData.depthAll, PyData.depth, ih]
  simp [PyData.depth, this]
end
end VL

set_option Elab.async false
set_option linter.all false
set_option maxRecDepth 100000
set_option maxHeartbeats 4000000
namespace VL
open PySem PySem.Spec PyProof.Rows L2
/-! ### data without dicts, as the rules of == and != see it -/
theorem upd_id {H : Hp} {a : Addr} {o : HO} (h : H a = some o) : upd H a o = H := by
  funext b
  by_cases e : b = a
  · subst e; rw [upd_same, h]
  · rw [upd_ne e]
theorem dq_dp_n {K : PySem.W.Frag} {H : Hp} : ∀ (n : Nat) (d : PyData) (v : V), PyData.depth d ≤ n → d.plain = true → Dq H v d → Dp K H v d := by
  intro n
  induction n with
  | zero =>
    intro d v hn hp h
    cases h with
    | non => exact .non
    | bl b => exact .bl b
    | int i => exact .int i
    | str x => exact .str x
    | lst _ _ => exact absurd hn (by simp [PyData.depth])
    | tup _ _ => exact absurd hn (by simp [PyData.depth])
    | dic _ _ _ => exact absurd hn (by simp [PyData.depth])
  | succ n ih =>
    have all : ∀ {vs : List V} {ds : List PyData}, DqAll H vs ds → PyData.depthAll ds ≤ n → PyData.plainAll ds = true → DpAll K H vs ds := by
      intro vs
      induction vs with
      | nil => intro ds h _ _; cases h; exact .nil
      | cons v vs iv =>
        intro ds h hd hp
        cases h with
        | @cons _ _ d ds a b =>
          have hd' : max (PyData.depth d) (PyData.depthAll ds) ≤ n := hd
          have hp' : d.plain = true ∧ PyData.plainAll ds = true := by simpa [PyData.plainAll] using hp
          exact .cons (ih d v (by omega) hp'.1 a) (iv b (by omega) hp'.2)
    intro d v hn hp h
    cases h with
    | non => exact .non
    | bl b => exact .bl b
    | int i => exact .int i
    | str x => exact .str x
    | lst h1 h2 => exact .lst (SqL.of h1) (all h2 (by simp only [PyData.depth] at hn; omega) (by simpa [PyData.plain] using hp))
    | tup h1 h2 => exact .tup (SqT.of h1) (all h2 (by simp only [PyData.depth] at hn; omega) (by simpa [PyData.plain] using hp))
    | dic _ _ _ => exact nomatch hp
theorem Dq.dp {K : PySem.W.Frag} {H : Hp} {v : V} {d : PyData} (h : Dq H v d) (hp : d.plain = true) : Dp K H v d := dq_dp_n _ d v (Nat.le_refl _) hp h
end VL

set_option Elab.async false
set_option linter.all false
set_option maxRecDepth 100000
set_option maxHeartbeats 4000000
namespace VL
open PySem PySem.Spec PyProof.Rows L2
/-! ### copies of values: what may be copied, what is new -/
mutual
def cpy : PyData → Bool
  | .list ds => decide (ds.length ≤ 1000) && cpyAll ds
  | .dict kvs => decide (kvs.length ≤ 1000) && cpyKv kvs
  | .tuple _ => false
  | .none | .bool _ | .int _ | .str _ => true
def cpyAll : List PyData → Bool
  | [] => true
  | d :: ds => cpy d && cpyAll ds
def cpyKv : List (PyData × PyData) → Bool
  | [] => true
  | (_, d) :: r => cpy d && cpyKv r
end
theorem cpyAll_mem : ∀ {ds : List PyData}, cpyAll ds = true → ∀ d ∈ ds, cpy d = true
  | e :: ds, h, d, hd => by
    have h' : cpy e = true ∧ cpyAll ds = true := by simpa [cpyAll] using h
    rcases List.mem_cons.mp hd with rfl | hd
    · exact h'.1
    · exact cpyAll_mem h'.2 d hd
theorem cpyKv_zip : ∀ {ks : List (Key × V)} {ds : List PyData}, ks.length = ds.length → cpyKv (zipK ks ds) = true → cpyAll ds = true
  | [], [], _, _ => rfl
  | p :: ks, d :: ds, hl, h => by
    have h' : cpy d = true ∧ cpyKv (zipK ks ds) = true := by
      have e : cpyKv (zipK (p :: ks) (d :: ds)) = (cpy d && cpyKv (zipK ks ds)) := rfl
      rw [e] at h
      simpa using h
    show (cpy d && cpyAll ds) = true
    rw [h'.1, cpyKv_zip (Nat.succ.inj hl) h'.2]
    rfl
/-- what has come since H -/
def newer (H H' : Hp) : Hp := fun b => match H b with
  | none => H' b
  | some _ => none
theorem newer_some {H H' : Hp} {b : Addr} {o : HO} (h : newer H H' b = some o) : H b = none ∧ H' b = some o := by
  unfold newer at h
  cases e : H b with
  | none => rw [e] at h; exact ⟨rfl, h⟩
  | some u => rw [e] at h; exact nomatch h
theorem newer_mk {H H' : Hp} {b : Addr} {o : HO} (h1 : H b = none) (h2 : H' b = some o) : newer H H' b = some o := by
  unfold newer
  rw [h1]
  exact h2
theorem newer_same (H H' : Hp) : Same (newer H H') H' := fun b o h => (newer_some h).2
def spCopy (n : Nat) : Sp := fun vs H Q _ => ∃ (v : V) (d : PyData), vs = [v] ∧ Dq H v d ∧ cpy d = true ∧ PyData.depth d ≤ n ∧ ∀ v' H', Same H H' → Dq (newer H H') v' d → Q v' H'
end VL

set_option Elab.async false
set_option linter.all false
set_option maxRecDepth 100000
set_option maxHeartbeats 4000000
namespace VL
open PySem PySem.Spec PyProof.Rows L2
/-! ### a part of a heap, and a few objects beside it that change -/
structure Sb (G H : Hp) (M : List (Addr × HO)) : Prop where
  s : Same G H
  m : ∀ p ∈ M, G p.1 = none ∧ H p.1 = some p.2
  nd : (M.map (·.1)).Nodup
def joinH (G N : Hp) : Hp := fun b => match G b with
  | some o => some o
  | none => N b
theorem joinH_l {G N : Hp} : Same G (joinH G N) := fun b o e => by
  unfold joinH
  rw [e]
theorem joinH_r {G H H' : Hp} (s : Same G H) : Same (newer H H') (joinH G (newer H H')) := fun b o e => by
  obtain ⟨z, _⟩ := newer_some e
  unfold joinH
  cases g : G b with
  | none => exact e
  | some u => rw [s _ _ g] at z; exact nomatch z
theorem Sb.alloc {G H : Hp} {M : List (Addr × HO)} {t : Addr} {o : HO} (S : Sb G H M) (h : H t = none) : Sb (upd G t o) (upd H t o) M := by
  refine ⟨fun b u e => ?_, fun p hp => ?_, S.nd⟩
  · by_cases z : b = t
    · subst z
      rw [upd_same] at e ⊢
      exact e
    · rw [upd_ne z] at e ⊢
      exact S.s _ _ e
  · obtain ⟨h1, h2⟩ := S.m p hp
    have n : p.1 ≠ t := ne_of_none h2 h
    rw [upd_ne n, upd_ne n]
    exact ⟨h1, h2⟩
theorem Sb.gnone {G H : Hp} {M : List (Addr × HO)} {t : Addr} (S : Sb G H M) (h : H t = none) : G t = none := Same.free S.s h
theorem Sb.grow {G H : Hp} {M : List (Addr × HO)} {t : Addr} {o : HO} (S : Sb G H M) (h : H t = none) : Same G (upd G t o) := fun b u e => by rw [upd_ne (ne_of_none e (S.gnone h))]; exact e
theorem Sb.call {G H H' : Hp} {M : List (Addr × HO)} (S : Sb G H M) (s : Same H H') : Sb (joinH G (newer H H')) H' M := by
  refine ⟨fun b u e => ?_, fun p hp => ?_, S.nd⟩
  · unfold joinH at e
    cases g : G b with
    | some o => rw [g] at e; rw [← e]; exact s _ _ (S.s _ _ g)
    | none => rw [g] at e; exact (newer_some e).2
  · obtain ⟨h1, h2⟩ := S.m p hp
    refine ⟨?_, s _ _ h2⟩
    unfold joinH
    rw [h1]
    show newer H H' p.1 = none
    unfold newer
    rw [h2]
theorem Sb.add {G H : Hp} {M : List (Addr × HO)} {t : Addr} {o : HO} (S : Sb G H M) (h : H t = none) : Sb G (upd H t o) ((t, o) :: M) := by
  refine ⟨fun b u e => by rw [upd_ne (ne_of_none (S.s _ _ e) h)]; exact S.s _ _ e, fun p hp => ?_, ?_⟩
  · rcases List.mem_cons.mp hp with rfl | hp
    · exact ⟨S.gnone h, upd_same⟩
    · obtain ⟨h1, h2⟩ := S.m p hp
      exact ⟨h1, by rw [upd_ne (ne_of_none h2 h)]; exact h2⟩
  · rw [List.map_cons, List.nodup_cons]
    refine ⟨fun hm => ?_, S.nd⟩
    obtain ⟨p, hp, e⟩ := List.mem_map.mp hm
    have := (S.m p hp).2
    rw [e] at this
    rw [show H (t, o).1 = none from h] at this
    exact nomatch this
theorem Sb.put {G H : Hp} {M : List (Addr × HO)} {t : Addr} {o : HO} {u : HO} (S : Sb G H ((t, o) :: M)) : Sb G (upd H t u) ((t, u) :: M) := by
  have nd := S.nd
  rw [List.map_cons, List.nodup_cons] at nd
  have gt := (S.m (t, o) List.mem_cons_self).1
  refine ⟨fun b v e => by rw [upd_ne (ne_of_none e gt)]; exact S.s _ _ e, fun p hp => ?_, ?_⟩
  · rcases List.mem_cons.mp hp with rfl | hp
    · exact ⟨gt, upd_same⟩
    · obtain ⟨h1, h2⟩ := S.m p (List.mem_cons_of_mem _ hp)
      have n : p.1 ≠ t := fun z => nd.1 (List.mem_map.mpr ⟨p, hp, z⟩)
      exact ⟨h1, by rw [upd_ne n]; exact h2⟩
  · rw [List.map_cons, List.nodup_cons]
    exact nd
theorem Sb.swap {G H : Hp} {M : List (Addr × HO)} {p q : Addr × HO} (S : Sb G H (p :: q :: M)) : Sb G H (q :: p :: M) := by
  have nd := S.nd
  refine ⟨S.s, fun r hr => S.m r ?_, ?_⟩
  · rcases List.mem_cons.mp hr with rfl | hr
    · exact List.mem_cons_of_mem _ List.mem_cons_self
    · rcases List.mem_cons.mp hr with rfl | hr
      · exact List.mem_cons_self
      · exact List.mem_cons_of_mem _ (List.mem_cons_of_mem _ hr)
  · simp only [List.map_cons, List.nodup_cons, List.mem_cons] at nd ⊢
    refine ⟨fun z => ?_, fun z => nd.1 (.inr z), nd.2.2⟩
    rcases z with z | z
    · exact nd.1 (.inl z.symm)
    · exact nd.2.1 z
theorem Sb.drop {G H : Hp} {M : List (Addr × HO)} {t : Addr} {o : HO} (S : Sb G H ((t, o) :: M)) : Sb (upd G t o) H M ∧ Same G (upd G t o) := by
  have nd := S.nd
  rw [List.map_cons, List.nodup_cons] at nd
  obtain ⟨gt, ht⟩ := S.m (t, o) List.mem_cons_self
  refine ⟨⟨fun b u e => ?_, fun p hp => ?_, nd.2⟩, fun b u e => by rw [upd_ne (ne_of_none e gt)]; exact e⟩
  · by_cases z : b = t
    · subst z
      rw [upd_same] at e
      rw [← e]
      exact ht
    · rw [upd_ne z] at e
      exact S.s _ _ e
  · obtain ⟨h1, h2⟩ := S.m p (List.mem_cons_of_mem _ hp)
    have n : p.1 ≠ t := fun z => nd.1 (List.mem_map.mpr ⟨p, hp, z⟩)
    exact ⟨by rw [upd_ne n]; exact h1, h2⟩
theorem Sb.hd {G H : Hp} {M : List (Addr × HO)} {p : Addr × HO} (S : Sb G H (p :: M)) : H p.1 = some p.2 := (S.m p List.mem_cons_self).2
theorem Sb.hd2 {G H : Hp} {M : List (Addr × HO)} {p q : Addr × HO} (S : Sb G H (q :: p :: M)) : H p.1 = some p.2 := (S.m p (List.mem_cons_of_mem _ List.mem_cons_self)).2
theorem Sb.nil {H : Hp} : Sb H H [] := ⟨Same.refl _, (fun _ h => nomatch h), List.nodup_nil⟩
end VL

set_option Elab.async false
set_option linter.all false
set_option maxRecDepth 100000
set_option maxHeartbeats 4000000
namespace VL
open PySem PySem.Spec PyProof.Rows L2
theorem Sb.put2 {G H : Hp} {M : List (Addr × HO)} {p : Addr × HO} {t : Addr} {o u : HO} (S : Sb G H (p :: (t, o) :: M)) : Sb G (upd H t u) (p :: (t, u) :: M) := S.swap.put.swap
theorem Sb.more {G H H' : Hp} {M : List (Addr × HO)} (S : Sb G H M) (s : Same H H') : ∃ G', Sb G' H' M ∧ Same G G' := ⟨_, S.call s, joinH_l⟩
theorem flat_one {α : Type} (l : List α) : (l.map fun c => [c]).flatten = l := by
  induction l with
  | nil => rfl
  | cons c cs ih => simp [ih]
theorem valV_in2 {k : Key} : ∀ {ks : List (Key × V)}, k ∈ ks.map (·.1) → (valV ks k).isSome = true
  | p :: ks, h => by
    by_cases e : p.1 = k
    · rw [valV_pos e]
      rfl
    · rw [valV_neg e]
      refine valV_in2 ?_
      rcases List.mem_cons.mp (show k ∈ p.1 :: ks.map (·.1) from h) with z | z
      · exact absurd z.symm e
      · exact z
end VL

set_option Elab.async false
set_option linter.all false
set_option maxRecDepth 100000
set_option maxHeartbeats 4000000
namespace VL
open PySem PySem.Spec PyProof.Rows L2

/-! ### what the text has: methods with keyword-only parameters, properties, written tuples, own exceptions without a text of their own -/
def WrT (K : PySem.W.Frag) (a : Addr) (xs : List V) : Prop := ∃ (o : Obj) (its : Array Value) (n : Nat), K.lookup a = some o ∧ o.cls = .type "tuple" ∧ o.data = .seq its n ∧ its.size ≤ sizeLine ∧ Vals xs its.toList ∧ o.dict = none
abbrev catG {α : Type} (us ws : List α) : List α := us ++ ws
def MethKE (K : PySem.W.Frag) (C : Addr) (x qual : Str) (st : Stmt) (ps : List Str) (n : Nat) (ks : List Str) : Prop :=
  ∃ (f : Addr) (fd : FuncData), Fun K x qual st f fd ∧ Meth K C x f ∧ KBn K fd ps n ks catG catG
def PropE (K : PySem.W.Frag) (C : Addr) (x qual : Str) (st : Stmt) : Prop := ∃ (p g : Addr) (fd : FuncData), PropOf K C x p g ∧ Fun K x qual st g fd ∧ Binds K fd ["self"] []
structure ExT (K : PySem.W.Frag) (mg : Str → Option Value) (x : Str) (D : Addr) : Prop where
  g : mg x = some (.ref D)
  xx : PySem.W.excIn K D [.type "ValueError", .type "Exception", .type "BaseException", .type "object"] "ValueError.__new__" = true
  kp : PySem.W.keepIn K (.ref D) = true
  bP : PySem.W.subIn K (.ref D) (.type "BaseException") = some true
  tP : PySem.W.typeIn K (.ref D) = some (.type "type")
  em : PySem.W.exmOne K (.ref D) (.ref D) = some true
  ec : ExcC K D
theorem fun_kbn {K : PySem.W.Frag} {x qual : Str} {st : Stmt} {f : Addr} {fd : FuncData} {ps : List Str} (F : Fun K x qual st f fd) (n : Nat) (ks : List Str)
    (h : ∀ (kV doc pm : Value) (an : Option Addr) (cdv ct : Value) (us ws : List Value), us.length = n → ws.length = ks.length → bindArgs (PySem.W.fnOf x qual (defArgs st) (defBody st) (defScope st) .none kV doc pm an cdv ct) ⟨us, ks.zip ws⟩ = pure (ps.zip (us ++ ws))) :
    KBn K fd ps n ks catG catG := by
  obtain ⟨oc, od, kV, doc, pm, an, cdv, ct, osl, rfl, lk, hcd⟩ := F.ex
  exact ⟨fun s us ws X l1 l2 => .of_eq (h kV doc pm an cdv ct us ws l1 l2), fun r1 r2 => r1.append r2⟩
/-! ### as callers see them -/
structure MetK (P : Program) (w : World) (K : PySem.W.Frag) (mg : Str → Option Value) (base : Heap) (k : Nat) (C : Addr) (m : Str) (sp : Sp) (n : Nat) (ks : List Str) (gV : List V → List V → List V) : Prop where
  ex : ∃ (f : Addr) (fd : FuncData) (ps : List Str) (g : List Value → List Value → List Value), Cls K C ∧ Meth K C m f ∧ FnOk P w K mg base CX0 k f fd ps sp ∧ KBn K fd ps n ks g gV
structure Pro (P : Program) (w : World) (K : PySem.W.Frag) (mg : Str → Option Value) (base : Heap) (k : Nat) (C : Addr) (x : Str) (sp : Sp) : Prop where
  ex : ∃ (p g : Addr) (fd : FuncData), Cls K C ∧ PropOf K C x p g ∧ FnOk P w K mg base CX0 k g fd ["self"] sp ∧ Binds K fd ["self"] []
/-- o.m(.., k = v, ..): n is one more than the values written -/
def tMethK (C : Addr) (m : Str) (sp : Sp) (n kn : Nat) (gV : List V → List V → List V) (ta : TE) (t tk : TA) : TE := fun σ H Q => ta σ H fun x H1 => ∃ a dx fs, x = .ref a ∧ H1 a = some (.ins C dx fs) ∧ fs.lookup m = none ∧ t σ H1 fun vs H2 => tk σ H2 fun zs H3 => vs.length + 1 = n ∧ zs.length = kn ∧ sp (gV (.ref a :: vs) zs) H3 Q E0
section
variable {X : Cx} {k j n : Nat} {C : Addr} {m x : Str} {ks : List Str} {sp : Sp} {pos apos : Pos} {e o : Expr} {es : List Expr} {kws : List Keyword} {ta : TE} {t tk : TA} {gV : List V → List V → List V}
theorem pe_mtK {pl : Sem Bool} (c : MetK X.prog X.w X.K X.mg X.base k C m sp n ks gV) (hr : Room j X.A) (hk : k ≤ j) (he : PE X o ta) (ha : PA X (e :: es) t) (hkw : PK X kws tk)
    (hall : (backToKw pos (keywordEach kws X.env)).all (·.1.isSome) = true := by rfl) (hks : (backToKw pos (keywordEach kws X.env)).filterMap (·.1) = ks := by rfl)
    (hst : starEach (e :: es) X.env = (false, eval e X.env) :: starEach es X.env := by rfl)
    (hpl : ((backTo pos (starEach (e :: es) X.env)).any (·.1) || (backToKw pos (keywordEach kws X.env)).any (·.1.isNone)) = false := by rfl)
    (ht : eval (.Call (.Attribute o m apos) (e :: es) kws pos) X.env = (do
      let ov ← eval o X.env
      standAt apos.atName
      let (f, first) ← holding [ov] (getMethod ov m pl)
      callWith pos f first (backTo pos (starEach (e :: es) X.env)) (backToKw pos (keywordEach kws X.env))) := by rfl) :
    PE X (.Call (.Attribute o m apos) (e :: es) kws pos) (tMethK C m sp n ks.length gV ta t tk) := by
  obtain ⟨f, fd, ps, g, hc, hm, F, b⟩ := c.ex
  refine ⟨fun pins s σ H Q I h => ?_⟩
  refine PySem.W.methodCall_KW (pl := pl) (thn (he.run pins s σ H _ I h) fun u s1 ⟨x, H1, I1, rx, a, dx, fs, ex, ea, l, q⟩ => ?_) ht
  subst ex
  obtain rfl : u = Value.ref a := rx
  refine getmeth_ok I1 ea hc hm l ?_
  refine PySem.W.callWith_KW (first := [.ref a]) (h₀ := X.base) I.ok.mod.kin hm.kp hall (thn (ha.run pos pins s1 σ H1 _ I1 q) fun us s2 ⟨vs, H2, I2, r, q2⟩ => ?_) hpl hst
  refine thn (hkw.run pos pins s2 σ H2 _ I2 q2) fun ws s3 ⟨zs, H3, I3, rz, l1, l2, q3⟩ => ⟨I3.kIn, ?_⟩
  rw [hks]
  exact run_fnN (us := .ref a :: us) (vs := .ref a :: vs) F (hr.mono hk) b pass0 I3 (.cons rfl r) rz l1 l2 q3
theorem pe_mtK0 {pl : Sem Bool} (c : MetK X.prog X.w X.K X.mg X.base k C m sp n ks gV) (hr : Room j X.A) (hk : k ≤ j) (he : PE X o ta) (hkw : PK X kws tk)
    (hall : (backToKw pos (keywordEach kws X.env)).all (·.1.isSome) = true := by rfl) (hks : (backToKw pos (keywordEach kws X.env)).filterMap (·.1) = ks := by rfl)
    (hpl : ((backTo pos (starEach [] X.env)).any (·.1) || (backToKw pos (keywordEach kws X.env)).any (·.1.isNone)) = false := by rfl)
    (ht : eval (.Call (.Attribute o m apos) [] kws pos) X.env = (do
      let ov ← eval o X.env
      standAt apos.atName
      let (f, first) ← holding [ov] (getMethod ov m pl)
      callWith pos f first (backTo pos (starEach [] X.env)) (backToKw pos (keywordEach kws X.env))) := by rfl) :
    PE X (.Call (.Attribute o m apos) [] kws pos) (tMethK C m sp n ks.length gV ta tNil tk) := by
  obtain ⟨f, fd, ps, g, hc, hm, F, b⟩ := c.ex
  refine ⟨fun pins s σ H Q I h => ?_⟩
  refine PySem.W.methodCall_KW (pl := pl) (thn (he.run pins s σ H _ I h) fun u s1 ⟨x, H1, I1, rx, a, dx, fs, ex, ea, l, q⟩ => ?_) ht
  subst ex
  obtain rfl : u = Value.ref a := rx
  refine getmeth_ok I1 ea hc hm l ?_
  refine PySem.W.callWith_KW0 (first := [.ref a]) (h₀ := X.base) I.ok.mod.kin hm.kp hall ?_ hpl
  refine thn (hkw.run pos pins s1 σ H1 _ I1 q) fun ws s3 ⟨zs, H3, I3, rz, l1, l2, q3⟩ => ⟨I3.kIn, ?_⟩
  rw [hks]
  exact run_fnN (us := [.ref a]) (vs := [.ref a]) F (hr.mono hk) b pass0 I3 (.cons rfl .nil) rz l1 l2 q3
theorem pe_pr (c : Pro X.prog X.w X.K X.mg X.base k C x sp) (hr : Room j X.A) (hk : k + 1 ≤ j) (he : PE X e ta) (hab : attributeBase e x X.env (eval e X.env) = eval e X.env := by rfl) : PE X (.Attribute e x pos) (tProp C sp [] E0 ta) := by
  obtain ⟨p, g, fd, hc, hp, F, b⟩ := c.ex
  exact pe_prop he hc hp F (hr.mono hk) b .nil pass0 hab
end
section
variable {P : Program} {w : World} {K : PySem.W.Frag} {mg : Str → Option Value} {base : Heap}
theorem metK_of {C : Addr} {x qual : Str} {st : Stmt} {ps ks N : List Str} {k n : Nat} {sp : Sp} (D : MethKE K C x qual st ps n ks) (c : Cls K C) (S : FnScope N ps (defScope st)) (len : ∀ vs H Q E, sp vs H Q E → vs.length = ps.length)
    (hbody : ∀ (f : Addr) (cdv : Value) (A : Around) (outer : List Env) (s : Shared) (H : Hp) (vs : List V) (Q : VK) (E : XK), Room k (A.deeper (envOfC qual (defScope st) s.heap.objs.size f cdv)) → sp vs H Q E →
      ∃ t, PSs (cxOf CX0 P w K mg base N qual (defScope st) f cdv A outer s H E).nox (defBody st) t ∧ t { nx := fun _ H' => Q .non H', rt := Q } (start N vs) H) : MetK P w K mg base (k + 1) C x sp n ks catG := by
  obtain ⟨f, fd, F, hm, b⟩ := D
  exact ⟨f, fd, ps, _, c, hm, F.ok S len (hbody f), b⟩
theorem pro_of {C : Addr} {x qual : Str} {st : Stmt} {N : List Str} {k : Nat} {sp : Sp} (D : PropE K C x qual st) (c : Cls K C) (S : FnScope N ["self"] (defScope st)) (len : ∀ vs H Q E, sp vs H Q E → vs.length = 1)
    (hbody : ∀ (f : Addr) (cdv : Value) (A : Around) (outer : List Env) (s : Shared) (H : Hp) (vs : List V) (Q : VK) (E : XK), Room k (A.deeper (envOfC qual (defScope st) s.heap.objs.size f cdv)) → sp vs H Q E →
      ∃ t, PSs (cxOf CX0 P w K mg base N qual (defScope st) f cdv A outer s H E).nox (defBody st) t ∧ t { nx := fun _ H' => Q .non H', rt := Q } (start N vs) H) : Pro P w K mg base (k + 1) C x sp := by
  obtain ⟨p, g, fd, hp, F, b⟩ := D
  exact ⟨p, g, fd, c, hp, F.ok S len (hbody g), b⟩
end
end VL

set_option Elab.async false
set_option linter.all false
set_option maxRecDepth 100000
set_option maxHeartbeats 4000000
namespace VL
open PySem PySem.Spec PyProof.Rows L2
/-! ### rules whose readings speak of K, with K told: within comprehensions and except suites -/
theorem u65 {A : Around} {k : Nat} (r : Room k A) : A.units + 65 < cLine := by have := r.un; omega
section
variable {X : Cx} {K : PySem.W.Frag} {e o : Expr} {f : Str} {pos : Pos} {ta : TE}
theorem pe_fldS (hK : X.K = K) (he : PE X e ta) (hb : attributeBase e f X.env (eval e X.env) = eval e X.env) : PE X (.Attribute e f pos) (tFld K ta f) := by subst hK; exact pe_fld he hb
theorem pe_conS (hK : X.K = K) (he : PE X e ta) (hb : attributeBase e f X.env (eval e X.env) = eval e X.env) : PE X (.Attribute e f pos) (tCon K ta f) := by subst hK; exact pe_con he hb
theorem pe_cvalS (hK : X.K = K) (he : PE X e ta) (hb : attributeBase e f X.env (eval e X.env) = eval e X.env := by rfl) : PE X (.Attribute e f pos) (ClX.tCVal K ta f) := by subst hK; exact ClX.pe_cval he hb
theorem ix_listS (hK : X.K = K) : IxR X (rIxL K) := by subst hK; exact ix_list
theorem ix_tupS (hK : X.K = K) : IxR X (rIxT K) := by subst hK; exact ix_tup
theorem sl_listS (hK : X.K = K) : SlR X (rSlL K) := by subst hK; exact sl_list
theorem sl_tupS (hK : X.K = K) : SlR X (rSlT K) := by subst hK; exact sl_tup
theorem op_in_seqS (hK : X.K = K) : OpR X (compareOp .In) (rIn K false) := by subst hK; exact op_in_seq
theorem op_notIn_seqS (hK : X.K = K) : OpR X (compareOp .NotIn) (rIn K true) := by subst hK; exact op_notIn_seq
theorem call_len_seqS (hK : X.K = K) : CallR X (.builtin "len") (fun xs H Q => ∃ p ys, xs = [.ref p] ∧ (SqL K H p ys ∨ SqT K H p ys) ∧ Q (.int ys.length) H) := by subst hK; exact call_len_seq
theorem call_list_ofS (hK : X.K = K) : CallR X (.type "list") (fun xs H Q => ∃ p ys, xs = [.ref p] ∧ (SqL K H p ys ∨ SqT K H p ys) ∧ ∀ l, H l = none → Q (.ref l) (upd H l (.lst ys))) := by subst hK; exact call_list_of
theorem call_isiS (hK : X.K = K) : CallR X (.builtin "isinstance") (rIsi K) := by subst hK; exact call_isi
theorem op_eqDS (hK : X.K = K) (hu : X.A.units + 64 < cLine) : OpR X (compareOp .Eq) (rEqD K) := by subst hK; exact op_eqD hu
theorem op_neDS (hK : X.K = K) (hu : X.A.units + 64 < cLine) : OpR X (compareOp .NotEq) (rNeD K) := by subst hK; exact op_neD hu
theorem cr_maxS (hK : X.K = K) (hc : X.calm = true) : CallR X (.builtin "max") (rMax K) := by subst hK; exact cr_max hc
theorem cr_minS (hK : X.K = K) (hc : X.calm = true) : CallR X (.builtin "min") (rMin K) := by subst hK; exact cr_min hc
theorem op_inDS (hK : X.K = K) (hu : X.A.units + 65 < cLine) : OpR X (compareOp .In) (rInD K) := by subst hK; exact op_inD hu
theorem pt_truthS (hK : X.K = K) (ha : PE X e ta) (he : ∀ whole, isTrue e X.env whole = (do let v ← whole; standAt e.pos; holding [v] (truthy v))) :
    PT X e (fun σ H Q => ta σ H fun x H' => ∃ k, TruV K x H' k ∧ Q k H') := by subst hK; exact pt_truth ha he
theorem pi_listS {tg : Expr} (hK : X.K = K) (hl : PE X e ta) : PI X tg e (iList K ta) := by subst hK; exact pi_list hl
theorem pi_tupS {tg : Expr} (hK : X.K = K) (hl : PE X e ta) : PI X tg e (iTup K ta) := by subst hK; exact pi_tup hl
theorem pg_tupS {es : List Expr} {k : Nat} {t : TGs} {n : Nat} (hK : X.K = K) (hc : X.calm = true) (h : PGs X es t)
    (hn : (assignEach es X.env).length = n := by rfl) (hst : (assignEach es X.env).findIdx? (·.1) = none := by rfl) : PG X (.Tuple es k pos) (gTup K n t) := by subst hK; exact pg_tup hc h hn hst
end
end VL

set_option Elab.async false
set_option linter.all false
set_option maxRecDepth 100000
set_option maxHeartbeats 4000000
namespace PySem
section
variable {prog : Program} {w : World} {K : Type} [DecidableEq K] {knd : KeyKind prog w K} {A : Around} {E : Value → Shared → Prop} {s : Shared}
theorem wpAny_dictPut_pairs {d : Addr} {kvs : List (K × Value)} {k : K} {key v : Value} {Q : Unit → Shared → Prop} (hkey : knd.is k key = true) (hm : s.heap.DictOf knd d kvs)
    (hQ : ∀ h', h'.DictOf knd d (stored kvs k v) → Heap.SameBut d s.heap h' → Q () { s with heap := h' })
    (hsz : kvs.length ≤ sizeLine := by size_fits) :
    wpAny (model prog w) A (dictPut d (knd.hash k) key v) Q E s := by
  obtain ⟨o, es, ep, ho, hc, hd, hk, hp, hn⟩ := hm
  have hes : es.size ≤ sizeLine := by have e1 := hp.length; have e2 : es.toList.length = es.size := by simp
                                      omega
  unfold dictPut
  refine wpAny_bind (wpAny_dictFind_of hkey ho hd hk ?_)
  have hidx : (es.findIdx? fun e => knd.is k e.key) = kvs.findIdx? fun kv => decide (kv.1 = k) := by
    rw [← hp.findIdx k]; obtain ⟨l⟩ := es; simp
  cases hi : es.findIdx? fun e => knd.is k e.key with
  | some i =>
    refine wpAny_updateDict ho hd (hQ _ ⟨_, _, ep, Heap.get?_update_self _ ho (Obj.isFreed_of_dict (Obj.data_mapDict hd _)),
      hc.mapDict _, Obj.data_mapDict hd _, hk.modify _ _, ?_, ?_⟩ (Heap.SameBut.update ..))
    · rw [stored, if_pos (any_of_findIdx_some (hidx ▸ hi))]
      have hl : (es.toList.findIdx? fun e => knd.is k e.key) = some i := by rw [← hi]; obtain ⟨l⟩ := es; simp
      have := hp.modify hn hl v
      obtain ⟨l⟩ := es
      simpa using this
    · rw [stored, if_pos (any_of_findIdx_some (hidx ▸ hi)), keys_map_store]; exact hn
  | none =>
    have hnot : k ∉ kvs.map (·.1) := not_mem_of_findIdx_none (hidx ▸ hi)
    have hany : ¬ (kvs.any fun kv => decide (kv.1 = k)) = true := by
      rw [List.any_eq_true]; rintro ⟨kv, hkv, he⟩
      exact hnot (List.mem_map.mpr ⟨kv, hkv, of_decide_eq_true he⟩)
    refine wpAny_updateDictKeys (hz := hes) ho hd (hQ _ ⟨_, _, ep + 1, Heap.get?_update_self _ ho (Obj.isFreed_of_dict (Obj.data_mapDictKeys hd _)),
      hc.mapDictKeys _, Obj.data_mapDictKeys hd _, hk.push hkey _, ?_, ?_⟩ (Heap.SameBut.update ..))
    · rw [stored, if_neg hany]
      have := hp.append hkey (knd.hash k) v
      obtain ⟨l⟩ := es
      simpa using this
    · rw [stored, if_neg hany, List.map_append, List.nodup_append]
      refine ⟨hn, by simp, ?_⟩
      intro a ha b hb
      simp only [List.map_cons, List.map_nil, List.mem_singleton] at hb
      subst hb
      exact fun e => hnot (e ▸ ha)

/-- {**a, ..}: the entries of a dict put into another one -/
theorem wpAny_mergeMapping {d o : Addr} {kvs more : List (K × Value)} {Q : Unit → Shared → Prop} (hnr : ∀ k a, knd.is k (.ref a) = false) (hdo : d ≠ o) (hoS : (o == sysModules) = false)
    (hd : s.heap.DictOf knd d kvs) (ho : s.heap.DictOf knd o more)
    (hQ : ∀ h', h'.DictOf knd d (merged kvs more) → h'.DictOf knd o more → Heap.SameBut d s.heap h' → Q () { s with heap := h' })
    (hsz : kvs.length + more.length ≤ sizeLine := by size_fits) :
    wpAny (model prog w) A (mergeMapping d (.ref o) false) Q E s := by
  obtain ⟨od, esd, epd, hod, hcd, hdd, hkd, hpd, hnd⟩ := id hd
  obtain ⟨oo, eso, epo, hoo, hco, hdo', hko, hpo, hno⟩ := id ho
  have hlen : more.length = eso.size := by rw [← hpo.length]; simp
  unfold mergeMapping
  refine wpAny_bind (wpAny_isInstance ho.typeIs isSubtype_dict_dict ?_)
  dsimp only
  rw [if_pos rfl]
  refine wpAny_bind (wpAny_specialOf ho.typeIs F.slot_dict_iter.lookup ?_)
  refine wpAny_bind (wpAny_pure ?_)
  have e0 : (some (Value.builtin "dict.__iter__") == some (Value.builtin "dict.__iter__")) = true := by simp
  rw [e0]
  dsimp only
  rw [if_neg (by rw [hoS]; exact Bool.false_ne_true)]
  have loop : wpAny (model prog w) A (do
      let l0 ← dictEntries o
      let epoch ← dictEpoch o
      forIn (List.range l0.size) PUnit.unit fun i (_ : PUnit) => (do
          let l' ← dictEntries o
          match l'[i]? with
            | some e => do
              holding [e.key, e.val] (if false = true then do
                      let r ← dictFind d e.key e.hash
                      if r.isSome = true then do
                          rule "dict.merge.duplicate-key"
                          let x ← newExc (Value.type "KeyError") [e.key]
                          raiseNew x
                          dictPut d e.hash e.key e.val
                        else dictPut d e.hash e.key e.val
                    else dictPut d e.hash e.key e.val)
              let ep' ← dictEpoch o
              if (ep' != epoch) = true then do
                  (unsupported "dict.changed-during-merge" : Sem PUnit)
                  pure (ForInStep.yield PUnit.unit)
                else pure (ForInStep.yield PUnit.unit)
            | _ => do
              (unsupported "dict.changed-during-merge" : Sem PUnit)
              pure (ForInStep.yield PUnit.unit) : Sem (ForInStep PUnit))
      pure ()) Q E s := by
    refine wpAny_bind (wpAny_dictEntries hoo hdo' ?_)
    refine wpAny_bind (wpAny_dictEpoch hoo hdo' ?_)
    refine wpAny_bind ?_
    refine wpAny_forIn_list _
      (fun rest _ s' => ∃ h' i, s' = { s with heap := h' } ∧ rest = List.range' i (eso.size - i) ∧ i ≤ eso.size ∧ h'.DictOf knd d (merged kvs (more.take i)) ∧ h'.get? o = some oo ∧ Heap.SameBut d s.heap h')
      _ ?_ ?_ _ _ ⟨s.heap, 0, rfl, by simp [List.range_eq_range'], Nat.zero_le _, by simpa [merged] using hd, hoo, Heap.SameBut.refl _ _⟩
    · rintro x rest b s' ⟨h', i, rfl, hr, hi, hd', hoo', hs'⟩
      have hlt : i < eso.size := by
        rcases Nat.lt_or_ge i eso.size with h | h
        · exact h
        · rw [Nat.sub_eq_zero_of_le h] at hr; simp at hr
      obtain ⟨rfl, hrest⟩ : x = i ∧ rest = List.range' (i + 1) (eso.size - (i + 1)) := by
        have e : eso.size - i = (eso.size - (i + 1)) + 1 := by omega
        rw [e, List.range'_succ] at hr
        injection hr with h1 h2
        exact ⟨h1, h2⟩
      refine wpAny_bind (wpAny_dictEntries hoo' hdo' ?_)
      rw [Array.getElem?_eq_getElem hlt]
      obtain ⟨kv, hkv⟩ : ∃ kv, more[x]? = some kv := ⟨more[x]'(by rw [hlen]; exact hlt), List.getElem?_eq_getElem _⟩
      obtain ⟨k, v⟩ := kv
      obtain ⟨hkey, hval⟩ := hpo.get? (e := eso[x]) (by simp [hlt]) hkv
      obtain ⟨k', hkey', hhash⟩ := hko eso[x] (Array.getElem_mem hlt)
      obtain rfl : k' = k := knd.inj _ _ _ hkey' hkey
      have hmx : (merged kvs (more.take x)).length ≤ sizeLine := by
        have e1 := merged_length_le kvs (more.take x)
        have e2 : (more.take x).length ≤ more.length := by rw [List.length_take]; omega
        omega
      refine wpAny_bind (wpAny_holding ?_)
      rw [if_neg (by decide), hhash, hval]
      refine wpAny_dictPut_pairs (hsz := hmx) hkey hd' fun h'' hd'' hs'' => ?_
      have hoo'' : h''.get? o = some oo := (hs''.2 o (Ne.symm hdo)).trans hoo'
      refine wpAny_bind (wpAny_dictEpoch hoo'' hdo' ?_)
      rw [if_neg (by simp)]
      exact wpAny_pure ⟨h'', x + 1, rfl, hrest, hlt, by rw [merged_take_succ kvs more x (k', v) hkv]; exact hd'', hoo'', hs'.trans hs''⟩
    · rintro b s' ⟨h', i, rfl, hr, hi, hd', hoo', hs'⟩
      have hin : i = eso.size := by
        rcases Nat.lt_or_ge i eso.size with h | h
        · have e : eso.size - i = (eso.size - (i + 1)) + 1 := by omega
          rw [e, List.range'_succ] at hr; exact nomatch hr
        · exact Nat.le_antisymm hi h
      refine wpAny_pure (hQ h' ?_ ⟨oo, eso, epo, hoo', hco, hdo', hko, hpo, hno⟩ hs')
      rw [hin, ← hlen, List.take_length] at hd'; exact hd'
  refine wpAny_bind (wpAny_dictEntries hod hdd ?_)
  split
  · refine wpAny_bind (wpAny_dictEntries hoo hdo' ?_)
    refine wpAny_bind ?_
    rw [← Array.forIn_toList]
    refine wpAny_forIn_list _ (fun rest _ s' => s' = s ∧ ∀ e ∈ rest, e ∈ eso) _ ?_ ?_ _ _ ⟨rfl, fun e he => by simpa using he⟩
    · rintro x rest b s' ⟨rfl, hr⟩
      obtain ⟨k, hk, _⟩ := hko x (hr x List.mem_cons_self)
      have hx : ∀ a, x.key ≠ .ref a := fun a e => by rw [e, hnr] at hk; exact nomatch hk
      cases hkey : x.key with
      | ref a => exact absurd hkey (hx a)
      | _ => exact wpAny_pure ⟨rfl, fun e he => hr e (List.mem_cons_of_mem _ he)⟩
    · rintro b s' ⟨rfl, _⟩
      exact loop
  · exact loop
end
end PySem
namespace VL
open PySem PySem.Spec PyProof.Rows L2
/-- {**e, k: v} -/
def tStar (te tk tv : TE) : TE := fun σ H Q => ∀ p, H p = none → te σ (upd H p (.dK [])) fun x H1 => ∃ (a : Addr) (ks : List (Key × V)), x = .ref a ∧ a ≠ p ∧ H1 a = some (.dK ks) ∧ H1 p = some (.dK []) ∧ ks.length ≤ 1000 ∧
  ∀ q, (upd H1 p (.dK (mergeK [] ks))) q = none → tk σ (upd (upd H1 p (.dK (mergeK [] ks))) q (.dK [])) fun y H2 => tv σ H2 fun z H3 => ∃ (k : Key) (ks1 : List (Key × V)), y = kV k ∧ H3 q = some (.dK []) ∧ H3 p = some (.dK ks1) ∧ ks1.length ≤ 1000 ∧
    Q (.ref p) (upd (upd H3 q (.dK [(k, z)])) p (.dK (putK ks1 k z)))
theorem mix_ref (P : Program) (w : World) : ∀ (k : Key) (a : Addr), (mixKind P w).is k (.ref a) = false := fun k a => by
  cases e : (mixKind P w).is k (.ref a) with
  | false => rfl
  | true => rcases keyIs_shape e with ⟨i, t, _, h⟩ | ⟨x, t, _, h⟩ <;> exact nomatch h
theorem pe_star {X : Cx} {pos : Pos} {e k v : Expr} {te tk tv : TE} (he : PE X e te) (hk : PE X k tk) (hv : PE X v tv) : PE X (.Dict [none, some k] [e, v] pos) (tStar te tk tv) := by
  refine ⟨fun pins s σ H Q I h => ?_⟩
  have hn := I.hok.fresh (Nat.le_refl s.heap.objs.size)
  have I1 := I.laid (a := s.heap.objs.size) (o := .dK []) (h' := s.heap.push { cls := .type "dict", data := .dict #[] }) (t' := s.toks) (fun _ _ q => Heap.get?_push_of_some _ q) (Nat.le_refl _) (dk_empty s.heap I.big)
  rw [arm_eval_Dict]
  refine wpAny_bind (wpAny_standAt ?_)
  show wpAny _ _ (dictDisplay [(none, do let x ← eval e X.env; standAt pos; pure x), (some (eval k X.env), do let x ← eval v X.env; standAt pos; pure x)]) _ _ _
  unfold dictDisplay
  dsimp only
  rw [List.forIn_cons]
  dsimp only
  refine wpAny_bind (wpAny_bind (wpAny_bind ?_))
  rw [if_pos (show ([] : List (Sem Value × Sem Value)).isEmpty = true from rfl)]
  refine wpAny_pure ?_
  dsimp only
  refine wpAny_bind (wpAny_alloc ?_)
  refine wpAny_bind (wpAny_holding (wpAny_bind (thn (he.run pins _ σ _ _ I1 (h _ hn)) fun u s1 ⟨x, H1, I2, rx, a, ks, ex, hap, ha, hp, hl, q1⟩ => ?_)))
  subst ex
  obtain rfl : u = Value.ref a := rx
  refine wpAny_bind (wpAny_standAt (wpAny_pure ?_))
  obtain ⟨_, hsP, vp, rp, dp⟩ := dk_of I2.hok hp
  obtain ⟨_, hsA, va, ra, da⟩ := dk_of I2.hok ha
  cases rp
  have la : va.length ≤ 1000 := by rw [← ra.length]; exact hl
  refine wpAny_bind (wpAny_onRaise (wpAny_tryCatch (wpAny_onRaise (wpAny_holding (wpAny_mergeMapping (mix_ref X.prog X.w) (Ne.symm hap) hsA dp da (fun h' dd' oo' hs => ?_) (by rw [sizeLine_eq, List.length_nil]; omega))))))
  refine wpAny_pure ?_
  have hm1 : (mergeK [] ks).length ≤ sizeLine := by
    have := length_mergeK ks []
    rw [List.length_nil] at this
    rw [sizeLine_eq]; omega
  have I3 : Inv X pins σ (upd H1 s.heap.objs.size (.dK (mergeK [] ks))) { s1 with heap := h' } := by
    have hex : ∃ q, h'.get? s.heap.objs.size = some q := let ⟨q, _, _, hq, _⟩ := dd'; ⟨q, hq⟩
    exact d_write (t' := s1.toks) I2 (by rw [hp]; exact True.intro) hs hex (dk_new hm1 hsP (KV.merge ra .nil) dd')
  dsimp only
  rw [List.forIn_cons]
  dsimp only
  rw [if_neg (by simp)]
  refine wpAny_bind (wpAny_bind (wpAny_pure ?_))
  refine wpAny_pure ?_
  dsimp only
  rw [List.forIn_nil]
  refine wpAny_pure ?_
  dsimp only
  rw [if_neg (by simp)]
  have hn2 := I3.hok.fresh (Nat.le_refl h'.objs.size)
  have I4 := I3.laid (a := h'.objs.size) (o := .dK []) (h' := h'.push { cls := .type "dict", data := .dict #[] }) (t' := s1.toks) (fun _ _ q => Heap.get?_push_of_some _ q) (Nat.le_refl _) (dk_empty h' I3.big)
  refine wpAny_bind (wpAny_bind (wpAny_holding (wpAny_subDict (knd := mixKind X.prog X.w) (by simp) ?_)))
  refine wpAny_mono ((pps_cons (pos := pos) hk hv pps_nil).run pins _ σ _ (fun ps H3 => match ps with
    | [(y, z)] => ∃ (kk : Key) (ks1 : List (Key × V)), y = kV kk ∧ H3 h'.objs.size = some (.dK []) ∧ H3 s.heap.objs.size = some (.dK ks1) ∧ ks1.length ≤ 1000 ∧
        Q (.ref s.heap.objs.size) (upd (upd H3 h'.objs.size (.dK [(kk, z)])) s.heap.objs.size (.dK (putK ks1 kk z)))
    | _ => False) I4 (q1 _ hn2)) (fun ws s3 ⟨ps, H3, I5, rel, q3⟩ => ?_) fun _ _ e => e
  match ps, rel, q3 with
  | [(y, z)], rel, ⟨kk, ks1, ey, hq3, hp3, hl3, q3⟩ =>
    subst ey
    obtain ⟨rs, c, rk⟩ := carries_of (P := X.prog) (w := X.w) (kvs := [(kk, z)]) rel
    obtain ⟨_, hsQ, vq, rq, dq⟩ := dk_of I5.hok hq3
    cases rq
    refine ⟨rs, c, dq, fun h2 dd2 hs2 => ?_⟩
    have hex2 : ∃ q, h2.get? h'.objs.size = some q := let ⟨q, _, _, hq, _⟩ := dd2; ⟨q, hq⟩
    have I6 := d_write (t' := s3.toks + ws.length) I5 (by rw [hq3]; exact True.intro) hs2 hex2 (dk_new (kvs := mergeK [] [(kk, z)]) (by show 1 ≤ sizeLine; decide) hsQ (KV.merge rk .nil) dd2)
    have eM : mergeK [] [(kk, z)] = [(kk, z)] := rfl
    rw [eM] at I6
    have hne : s.heap.objs.size ≠ h'.objs.size := fun e => by
      rw [← e, upd_same] at hn2
      exact nomatch hn2
    have hp4 : upd H3 h'.objs.size (.dK [(kk, z)]) s.heap.objs.size = some (.dK ks1) := by rw [upd_ne hne]; exact hp3
    have hq4 : upd H3 h'.objs.size (.dK [(kk, z)]) h'.objs.size = some (.dK [(kk, z)]) := upd_same
    obtain ⟨_, _, v1, r1, d1⟩ := dk_of I6.hok hp4
    obtain ⟨_, _, v2, r2, d2⟩ := dk_of I6.hok hq4
    have l1 : v1.length ≤ 1000 := by rw [← r1.length]; exact hl3
    have l2 : v2.length = 1 := by rw [← r2.length]; rfl
    refine wpAny_bind (wpAny_onRaise (wpAny_holding (wpAny_mergeMapping (mix_ref X.prog X.w) hne hsQ d1 d2 (fun h3 dd3 oo3 hs3 => ?_) (by rw [sizeLine_eq]; omega))))
    refine wpAny_pure ?_
    have hex3 : ∃ q, h3.get? s.heap.objs.size = some q := let ⟨q, _, _, hq, _⟩ := dd3; ⟨q, hq⟩
    have hm3 : (mergeK ks1 [(kk, z)]).length ≤ sizeLine := by
      have := length_mergeK [(kk, z)] ks1
      have e1 : [(kk, z)].length = 1 := rfl
      rw [sizeLine_eq]; omega
    have I7 := d_write (t' := s3.toks + ws.length) I6 (by rw [hp4]; exact True.intro) hs3 hex3 (dk_new hm3 hsP (KV.merge r2 r1) dd3)
    exact wpAny_pure ⟨.ref s.heap.objs.size, _, I7, rfl, q3⟩
  | [], _, q3 => exact q3.elim
  | _ :: _ :: _, _, q3 => exact q3.elim
/-- a local name that holds one of the text's defs, called -/
def tCallT (P : Program) (w : World) (K : PySem.W.Frag) (mg : Str → Option Value) (base : Heap) (j i : Nat) (t : TA) : TE := fun σ H Q => ∃ (x : Str) (k : Nat) (sp : Sp) (f : Addr), k ≤ j ∧ Cal P w K mg base k x sp ∧ mg x = some (.ref f) ∧
  σ[i]? = some (some (.ref f)) ∧ t σ H fun vs H1 => sp vs H1 Q E0
section
variable {X : Cx} {j i : Nat} {x : Str} {p pos : Pos} {e : Expr} {es : List Expr} {t : TA}
theorem pe_callT (hr : Room j X.A) (hN : X.N[i]? = some x) (hv : Vis X.env.scope x) (ha : PA X (e :: es) t)
    (hd : (x == ("__debug__" : Str)) = false := by decide) (hcd : (x == ("__classdict__" : Str)) = false := by decide)
    (he : starEach (e :: es) X.env = (false, eval e X.env) :: starEach es X.env := by rfl) (hpl : (backTo pos (starEach es X.env)).any (·.1) = false := by rfl) :
    PE X (.Call (.Name x p) (e :: es) [] pos) (tCallT X.prog X.w X.K X.mg X.base j i t) := by
  refine ⟨fun pins s σ H Q I h => ?_⟩
  obtain ⟨y, k, sp, f, hk, c, hm, hs, ht⟩ := h
  obtain ⟨f2, fd, ps, F, hm2, kp, b⟩ := c.ex
  obtain rfl : f = f2 := by
    rw [hm] at hm2
    injection hm2 with e1
    injection e1
  refine wpAny_Call_Name_kw (thn ((pe_var (pos := p) hN hv hd hcd).run pins s σ H (fun v H1 => v = .ref f ∧ H1 = H) I ⟨.ref f, hs, rfl, rfl⟩) fun u s1 ⟨v, H1, I1, r1, q1⟩ => ?_)
  obtain ⟨rfl, rfl⟩ := q1
  cases r1
  refine PySem.W.callWith_K (h₀ := X.base) I.ok.mod.kin kp (thn (ha.run pos pins s1 σ _ _ I1 ht) fun us s2 ⟨vs, H2, I2, r, q⟩ => ⟨I2.kIn, ?_⟩) he hpl
  exact run_fn F (hr.mono hk) b .nil pass0 I2 r (by rw [List.append_nil]; exact q)
end
/-- an entry of a dict of the module that holds a def -/
def EntT (K : PySem.W.Frag) (w : World) (mg : Str → Option Value) (a : Addr) (key x : Str) : Prop := ∃ f, mg x = some (.ref f) ∧ KDct K w a key (.ref f)
end VL

set_option Elab.async false
set_option linter.all false
set_option maxRecDepth 100000
set_option maxHeartbeats 4000000
namespace VL
open PySem PySem.Spec PyProof.Rows L2 NdefX

/-! ### an own exception's __init__ that begins with super().__init__(..), over ValueError -/
abbrev supBody (p0 p1 p2 p3 p4 : Pos) (es : List Expr) (rest : List Stmt) : List Stmt := .Expr (.Call (.Attribute (.Call (.Name "super" p0) [] [] p1) "__init__" p2) es [] p3) p4 :: rest
section
variable {CX : CXT} {P : Program} {w : World} {K : PySem.W.Frag} {mg : Str → Option Value} {base : Heap} {k : Nat} {f D cc cda : Addr} {name qual : Str} {params : Arguments} {es : List Expr} {ar : Arg} {rest : List Stmt} {p0 p1 p2 p3 p4 : Pos} {scope : Scope}
  {dV kV doc pm ct oc cl ccl : Value} {od cld cdd an : Option Addr} {osl csl ccs : Array (Option Value)} {vsC : Array Value} {file : Str} {tf : Tok} {cdD : ClassData} {N ps : List Str} {sp : Sp}
/-- what the written part says of it -/
structure SupK (P : Program) (K : PySem.W.Frag) (mg : Str → Option Value) (f D cc cda : Addr) (fd : FuncData) (qual : Str) : Prop where
  lk : ∃ oc od osl, K.lookup f = some ⟨oc, od, .func fd, osl⟩
  cd : PySem.W.codeIn K (.ref cda) qual = true
  cell : ∃ cl cld csl, K.lookup cc = some ⟨cl, cld, .cell (some (.ref D)), csl⟩
  code : ∃ ccl cdd vsC ccs file tf, K.lookup cda = some ⟨ccl, cdd, .fields vsC, ccs⟩ ∧ vsC[2]? = some (.str file tf) ∧ ((P.main.file : Str) == file) = true
  cls : ∃ cdD, PySem.W.clsIn K D = some cdD
  sub : PySem.W.mroIn K D (.ref D) = some true
  zsuper : mg "super" = none
  ops : PySem.W.nsIn K cStatics "thirdparty.any" = some none
  along : PySem.W.ks_superIn K D D "__init__" = some (some (.builtin "ValueError.__init__"))
  subV : PySem.W.subIn K (.ref D) (.type "ValueError") = some true
  top : (P.main.scope.names.lookup ("super" : Str)).isSome = false
theorem fn_sup {fd : FuncData} (T : SupK P K mg f D cc cda fd qual) (O : OexC K D) (efd : fd = PySem.W.fnX name qual params (supBody p0 p1 p2 p3 p4 es rest) scope [("__class__", cc)] dV kV doc pm an (.ref cda) ct)
    (S : NScope N ps ["__class__"] scope) (har : (params.posonlyargs ++ params.args).head? = some ar) (hps : ps.head? = some ar.arg) (hks : scope.names.lookup ("super" : Str) = some .globalImplicit)
    (hsw : ∀ env : Env, swapsWith (.Call (.Attribute (.Call (.Name "super" p0) [] [] p1) "__init__" p2) es [] p3) none p4.line env = pure false)
    (hst : ∀ env : Env, (backTo p3 (starEach es env)).any (·.1) = false)
    (hee : ∀ env : Env, ∃ x r, backTo p3 (starEach es env) = (false, x) :: r)
    {pl : Sem Bool} (hev : ∀ env : Env, eval (.Call (.Attribute (.Call (.Name "super" p0) [] [] p1) "__init__" p2) es [] p3) env = (do
      let ov ← attributeBase (.Call (.Name "super" p0) [] [] p1) "__init__" env (eval (.Call (.Name "super" p0) [] [] p1) env)
      standAt p2.atName
      let (g, first) ← holding [ov] (getMethod ov "__init__" pl)
      callWith p3 g first (backTo p3 (starEach es env)) []))
    (len : ∀ vs H Q E, sp vs H Q E → vs.length = ps.length)
    (hbody : ∀ (A : Around) (outer : List Env) (s : Shared) (H : Hp) (vs : List V) (Q : VK) (E : XK), Room k (A.deeper (envF ⟨name, qual, params, supBody p0 p1 p2 p3 p4 es rest, scope, [("__class__", cc)], cda⟩ f s.heap.objs.size)) → sp vs H Q E →
      ∃ ta tr, PA (ncx CX P w K mg base N ⟨name, qual, params, supBody p0 p1 p2 p3 p4 es rest, scope, [("__class__", cc)], cda⟩ f A outer s H E) es ta ∧
        PSs (ncx CX P w K mg base N ⟨name, qual, params, supBody p0 p1 p2 p3 p4 es rest, scope, [("__class__", cc)], cda⟩ f A outer s H E) rest tr ∧
        ∃ (a : Addr) (vs' : List V), vs = .ref a :: vs' ∧ H a = some (exo a D none) ∧
          ta (startF N vs [some (.ref D)]) H fun ws H1 => ws.length ≤ 1000 ∧ H1 a = some (exo a D none) ∧ tr { nx := fun _ H' => Q .non H', rt := Q } (startF N vs [some (.ref D)]) H1) :
    FnOk P w K mg base CX (k + 1) f fd ps sp := by
  subst efd
  obtain ⟨oc, od, osl, lk⟩ := T.lk
  obtain ⟨cl, cld, csl, hcell⟩ := T.cell
  obtain ⟨ccl, cdd, vsC, ccs, file, tf, hcode, hvs, hfile⟩ := T.code
  obtain ⟨cdD, hD⟩ := T.cls
  refine ⟨len, fun A outer s H args us vs Q E hr e0 hb r hsp => ?_⟩
  have hl := len _ _ _ _ hsp
  have KX : K.In s.heap := e0.mod.kin.keeps fun b o q => (e0.bs b o q).1
  have lim : s.heap.NoLimit := e0.mod.nolimit.keeps fun b o e => (e0.bs b o e).1
  have C : CellsAt [("__class__", cc)] ["__class__"] [some (.ref D)] s.heap H := by
    have one : ∀ y c, [(("__class__" : Str), cc)].lookup y = some c → y = "__class__" ∧ c = cc := fun y c e => by
      by_cases h : y = ("__class__" : Str)
      · subst h
        have e2 : [(("__class__" : Str), cc)].lookup ("__class__" : Str) = some cc := by simp [List.lookup]
        rw [e2] at e
        exact ⟨rfl, (Option.some.inj e).symm⟩
      · have q : (y == ("__class__" : Str)) = false := by simpa using h
        simp [List.lookup, q] at e
    have hc : ∃ v, s.heap.IsCell cc v := ⟨_, _, KX _ _ hcell, rfl⟩
    have hcH : H cc = none := (e0.bs cc _ (e0.mod.kin _ _ hcell)).2
    refine ⟨rfl, fun y c e => ?_, fun x y c e1 e2 => ?_, fun i y e => ?_⟩
    · obtain ⟨_, rfl⟩ := one y c e
      exact ⟨hcH, hc⟩
    · rw [(one _ _ e1).1, (one _ _ e2).1]
    · cases i with
      | zero =>
        injection e with e
        subst e
        refine ⟨cc, by simp [List.lookup], fun v ev => ?_⟩
        injection ev with ev
        injection ev with ev
        subst ev
        exact ⟨_, rfl, _, KX _ _ hcell, rfl⟩
      | succ i => cases i <;> cases e
  refine PySem.ks_codeAny_call_defAt (body := supBody p0 p1 p2 p3 p4 es rest) hr.depth (KX _ _ lk) rfl lim (PySem.W.codeRec_of KX T.cd) rfl hb S.nocell (fun ⟨n, _⟩ hy => S.par n (List.of_mem_zip hy).1) (fun h₁ hns kp => ?_) S.co S.gen S.kind
  obtain ⟨ta, tr, hA, hR, a, vs', ev, ha0, hq⟩ := hbody A outer s H vs Q E (hr.deeper _) hsp
  generalize hF : (⟨name, qual, params, supBody p0 p1 p2 p3 p4 es rest, scope, [("__class__", cc)], cda⟩ : NF) = F at hA hR
  have I : Inv (ncx CX P w K mg base N F f A outer s H E) [] (startF N vs [some (.ref D)]) H { s with heap := h₁, toks := s.toks + (ps.zip us).length } := by
    subst hF
    exact inv_startN S hr.hd e0 hl r C hns kp
  have eenv : callEnv (PySem.W.fnX name qual params (supBody p0 p1 p2 p3 p4 es rest) scope [("__class__", cc)] dV kV doc pm an (.ref cda) ct) s.heap.objs.size f = envF F f s.heap.objs.size := by
    subst hF
    rfl
  rw [eenv]
  have fin : ∀ {σ' : L2.St} {H' : Hp} {v : V} {u : Value} {s' : Shared}, Inv (ncx CX P w K mg base N F f A outer s H E) [] σ' H' s' → L2.RelV v u → Q v H' → CE outer P w H s Q u s' :=
    fun {σ' H' v u s'} J rv q => ⟨v, H', J.os, J.bare, J.base, J.hok, rv, q⟩
  refine PySem.ks_wpAt_mono (Q := SP (ncx CX P w K mg base N F f A outer s H E) [] { nx := fun _ H' => Q .non H', rt := Q }) (E := (ncx CX P w K mg base N F f A outer s H E).xe) ?go (fun fl s' hs => ?en) (fun _ _ x => x)
  case en =>
    cases fl with
    | ret u =>
      obtain ⟨v, σ', H', J, rv, q⟩ := hs
      exact fin J rv q
    | next =>
      obtain ⟨σ', H', J, q⟩ := hs
      exact fin (v := V.non) (u := Value.none) J rfl q
    | brk =>
      obtain ⟨_, _, _, q⟩ := hs
      exact False.elim q
    | cont =>
      obtain ⟨_, _, _, q⟩ := hs
      exact False.elim q
  have ekind : ∀ x, (envF F f s.heap.objs.size).kindOf x = scope.names.lookup x := by
    subst hF
    intro x
    rfl
  refine PySem.ks_wpAt_execs_cons (PySem.ks_wpAt_Expr_any (PySem.ks_wpAt_MethodCall (pl := pl) ?_ (hev _)) I.quiet (hsw _))
  refine PySem.ks_wpAt_super_base (env := envF F f s.heap.objs.size) ((ekind _).trans hks) ((ekind _).trans (S.frk _ List.mem_cons_self)) rfl rfl (kp _ _ (KX _ _ lk)) rfl har (by subst hF; rfl) (kp _ _ (KX _ _ hcode)) rfl hvs hfile T.top ?_
  have escope : (envF F f s.heap.objs.size).scope = scope := by subst hF; rfl
  have ecells : (envF F f s.heap.objs.size).cells = [(("__class__" : Str), cc)] := by subst hF; rfl
  obtain ⟨mb, b1, b2⟩ := e0.mod.blt
  have kb : ∀ b o, base.get? b = some o → h₁.get? b = some o := fun b o q => kp b o (e0.bs b o q).1
  have X₁ : K.In h₁ := KX.keeps kp
  have hgl := e0.mod.glob.keeps kb
  have hbl := b1.keeps kb
  refine PySem.W.ks_loadName_global (by rw [escope]; exact S.kind) ((ekind _).trans hks) (Calls.loadGlobal_builtin hgl T.zsuper hbl ((b2 _ (by decide +kernel)).trans Boot.«super») ⟨rfl, ?_⟩)
  refine wpAny_loadName_free (by rw [escope]; exact S.kind) ((ekind _).trans (S.frk _ List.mem_cons_self)) (c := cc) (v := .ref D) (by rw [ecells]; simp [List.lookup]) ⟨_, X₁ _ _ hcell, rfl⟩ ?_
  have hself : (ps.zip us).reverse.lookup ar.arg = some (.ref a) := by
    subst ev
    cases ps with
    | nil => cases hps
    | cons p ps' =>
      injection hps with hps
      subst hps
      cases r with
      | @cons _ u0 _ ur ra rw' =>
        obtain rfl : u0 = Value.ref a := ra
        have nd : (ar.arg :: ps').Nodup := by
          have q := S.nd.sublist (List.take_sublist ((ar.arg :: ps').length + [("__class__" : Str)].length) N)
          rw [S.pre] at q
          exact (List.nodup_append.mp q).1
        exact zip_look (i := 0) nd rfl rfl
  have hpar : scope.names.lookup ar.arg = some .local := by
    refine S.par _ ?_
    cases ps with
    | nil => cases hps
    | cons p ps' =>
      injection hps with hps
      subst hps
      exact List.mem_cons_self
  refine wpAny_loadName_local (by rw [escope]; exact S.kind) ((ekind _).trans hpar) hns hself ?_
  obtain ⟨oD, hD1, hD2⟩ : ∃ oD, h₁.get? D = some oD ∧ oD.data = .cls cdD := by
    have z := hD
    unfold PySem.W.clsIn at z
    split at z
    · rename_i ho
      cases z
      exact ⟨_, X₁ _ _ ho, rfl⟩
    · cases z
  refine PySem.ks_wpAny_isType_cls hD1 hD2 ⟨rfl, ?_⟩
  obtain ⟨t1, hoa⟩ := exo_at I.hok ha0
  refine PySem.ks_wpAny_call_super hD1 hD2 hoa rfl (fun c e => by cases e) (PySem.W.looks_mroIn X₁ T.sub) (fun h₂ e2 k2 => ?_)
  have I2 := I.kept (t' := s.toks + (ps.zip us).length) k2
  have X₂ : K.In h₂ := X₁.keeps k2
  have IA : PySem.W.InstAt h₂ a { cls := .ref D, dict := none, data := .fields #[.ref t1, .none, .none, .none, .bool false, .none] } D none := ⟨k2 _ _ hoa, rfl, rfl, trivial⟩
  have hal := T.along
  unfold PySem.W.ks_superIn at hal
  rw [hD] at hal
  have hmro : PySem.W.Looks (model P w) h₂ (mroOf (.ref D)) cdD.mro := fun A Q E s k q => wpAny_bind ((PySem.W.looks_clsIn X₂ hD) A _ E s k (wpAny_pure q))
  refine PySem.W.kxs_getMethod PySem.W.kxs_ValueError e2 (PySem.W.looks_opaque X₂ T.ops) hmro rfl X₂ hal (IA.type.andThen (PySem.W.looks_subIn X₂ T.subV)) (PySem.W.ks_ne X₂ IA hD) rfl ?_
  have kmw : ∀ b o, h₂.get? b = some o → (h₂.push (PySem.W.kxs_mw "ValueError.__init__" a)).get? b = some o := fun b o q => Heap.get?_push_of_some _ q
  have I3 : Inv (ncx CX P w K mg base N F f A outer s H E) [(h₂.objs.size, PySem.W.kxs_mw "ValueError.__init__" a)] (startF N vs [some (.ref D)]) H { s with heap := h₂.push (PySem.W.kxs_mw "ValueError.__init__" a), toks := s.toks + (ps.zip us).length + 1 } := by
    refine (I2.kept (t' := s.toks + (ps.zip us).length + 1) kmw).pins_of fun p hp => ?_
    rw [List.mem_singleton.mp hp]
    exact ⟨Heap.get?_push_at rfl rfl, I2.hok.fresh (Nat.le_refl _), Nat.ne_of_gt I2.lt, I2.nofs (Nat.le_refl _), fun v e => by cases e⟩
  refine PySem.W.kxs_callWith (i := "ValueError.__init__") (x := a) (hst _) ?_
  obtain ⟨x0, r0, hx⟩ := hee (envF F f s.heap.objs.size)
  rw [hx]
  refine Calls.evalArgs_plain ?_
  rw [← hx]
  refine thn (hA.run p3 _ _ _ H _ I3 hq) (fun us1 s4 ⟨ws, H1, I4, r1, hz, ha1, hrest⟩ => ⟨(I4.pin (h₂.objs.size, PySem.W.kxs_mw "ValueError.__init__" a) (List.mem_append_right _ List.mem_cons_self)).1, ?_⟩)
  have hu := (I4.pin (h₂.objs.size, PySem.W.kxs_mw "ValueError.__init__" a) (List.mem_append_right _ List.mem_cons_self)).1
  have I5 : Inv (ncx CX P w K mg base N F f A outer s H E) [] (startF N vs [some (.ref D)]) H1 s4 := I4.pins_of fun p hp => by cases hp
  obtain ⟨nm, q, Nn, bs, bm, sn, sub, ab, col, dd, k0, k1, k2', k3, k5, hC, hbm⟩ := O.cls
  obtain ⟨t2, ho⟩ := exo_at I5.hok ha1
  have hus : us1.length ≤ sizeLine := by
    rw [← Paired.length r1]
    exact Nat.le_trans hz (by decide)
  have kin4 := I5.kIn
  obtain ⟨hp, g, d, tk, os⟩ := s4
  refine wpAny_call (codeAny_of_tree ?_)
  show wpAny _ (A.deeper (envF F f s.heap.objs.size)).in1 (callAny (.ref h₂.objs.size) ⟨us1, []⟩) _ _ _
  simp only [callAny]
  refine wpAny_bind (wpAny_load hu ?_)
  simp only [PySem.W.kxs_mw, show (Value.type "method-wrapper" == Value.type "method" || Value.type "method-wrapper" == Value.type "builtin_function_or_method" || Value.type "method-wrapper" == Value.type "method-wrapper") = true by decide, if_true]
  refine PySem.W.KFB.if_so (by decide) ?_
  refine wpAny_bind (PySem.W.check_bound_init PySem.F.excBase_ValueError.toExcCallFacts (kin4 _ _ hC) ho rfl ?_)
  refine wpAny_bind (wpAny_pure (wpAny_pure ?_))
  refine ⟨plainId_quiet PySem.F.excBase_ValueError.init.plain _, codeAny_builtin PySem.F.excBase_ValueError.initEntry ?_⟩
  refine PySem.W.exc_init_tree (cls := .ref D) (t0 := t2) (dv := none) (c2 := .none) (c3 := .none) (b4 := .bool false) ho hus fun h' kk e' _ => ?_
  have J := I5.write (t' := tk) (x := a) (e := a) (o := exo a D none) (by rw [ha1]; exact True.intro) (.inl rfl) kk ⟨_, e'⟩ (exo_ok e')
  have eu : upd H1 a (exo a D none) = H1 := by
    funext b
    by_cases hb : b = a
    · rw [hb, upd_same, ha1]
    · rw [upd_ne hb]
  rw [eu] at J
  exact wpAt_of_wpAny (hR.run [] _ _ H1 _ J hrest)
end
end VL

set_option Elab.async false
set_option linter.all false
set_option maxRecDepth 100000
set_option maxHeartbeats 4000000
namespace VL
open PySem PySem.Spec PyProof.Rows L2 NdefX

/-! ### isinstance of a caught error that has a dict -/
theorem call_isED {X : Cx} {a D : Addr} {oe : Obj} {cls : Value} {d : Option Addr} {pn : List (Addr × Obj)} (C : ExcC X.K D) (hz : Zc cls d oe) (hf : ∃ vs, oe.data = .fields vs) :
    CallR (X.suite a ((a, oe) :: pn)) (.builtin "isinstance") (fun xs H Q => cls = .ref D ∧ ∃ (dd : Addr) (fs : List (Str × V)) (c : V) (cv : Value) (b : Bool), d = some dd ∧ H dd = some (.xd fs) ∧ xs = [.ref a, c] ∧ (∀ u, RelV c u → u = cv) ∧ PySem.W.kitOne X.K (.ref D) cv = some b ∧ Q (.bl b) H) := by
  intro pins s σ H xs us Q I r h
  obtain ⟨ec, dd, fs, c, cv, b, ed, ea, ex, hcv, e, q⟩ := h
  subst ec ed ex
  cases r with
  | cons rx rr =>
    cases rr with
    | cons rt rr =>
      cases rr
      cases rx
      obtain rfl := hcv _ rt
      have hp := (I.pin (a, oe) (List.mem_append_left _ List.mem_cons_self)).1
      obtain ⟨vs, hv⟩ := hf
      have hx : ObjOk X.prog X.w H s.heap dd (.xd fs) := I.hok dd _ ea
      obtain ⟨mA, hns, _⟩ := hx
      obtain ⟨od, ho, _⟩ := lookIn_ns hns
      have J : PySem.W.InstAt s.heap a oe D (some od) := ⟨hp, hz.1, by unfold PySem.W.notCls; rw [hv] <;> rfl, by rw [hz.2]; exact ho⟩
      have hcl : (PySem.W.clsIn X.K D).isSome = true := by
        obtain ⟨cd, hc, _⟩ := PySem.W.any_some C.hd
        rw [hc]
        rfl
      exact PySem.W.kia_one (PySem.W.kitx_exc (ox := oe) (od := some od) hcl C.hg C.hk C.hs C.ha C.hn C.ht C.hm) I.kIn J e (fun z => nomatch z) fun tk => ⟨.bl b, H, I.kept (t' := tk) fun _ _ z => z, rfl, q⟩
end VL

set_option Elab.async false
set_option linter.all false
set_option maxRecDepth 100000
set_option maxHeartbeats 4000000
namespace VL
open PySem PySem.Spec PyProof.Rows L2 NdefX
/-! ### what a law's text says of an own exception class with its own __init__ -/
abbrev exFd (qual : Str) (st : Stmt) (cc cda : Addr) (kV doc pm : Value) (an : Option Addr) (ct : Value) : FuncData := PySem.W.fnX "__init__" qual (defArgs st) (defBody st) (defScope st) [("__class__", cc)] .none kV doc pm an (.ref cda) ct
structure ExI (P : Program) (K : PySem.W.Frag) (mg : Str → Option Value) (name qual : Str) (D : Addr) (st : Stmt) (ps attrs : List Str) : Prop where
  init : ∃ (fI cc cda : Addr) (kV doc pm ct : Value) (an : Option Addr), SupK P K mg fI D cc cda (exFd qual st cc cda kV doc pm an ct) qual ∧ PySem.W.findIn K (.ref D) "__init__" = some (some (.ref fI)) ∧ PySem.W.typeIn K (.ref fI) = some (.type "function") ∧
    Binds K (exFd qual st cc cda kV doc pm an ct) ps []
  o : OexC K D
  na : ∀ a ∈ attrs, PySem.W.findIn K (.ref D) a = some none
  g : mg name = some (.ref D)
  exm : PySem.W.exmOne K (.ref D) (.ref D) = some true
  xf : XfC K D
  ec : ExcC K D
end VL

set_option Elab.async false
set_option linter.all false
set_option maxRecDepth 100000
set_option maxHeartbeats 4000000
namespace VL
open PySem PySem.Spec PyProof.Rows L2

/-! ### defs and methods that may raise -/
structure CalX (P : Program) (w : World) (K : PySem.W.Frag) (mg : Str → Option Value) (base : Heap) (k : Nat) (x : Str) (sp : Sp) : Prop where
  ex : ∃ (f : Addr) (fd : FuncData) (ps : List Str), FnOk P w K mg base (L2.CX P w) k f fd ps sp ∧ mg x = some (.ref f) ∧ PySem.W.keepIn K (.ref f) = true ∧ Binds K fd ps []
structure MetX (P : Program) (w : World) (K : PySem.W.Frag) (mg : Str → Option Value) (base : Heap) (k : Nat) (C : Addr) (m : Str) (sp : Sp) : Prop where
  ex : ∃ (f : Addr) (fd : FuncData) (ps : List Str), Cls K C ∧ Meth K C m f ∧ FnOk P w K mg base (L2.CX P w) k f fd ps sp ∧ Binds K fd ps []
structure MakX (P : Program) (w : World) (K : PySem.W.Frag) (mg : Str → Option Value) (base : Heap) (k : Nat) (x : Str) (C : Addr) (sp : Sp) : Prop where
  ex : ∃ (f : Addr) (fd : FuncData) (ps : List Str), Mk K C f ∧ FnOk P w K mg base (L2.CX P w) k f fd ps sp ∧ mg x = some (.ref C) ∧ Binds K fd ps []
section
variable {X : Cx} {k j : Nat} {C : Addr} {x m : Str} {sp : Sp} {E : XK} {p pos apos : Pos} {e o : Expr} {es : List Expr} {ta : TE} {t : TA}
theorem pe_cX (hx : Passes (L2.CX X.prog X.w) X E) (c : CalX X.prog X.w X.K X.mg X.base k x sp) (hr : Room j X.A) (hk : k ≤ j) (hg : Gl X x) (ha : PA X (e :: es) t)
    (hdb : (x == ("__debug__" : Str)) = false := by decide) (he : starEach (e :: es) X.env = (false, eval e X.env) :: starEach es X.env := by rfl) (hpl : (backTo pos (starEach es X.env)).any (·.1) = false := by rfl) :
    PE X (.Call (.Name x p) (e :: es) [] pos) (tCall sp [] E t) := by
  obtain ⟨f, fd, ps, F, hm, kp, b⟩ := c.ex
  exact pe_call F (hr.mono hk) hg hm kp b .nil hx ha hdb he hpl
theorem pe_mkX (hx : Passes (L2.CX X.prog X.w) X E) (c : MakX X.prog X.w X.K X.mg X.base k x C sp) (hr : Room j X.A) (hk : k + 1 ≤ j) (hg : Gl X x) (ha : PA X (e :: es) t)
    (hdb : (x == ("__debug__" : Str)) = false := by decide) (he : starEach (e :: es) X.env = (false, eval e X.env) :: starEach es X.env := by rfl) (hpl : (backTo pos (starEach es X.env)).any (·.1) = false := by rfl) :
    PE X (.Call (.Name x p) (e :: es) [] pos) (tMake C sp [] E t) := by
  obtain ⟨f, fd, ps, M, F, hm, b⟩ := c.ex
  exact pe_make M F (hr.mono hk) hg hm b .nil hx ha hdb he hpl
theorem pe_mtX {pl : Sem Bool} (hx : Passes (L2.CX X.prog X.w) X E) (c : MetX X.prog X.w X.K X.mg X.base k C m sp) (hr : Room j X.A) (hk : k ≤ j) (he : PE X o ta) (ha : PA X (e :: es) t)
    (hst : starEach (e :: es) X.env = (false, eval e X.env) :: starEach es X.env := by rfl) (hpl : (backTo pos (starEach es X.env)).any (·.1) = false := by rfl)
    (ht : eval (.Call (.Attribute o m apos) (e :: es) [] pos) X.env = (do
      let ov ← eval o X.env
      standAt apos.atName
      let (f, first) ← holding [ov] (getMethod ov m pl)
      callWith pos f first (backTo pos (starEach (e :: es) X.env)) (backToKw pos (keywordEach [] X.env))) := by rfl) :
    PE X (.Call (.Attribute o m apos) (e :: es) [] pos) (tMeth C m sp [] E ta t) := by
  obtain ⟨f, fd, ps, hc, hm, F, b⟩ := c.ex
  exact pe_meth (pl := pl) he hc hm F (hr.mono hk) b .nil hx ha hst hpl ht
theorem pe_mtX0 {pl : Sem Bool} (hx : Passes (L2.CX X.prog X.w) X E) (c : MetX X.prog X.w X.K X.mg X.base k C m sp) (hr : Room j X.A) (hk : k ≤ j) (he : PE X o ta)
    (ht : eval (.Call (.Attribute o m apos) [] [] pos) X.env = (do
      let ov ← eval o X.env
      standAt apos.atName
      let (f, first) ← holding [ov] (getMethod ov m pl)
      callWith pos f first (backTo pos (starEach [] X.env)) (backToKw pos (keywordEach [] X.env))) := by rfl) :
    PE X (.Call (.Attribute o m apos) [] [] pos) (tMeth C m sp [] E ta tNil) := by
  obtain ⟨f, fd, ps, hc, hm, F, b⟩ := c.ex
  exact pe_meth0 (pl := pl) he hc hm F (hr.mono hk) b .nil hx ht
end
section
variable {P : Program} {w : World} {K : PySem.W.Frag} {mg : Str → Option Value} {base : Heap}
theorem okX_of {x qual : Str} {st : Stmt} {ps N : List Str} {f : Addr} {fd : FuncData} {k : Nat} {sp : Sp} (F : Fun K x qual st f fd) (S : FnScope N ps (defScope st)) (len : ∀ vs H Q E, sp vs H Q E → vs.length = ps.length)
    (hbody : ∀ (f : Addr) (cdv : Value) (A : Around) (outer : List Env) (s : Shared) (H : Hp) (vs : List V) (Q : VK) (E : XK), Room k (A.deeper (envOfC qual (defScope st) s.heap.objs.size f cdv)) → sp vs H Q E →
      ∃ t, PSs (cxOf (L2.CX P w) P w K mg base N qual (defScope st) f cdv A outer s H E) (defBody st) t ∧ t { nx := fun _ H' => Q .non H', rt := Q } (start N vs) H) : FnOk P w K mg base (L2.CX P w) (k + 1) f fd ps sp :=
  F.okX S len (hbody f)
theorem calX_of {x : Str} {st : Stmt} {ps N : List Str} {k : Nat} {sp : Sp} (D : DefE K mg x st ps) (S : FnScope N ps (defScope st)) (len : ∀ vs H Q E, sp vs H Q E → vs.length = ps.length)
    (hbody : ∀ (f : Addr) (cdv : Value) (A : Around) (outer : List Env) (s : Shared) (H : Hp) (vs : List V) (Q : VK) (E : XK), Room k (A.deeper (envOfC x (defScope st) s.heap.objs.size f cdv)) → sp vs H Q E →
      ∃ t, PSs (cxOf (L2.CX P w) P w K mg base N x (defScope st) f cdv A outer s H E) (defBody st) t ∧ t { nx := fun _ H' => Q .non H', rt := Q } (start N vs) H) : CalX P w K mg base (k + 1) x sp := by
  obtain ⟨f, fd, F, hm, b⟩ := D
  exact ⟨f, fd, ps, okX_of F S len hbody, hm, F.kp, b⟩
theorem metX_of {C : Addr} {x qual : Str} {st : Stmt} {ps N : List Str} {k : Nat} {sp : Sp} (D : MethE K C x qual st ps) (c : Cls K C) (S : FnScope N ps (defScope st)) (len : ∀ vs H Q E, sp vs H Q E → vs.length = ps.length)
    (hbody : ∀ (f : Addr) (cdv : Value) (A : Around) (outer : List Env) (s : Shared) (H : Hp) (vs : List V) (Q : VK) (E : XK), Room k (A.deeper (envOfC qual (defScope st) s.heap.objs.size f cdv)) → sp vs H Q E →
      ∃ t, PSs (cxOf (L2.CX P w) P w K mg base N qual (defScope st) f cdv A outer s H E) (defBody st) t ∧ t { nx := fun _ H' => Q .non H', rt := Q } (start N vs) H) : MetX P w K mg base (k + 1) C x sp := by
  obtain ⟨f, fd, F, hm, b⟩ := D
  exact ⟨f, fd, ps, c, hm, okX_of F S len hbody, b⟩
theorem makX_of {C : Addr} {cn qual : Str} {st : Stmt} {ps N : List Str} {k : Nat} {sp : Sp} (D : InitE K mg cn C qual st ps) (S : FnScope N ps (defScope st)) (len : ∀ vs H Q E, sp vs H Q E → vs.length = ps.length)
    (hbody : ∀ (f : Addr) (cdv : Value) (A : Around) (outer : List Env) (s : Shared) (H : Hp) (vs : List V) (Q : VK) (E : XK), Room k (A.deeper (envOfC qual (defScope st) s.heap.objs.size f cdv)) → sp vs H Q E →
      ∃ t, PSs (cxOf (L2.CX P w) P w K mg base N qual (defScope st) f cdv A outer s H E) (defBody st) t ∧ t { nx := fun _ H' => Q .non H', rt := Q } (start N vs) H) : MakX P w K mg base (k + 1) cn C sp := by
  obtain ⟨f, fd, F, M, hm, b⟩ := D
  exact ⟨f, fd, ps, M, okX_of F S len hbody, hm, b⟩
end
/-- what leaves a def that may raise -/
abbrev thruX {P : Program} {w : World} {K : PySem.W.Frag} {mg : Str → Option Value} {base : Heap} {N : List Str} {qual : Str} {scope : Scope} {f : Addr} {cdv : Value} {A : Around} {outer : List Env} {s : Shared} {H : Hp} {E : XK} :
    Passes (L2.CX P w) (cxOf (L2.CX P w) P w K mg base N qual scope f cdv A outer s H E) E := passes_call (W := fun cls d _ H => E cls d H) (takes_of rfl rfl rfl rfl) fun _ _ _ _ h => h
abbrev takeX {P : Program} {w : World} {K : PySem.W.Frag} {mg : Str → Option Value} {base : Heap} {N : List Str} {qual : Str} {scope : Scope} {f : Addr} {cdv : Value} {A : Around} {outer : List Env} {s : Shared} {H : Hp} {E : XK} :
    Takes (cxOf (L2.CX P w) P w K mg base N qual scope f cdv A outer s H E) (fun cls d _ H => E cls d H) := takes_of rfl rfl rfl rfl
end VL

set_option Elab.async false
set_option linter.all false
set_option maxRecDepth 100000
set_option maxHeartbeats 4000000
namespace VL
open PySem PySem.Spec PyProof.Rows L2
/-! ### isinstance of a caught own error without a dict, whatever was caught; a call in a try's body -/
theorem call_isEN {X : Cx} {a D : Addr} {oe : Obj} {cls : Value} {d : Option Addr} {pn : List (Addr × Obj)} (C : ExcC X.K D) (hz : Zc cls d oe) (hf : ∃ vs, oe.data = .fields vs) :
    CallR (X.suite a ((a, oe) :: pn)) (.builtin "isinstance") (fun xs H Q => cls = .ref D ∧ d = none ∧ ∃ (c : V) (cv : Value) (b : Bool), xs = [.ref a, c] ∧ (∀ u, RelV c u → u = cv) ∧ PySem.W.kitOne X.K (.ref D) cv = some b ∧ Q (.bl b) H) := by
  intro pins s σ H xs us Q I r h
  obtain ⟨ec, ed, h⟩ := h
  subst ec ed
  exact call_isE C hz hf pins s σ H xs us Q I r h
section
variable {X : Cx} {k j : Nat} {x : Str} {sp : Sp} {E : L2.St → XK} {p pos : Pos} {e : Expr} {es : List Expr} {t : TA}
theorem pe_cXS (c : CalX X.prog X.w X.K X.mg X.base k x sp) (hr : Room j X.A) (hk : k ≤ j) (hg : Gl X x) (hx : ∀ σ, PassesAt (L2.CX X.prog X.w) X σ (E σ)) (ha : PA X (e :: es) t)
    (hdb : (x == ("__debug__" : Str)) = false := by decide) (he : starEach (e :: es) X.env = (false, eval e X.env) :: starEach es X.env := by rfl) (hpl : (backTo pos (starEach es X.env)).any (·.1) = false := by rfl) :
    PE X (.Call (.Name x p) (e :: es) [] pos) (tCallS sp E t) := by
  obtain ⟨f, fd, ps, F, hm, kp, b⟩ := c.ex
  exact pe_callS F (hr.mono hk) hg hm kp b hx ha hdb he hpl
end
end VL

set_option Elab.async false
set_option linter.all false
set_option maxRecDepth 100000
set_option maxHeartbeats 4000000
namespace VL
open PySem PySem.Spec PyProof.Rows L2

/-! ### x is True, x is False: whatever x is -/
theorem op_isBl {X : Cx} : OpR X (compareOp .Is) (fun x y H Q => ∃ b, y = .bl b ∧ Q (.bl (decide (x = .bl b))) H) := by
  intro pins s σ H x y v u Q I rx ry h
  obtain ⟨b, rfl, q⟩ := h
  cases (show u = Value.bool b from ry)
  have same : v = Value.bool b → x = .bl b → wpAny (model X.prog X.w) X.A (compareOp .Is v (.bool b)) (EP X pins σ Q) X.xe s := fun e1 e2 => by
    subst e1
    refine wpAny_is_self rfl ⟨.bl true, H, I, rfl, ?_⟩
    rw [decide_eq_true e2] at q
    exact q
  have diff : v ≠ Value.bool b → x ≠ .bl b → plainIs v (.bool b) = true → (v == Value.bool b) = false → wpAny (model X.prog X.w) X.A (compareOp .Is v (.bool b)) (EP X pins σ Q) X.xe s := fun e1 e2 e3 e4 => by
    rw [decide_eq_false e2] at q
    show wpAny _ _ ((isSame v (Value.bool b)) >>= fun z => pure (Value.bool z)) _ _ s
    exact wpAny_bind (wpAny_isSame_plain e3 (by rw [e4]; exact wpAny_pure ⟨.bl false, H, I, rfl, q⟩))
  cases x with
  | ref a => cases rx; exact diff (fun h => nomatch h) (fun h => nomatch h) rfl rfl
  | non => cases rx; exact diff (fun h => nomatch h) (fun h => nomatch h) rfl rfl
  | bl c =>
    cases (show v = Value.bool c from rx)
    by_cases e : c = b
    · subst e
      exact same rfl rfl
    · exact diff (fun h => e (by injection h)) (fun h => e (by injection h)) rfl (by cases c <;> cases b <;> first | rfl | exact absurd rfl e)
  | int i => obtain ⟨t, rfl⟩ := rx; exact diff (fun h => nomatch h) (fun h => nomatch h) rfl rfl
  | str x => obtain ⟨t, rfl⟩ := rx; exact diff (fun h => nomatch h) (fun h => nomatch h) rfl rfl
  | byt x => obtain ⟨t, rfl⟩ := rx; exact diff (fun h => nomatch h) (fun h => nomatch h) rfl rfl
  | flt x => obtain ⟨t, rfl⟩ := rx; exact diff (fun h => nomatch h) (fun h => nomatch h) rfl rfl
  | ty n => cases rx; exact diff (fun h => nomatch h) (fun h => nomatch h) rfl rfl

/-! ### a dict of the module whose keys are texts: what is not in it -/
def keysT (es : Array DictEntry) : List Str := es.toList.map fun e => match e.key with | .str x _ => x | _ => Str.empty
structure KdT (K : PySem.W.Frag) (w : World) (d : Addr) (es : Array DictEntry) (n : Nat) (ks : List Str) : Prop where
  kd : KDict K w d es n
  keys : keysT es = ks
theorem KdT.none {K : PySem.W.Frag} {w : World} {d : Addr} {es : Array DictEntry} {n : Nat} {ks : List Str} (D : KdT K w d es n ks) {z : Str} (h : z ∉ ks) : PySem.W.nsIn K d z = some Option.none := by
  have lit := D.kd.lit
  have keys := D.keys
  unfold PySem.W.nsIn
  rw [D.kd.at_]
  have key : ∀ l : List DictEntry, PySem.W.KeysLit w.params l → (∀ e ∈ l, ∀ x t, e.key = .str x t → x ≠ z) → l.find? (·.key.isStr z) = Option.none ∧ l.any (·.refKey) = false := by
    intro l
    induction l with
    | nil => intro _ _; exact ⟨rfl, rfl⟩
    | cons e l ih =>
      intro hl hz
      obtain ⟨⟨x, t, hk, _⟩, hl⟩ := hl
      obtain ⟨h1, h2⟩ := ih hl fun e he => hz e (List.mem_cons_of_mem _ he)
      have hx := hz e List.mem_cons_self x t hk
      have e1 : e.key.isStr z = false := by
        rw [hk, PySem.W.isStr_of]
        simpa [Value.isStrOf] using hx
      have e2 : e.refKey = false := by
        unfold DictEntry.refKey
        rw [hk]
      refine ⟨?_, ?_⟩
      · rw [List.find?_cons_of_neg (by rw [e1]; decide)]
        exact h1
      · rw [List.any_cons, e2, h2]
        rfl
  have hne : ∀ e ∈ es.toList, ∀ x t, e.key = .str x t → x ≠ z := fun e he x t hk hx => h (by
    rw [← keys]
    unfold keysT
    refine List.mem_map.mpr ⟨e, he, ?_⟩
    rw [hk]
    exact hx)
  obtain ⟨h1, h2⟩ := key es.toList lit hne
  simp only [h1, h2]
  rfl

/-! ### a method that may raise, called in a try's body -/
def tMethS (C : Addr) (m : Str) (sp : Sp) (E : L2.St → XK) (ta : TE) (t : TA) : TE := fun σ H Q => ta σ H fun x H1 => ∃ a dx fs, x = .ref a ∧ H1 a = some (.ins C dx fs) ∧ fs.lookup m = none ∧ t σ H1 fun vs H2 => sp (x :: vs) H2 Q (E σ)
section
variable {X : Cx} {k j : Nat} {C : Addr} {m : Str} {sp : Sp} {E : L2.St → XK} {pos apos : Pos} {e o : Expr} {es : List Expr} {ta : TE} {t : TA}
theorem pe_mtXS {pl : Sem Bool} (c : MetX X.prog X.w X.K X.mg X.base k C m sp) (hr : Room j X.A) (hk : k ≤ j) (hx : ∀ σ, PassesAt (L2.CX X.prog X.w) X σ (E σ)) (he : PE X o ta) (ha : PA X (e :: es) t)
    (hst : starEach (e :: es) X.env = (false, eval e X.env) :: starEach es X.env := by rfl) (hpl : (backTo pos (starEach es X.env)).any (·.1) = false := by rfl)
    (ht : eval (.Call (.Attribute o m apos) (e :: es) [] pos) X.env = (do
      let ov ← eval o X.env
      standAt apos.atName
      let (f, first) ← holding [ov] (getMethod ov m pl)
      callWith pos f first (backTo pos (starEach (e :: es) X.env)) (backToKw pos (keywordEach [] X.env))) := by rfl) :
    PE X (.Call (.Attribute o m apos) (e :: es) [] pos) (tMethS C m sp E ta t) := by
  obtain ⟨f, fd, ps, hc, hm, F, b⟩ := c.ex
  refine ⟨fun pins s σ H Q I h => PySem.W.methodCall_KW (pl := pl) (thn (he.run pins s σ H _ I h) fun u s1 z => ?_) ht⟩
  obtain ⟨x, H1, I1, rx, a, dx, fs, ex, ea, l, q⟩ := z
  subst ex
  cases (show u = Value.ref a from rx)
  refine getmeth_ok I1 ea hc hm l (PySem.W.callWith_K (first := [.ref a]) (h₀ := X.base) I.ok.mod.kin hm.kp (thn (ha.run pos pins s1 σ H1 _ I1 q) fun us s2 z => ?_) hst hpl)
  obtain ⟨vs, H2, I2, r, q2⟩ := z
  exact ⟨I2.kIn, run_fnS (us := .ref a :: us) (vs := .ref a :: vs) F (hr.mono hk) b (hx σ) I2 (.cons rfl r) q2⟩
end
end VL

set_option Elab.async false
set_option linter.all false
set_option maxRecDepth 100000
set_option maxHeartbeats 4000000
namespace VL
open PySem PySem.Spec PyProof.Rows L2
/-! ### list(d.values()) -/
def valuesO (p d : Addr) : HO := .ext fun h => h.IsValuesView p d
theorem valuesO_ok {P : Program} {w : World} {H : Hp} {h : Heap} {p d : Addr} (hp : h.get? p = some { cls := .type "dict_values", data := .fields #[.ref d] }) : ObjOk P w H h p (valuesO p d) := by
  refine ⟨⟨_, hp, rfl, rfl⟩, ⟨_, hp⟩, ?_⟩
  rintro h1 h2 ⟨o, ho, hc, hd⟩ k
  exact ⟨o, k o ho, hc, hd⟩
section
variable {X : Cx}
def rValuesK : V → List V → Hp → VK → Prop := fun x xs H Q => ∃ (a : Addr) (kvs : List (Key × V)), x = .ref a ∧ xs = [] ∧ H a = some (.dK kvs) ∧ ∀ p, H p = none → Q (.ref p) (upd H p (valuesO p a))
theorem mt_valuesK : MtR X "dict.values" rValuesK := by
  intro pins s σ H x xs v us Q I rx rxs h
  obtain ⟨a, kvs, rfl, rfl, ha, q⟩ := h
  cases rx
  cases rxs
  obtain ⟨z, hd, xs', rel, hdo⟩ := dk_of I.hok ha
  obtain ⟨es, ep, raw, hsz, hget⟩ := hdo.raw
  have raw' := raw
  obtain ⟨o, ho, hx, hdat⟩ := raw'
  refine call_meetsIn PySem.F.slot_dict_values ⟨_, ho, hx.1⟩ PySem.F.entry_dict_values (PySem.F.args_dict_values_1 _) (meets_dict_values_raw a hd) ⟨⟨es, ep, raw⟩, ?_⟩
  have hf : H s.heap.objs.size = none := I.hok.fresh (Nat.le_refl _)
  exact ⟨.ref s.heap.objs.size, upd H s.heap.objs.size (valuesO s.heap.objs.size a), I.laid (t' := s.toks) (fun b u e => Heap.get?_push_of_some _ e) (Nat.le_refl _) (valuesO_ok (Heap.get?_push_size _ rfl)), rfl, q _ hf⟩
theorem call_listV (hc : X.calm = true) : CallR X (.type "list") fun xs H Q => ∃ (p a : Addr) (kvs : List (Key × V)), xs = [.ref p] ∧ H p = some (valuesO p a) ∧ H a = some (.dK kvs) ∧ ∀ l, H l = none → Q (.ref l) (upd H l (.lst (kvs.map (·.2)))) := by
  intro pins s σ H vs us Q I r h
  obtain ⟨p, a, kvs, rfl, hp, ha, q⟩ := h
  obtain ⟨u, rfl, ru⟩ := vals1 r
  obtain rfl : u = Value.ref p := ru
  have view : s.heap.IsValuesView p a := (show ObjOk X.prog X.w H s.heap p (valuesO p a) from I.hok p _ hp).1
  obtain ⟨z, hd, xs', rel, hdo⟩ := dk_of I.hok ha
  obtain ⟨es, ep, raw, hsz, hget⟩ := hdo.raw
  have hl := rel.length
  refine W.kdl_call (KdlSrc.rawValues (es := es) (ep := ep)) (I.ok.hd hc) ⟨view, raw⟩ (by omega) fun h' tk acc c hk hS hI => ?_
  have hf : H s.heap.objs.size = none := I.hok.fresh (Nat.le_refl _)
  have rv : Vals (kvs.map (·.2)) acc.toList := by
    have e : acc.toList = xs'.map (·.2) := by
      refine List.ext_getElem? fun j => ?_
      rw [Array.getElem?_toList, List.getElem?_map]
      by_cases hj : j < es.size
      · have ha' : j < acc.size := by rw [hI.1]; exact hj
        have hx : j < xs'.length := by omega
        obtain ⟨hi, hv⟩ := hI.2 j acc[j] (Array.getElem?_eq_getElem ha')
        rw [Array.getElem?_eq_getElem ha', List.getElem?_eq_getElem hx, hv]
        exact congrArg some (hget j hi xs'[j].1 xs'[j].2 (List.getElem?_eq_getElem hx)).2
      · rw [Array.getElem?_eq_none (by rw [hI.1]; omega), List.getElem?_eq_none (by omega)]
        rfl
    rw [e]
    exact kv_vals rel
  exact ⟨.ref s.heap.objs.size, upd H s.heap.objs.size (.lst (kvs.map (·.2))), I.laid (t' := tk) hk (Nat.le_refl _) (show ObjOk X.prog X.w _ _ _ (.lst _) from ⟨by rw [List.length_map]; exact z, acc.toList, c, rv, by rw [Array.toArray_toList]; exact hS⟩), rfl, q _ hf⟩
/-! ### len of a dict that may be locked -/
theorem rd_ok {pins : List (Addr × Obj)} {σ : L2.St} {H : Hp} {s : Shared} (I : Inv X pins σ H s) {a : Addr} {kvs : List (Key × V)} (h : Rd H a (.dK kvs)) : kvs.length ≤ sizeLine ∧ (a == sysModules) = false ∧ ∃ vs, KV kvs vs ∧ Heap.DictOf (mixKind X.prog X.w) s.heap a vs := by
  rcases h with h | ⟨o, h⟩
  · exact dk_of I.hok h
  · obtain ⟨_, h1, h2, vs, h3, h4⟩ := (show ObjOk X.prog X.w H s.heap a (.frz o (.dK kvs)) from I.hok a _ h)
    exact ⟨h1, h2, vs, h3, h4⟩
theorem call_lenR : CallR X (.builtin "len") fun xs H Q => ∃ (a : Addr) (kvs : List (Key × V)), xs = [.ref a] ∧ Rd H a (.dK kvs) ∧ Q (.int (kvs.length : Int)) H := by
  intro pins s σ H vs us Q I r h
  obtain ⟨a, kvs, rfl, ha, q⟩ := h
  obtain ⟨u, rfl, ru⟩ := vals1 r
  obtain rfl : u = Value.ref a := ru
  obtain ⟨z, hd, xs', rel, hdo⟩ := rd_ok I ha
  have hl := rel.length
  have big : sizeLine < 2 ^ 63 := by decide
  refine call_len_dict hd hdo (by omega) ?_
  exact ⟨.int (kvs.length : Int), H, I.kept (fun _ _ e => e), ⟨_, by rw [hl]⟩, q⟩
end
end VL

set_option Elab.async false
set_option linter.all false
set_option maxRecDepth 100000
set_option maxHeartbeats 4000000
namespace VL
open PySem PySem.Spec PyProof.Rows L2
theorem small_str {x : Str} {c : Nat} (h : (reprText x).length ≤ c) : Small c 0 (.str x) := ⟨rfl, Nat.le_refl _, h⟩
theorem small_t {k : Nat} {ds : List PyData} {c : Nat} (h : ∀ d ∈ ds, PyData.showable d = true ∧ PyData.depth d ≤ k) (hl : piled (PyData.shownAll ds) ≤ c) : Small (3 + c) (k + 1) (.tuple ds) := by
  refine ⟨?_, ?_, ?_⟩
  · show PyData.showableAll ds = true
    exact shAll_mem fun d hd => (h d hd).1
  · show PyData.depthAll ds + 1 ≤ k + 1
    have := dpAll_mem fun d hd => (h d hd).2
    omega
  · show (tupleText (PyData.shownAll ds)).length ≤ _
    have h1 := tupText_le (PyData.shownAll ds)
    omega
theorem small_t4 {a b c d : PyData} {x y z u k : Nat} (ha : Small x k a) (hb : Small y k b) (hc : Small z k c) (hd : Small u k d) : Small (11 + x + y + z + u) (k + 1) (.tuple [a, b, c, d]) := by
  have := small_t (ds := [a, b, c, d]) (k := k) (c := x + 2 + (y + 2) + (z + 2) + (u + 2)) (fun d hd => by
    simp only [List.mem_cons, List.not_mem_nil, or_false] at hd
    rcases hd with rfl | rfl | rfl | rfl
    · exact ⟨ha.sh, ha.dp⟩
    · exact ⟨hb.sh, hb.dp⟩
    · exact ⟨hc.sh, hc.dp⟩
    · exact ⟨hd.sh, hd.dp⟩) (by
    have := ha.ln
    have := hb.ln
    have := hc.ln
    have := hd.ln
    simp only [PyData.shownAll, piled, List.map_cons, List.map_nil, List.sum_cons, List.sum_nil]
    omega)
  exact this.mono (by omega) (Nat.le_refl _)

/-! ### values -/
inductive Val where
  | nul
  | bl (b : Bool)
  | num (i : Int)
  | txt (x : Str)
  | lst (vs : List Val)
  | rc (ks : List Str) (vs : List Val)
  | act (o : Int) (n : Str) (vs : List Val)
def zipS : List Str → List PyData → List (PyData × PyData)
  | k :: ks, d :: ds => (.str k, d) :: zipS ks ds
  | _, _ => []
mutual
def enc : Val → PyData
  | .nul => .none
  | .bl b => .bool b
  | .num i => .int i
  | .txt x => .str x
  | .lst vs => .list (encs vs)
  | .rc ks vs => .dict (zipS ks (encs vs))
  | .act o n vs => .tuple [.str "act", .int o, .str n, .list (encs vs)]
def encs : List Val → List PyData
  | [] => []
  | d :: r => enc d :: encs r
end
theorem encs_len : ∀ vs : List Val, (encs vs).length = vs.length
  | [] => by simp [encs]
  | d :: r => by simp [encs, encs_len r]
mutual
/-- how a value stands on the heap -/
def VH (H : Hp) : Val → V → Prop
  | .nul, v => v = .non
  | .bl b, v => v = .bl b
  | .num i, v => v = .int i
  | .txt x, v => v = .str x
  | .lst vs, v => ∃ a xs, v = .ref a ∧ H a = some (.lst xs) ∧ VHs H vs xs
  | .rc ks vs, v => ∃ a kvs, v = .ref a ∧ H a = some (.dK kvs) ∧ kvs.map (·.1) = ks.map Sum.inr ∧ ks.Nodup ∧ VHs H vs (kvs.map (·.2))
  | .act o n vs, v => ∃ a l xs, v = .ref a ∧ H a = some (.tup [.str "act", .int o, .str n, .ref l]) ∧ H l = some (.lst xs) ∧ VHs H vs xs
def VHs (H : Hp) : List Val → List V → Prop
  | [], xs => xs = []
  | d :: ds, xs => ∃ x ys, xs = x :: ys ∧ VH H d x ∧ VHs H ds ys
end
mutual
theorem VH_same {H H' : Hp} (s : Same H H') : ∀ (d : Val) (v : V), VH H d v → VH H' d v
  | .nul, v, h => by simpa only [VH] using h
  | .bl b, v, h => by simpa only [VH] using h
  | .num i, v, h => by simpa only [VH] using h
  | .txt x, v, h => by simpa only [VH] using h
  | .lst vs, v, h => by
    simp only [VH] at h ⊢
    obtain ⟨a, xs, e, h1, h2⟩ := h
    exact ⟨a, xs, e, s _ _ h1, VHs_same s vs xs h2⟩
  | .rc ks vs, v, h => by
    simp only [VH] at h ⊢
    obtain ⟨a, kvs, e, h1, h2, h3, h4⟩ := h
    exact ⟨a, kvs, e, s _ _ h1, h2, h3, VHs_same s vs _ h4⟩
  | .act o n vs, v, h => by
    simp only [VH] at h ⊢
    obtain ⟨a, l, xs, e, h1, h2, h3⟩ := h
    exact ⟨a, l, xs, e, s _ _ h1, s _ _ h2, VHs_same s vs xs h3⟩
theorem VHs_same {H H' : Hp} (s : Same H H') : ∀ (ds : List Val) (xs : List V), VHs H ds xs → VHs H' ds xs
  | [], xs, h => by simpa only [VHs] using h
  | d :: ds, xs, h => by
    simp only [VHs] at h ⊢
    obtain ⟨x, ys, e, h1, h2⟩ := h
    exact ⟨x, ys, e, VH_same s d x h1, VHs_same s ds ys h2⟩
end
theorem VH.same {H H' : Hp} {d : Val} {v : V} (h : VH H d v) (s : Same H H') : VH H' d v := VH_same s d v h
theorem VHs.same {H H' : Hp} {ds : List Val} {xs : List V} (h : VHs H ds xs) (s : Same H H') : VHs H' ds xs := VHs_same s ds xs h
theorem VHs.len {H : Hp} : ∀ {ds : List Val} {xs : List V}, VHs H ds xs → xs.length = ds.length
  | [], xs, h => by
    simp only [VHs] at h
    rw [h]
    rfl
  | d :: ds, xs, h => by
    simp only [VHs] at h
    obtain ⟨x, ys, e, _, h2⟩ := h
    rw [e, List.length_cons, List.length_cons, VHs.len h2]
theorem VHs.nil {H : Hp} : VHs H [] [] := by simp only [VHs]
theorem VHs.cons {H : Hp} {d : Val} {v : V} {ds : List Val} {xs : List V} (h : VH H d v) (hs : VHs H ds xs) : VHs H (d :: ds) (v :: xs) := by
  simp only [VHs]
  exact ⟨v, xs, rfl, h, hs⟩
theorem VHs.app {H : Hp} : ∀ {ds es : List Val} {xs ys : List V}, VHs H ds xs → VHs H es ys → VHs H (ds ++ es) (xs ++ ys)
  | [], es, xs, ys, h, g => by
    simp only [VHs] at h
    rw [h]
    exact g
  | d :: ds, es, xs, ys, h, g => by
    simp only [VHs] at h
    obtain ⟨x, zs, e, h1, h2⟩ := h
    rw [e]
    exact VHs.cons h1 (VHs.app h2 g)
theorem VHs.snoc {H : Hp} {ds : List Val} {xs : List V} {d : Val} {v : V} (h : VHs H ds xs) (g : VH H d v) : VHs H (ds ++ [d]) (xs ++ [v]) := h.app (.cons g .nil)
theorem VHs.get {H : Hp} : ∀ {ds : List Val} {xs : List V} {i : Nat} {x : V}, VHs H ds xs → xs[i]? = some x → ∃ d, ds[i]? = some d ∧ VH H d x
  | [], xs, i, x, h, e => by
    simp only [VHs] at h
    rw [h] at e
    cases e
  | d :: ds, xs, i, x, h, e => by
    simp only [VHs] at h
    obtain ⟨y, ys, e1, h1, h2⟩ := h
    rw [e1] at e
    cases i with
    | zero => exact ⟨d, rfl, by obtain rfl := Option.some.inj e; exact h1⟩
    | succ i =>
      obtain ⟨d', e', h'⟩ := VHs.get h2 (i := i) (x := x) (by simpa using e)
      exact ⟨d', by simpa using e', h'⟩
theorem VHs.get' {H : Hp} {ds : List Val} {xs : List V} {i : Nat} {d : Val} (h : VHs H ds xs) (e : ds[i]? = some d) : ∃ x, xs[i]? = some x ∧ VH H d x := by
  have hi := (List.getElem?_eq_some_iff.mp e).1
  have hx : i < xs.length := by rw [h.len]; exact hi
  obtain ⟨d', e', h'⟩ := h.get (List.getElem?_eq_getElem hx)
  rw [e] at e'
  obtain rfl := Option.some.inj e'
  exact ⟨_, List.getElem?_eq_getElem hx, h'⟩
mutual
theorem VH_dq {H : Hp} : ∀ (d : Val) (v : V), VH H d v → Dq H v (enc d)
  | .nul, v, h => by
    simp only [VH] at h
    rw [h, enc]
    exact .non
  | .bl b, v, h => by
    simp only [VH] at h
    rw [h, enc]
    exact .bl b
  | .num i, v, h => by
    simp only [VH] at h
    rw [h, enc]
    exact .int i
  | .txt x, v, h => by
    simp only [VH] at h
    rw [h, enc]
    exact .str x
  | .lst vs, v, h => by
    simp only [VH] at h
    obtain ⟨a, xs, e, h1, h2⟩ := h
    rw [e, enc]
    exact .lst h1 (VHs_dq vs xs h2)
  | .rc ks vs, v, h => by
    simp only [VH] at h
    obtain ⟨a, kvs, e, h1, h2, h3, h4⟩ := h
    rw [e, enc]
    have nd : (kvs.map (·.1)).Nodup := by
      rw [h2]
      exact List.Pairwise.map _ (fun a b z q => z (Sum.inr.inj q)) h3
    have z : zipK kvs (encs vs) = zipS ks (encs vs) := by
      clear h1 h3 h4 nd
      generalize encs vs = ds
      induction kvs generalizing ks ds with
      | nil =>
        cases ks with
        | nil => cases ds <;> simp [zipK, zipS]
        | cons k ks => simp at h2
      | cons p kvs ih =>
        cases ks with
        | nil => simp at h2
        | cons k ks =>
          simp only [List.map_cons, List.cons.injEq] at h2
          cases ds with
          | nil => simp [zipK, zipS]
          | cons d ds =>
            simp only [zipK, zipS, h2.1, ih ks h2.2 ds]
            rfl
    rw [← z]
    exact .dic h1 nd (VHs_dq vs _ h4)
  | .act o n vs, v, h => by
    simp only [VH] at h
    obtain ⟨a, l, xs, e, h1, h2, h3⟩ := h
    rw [e, enc]
    exact .tup h1 (.cons (.str _) (.cons (.int o) (.cons (.str n) (.cons (.lst h2 (VHs_dq vs xs h3)) .nil))))
theorem VHs_dq {H : Hp} : ∀ (ds : List Val) (xs : List V), VHs H ds xs → DqAll H xs (encs ds)
  | [], xs, h => by
    simp only [VHs] at h
    rw [h, encs]
    exact .nil
  | d :: ds, xs, h => by
    simp only [VHs] at h
    obtain ⟨x, ys, e, h1, h2⟩ := h
    rw [e, encs]
    exact .cons (VH_dq d x h1) (VHs_dq ds ys h2)
end
mutual
def okV : Val → Nat → Prop
  | .nul, _ => True
  | .bl _, _ => True
  | .num i, _ => Small 60 0 (.int i) ∧ -(10 ^ 31) < i ∧ i < 10 ^ 31
  | .txt x, _ => Small 60 0 (.str x) ∧ x.length ≤ 5
  | .lst vs, n => ∃ m, n = m + 1 ∧ vs.length ≤ 4 ∧ okVs vs m
  | .rc ks vs, n => ∃ m, n = m + 1 ∧ vs.length ≤ 4 ∧ ks.length = vs.length ∧ ks.Nodup ∧ (∀ k ∈ ks, Small 60 0 (.str k) ∧ k.length ≤ 5) ∧ okVs vs m
  | .act o x vs, n => ∃ m, n = m + 1 ∧ Small 60 0 (.int o) ∧ (Small 60 0 (.str x) ∧ x.length ≤ 5) ∧ vs.length ≤ 4 ∧ okVs vs m
def okVs : List Val → Nat → Prop
  | [], _ => True
  | d :: ds, n => okV d n ∧ okVs ds n
end
mutual
theorem okV_mono : ∀ (d : Val) {n m : Nat}, n ≤ m → okV d n → okV d m
  | .nul, n, m, l, h => by simp only [okV]
  | .bl b, n, m, l, h => by simp only [okV]
  | .num i, n, m, l, h => by simpa only [okV] using h
  | .txt x, n, m, l, h => by simpa only [okV] using h
  | .lst vs, n, m, l, h => by
    simp only [okV] at h ⊢
    obtain ⟨k, e, h1, h2⟩ := h
    exact ⟨m - 1, by omega, h1, okVs_mono vs (by omega) h2⟩
  | .rc ks vs, n, m, l, h => by
    simp only [okV] at h ⊢
    obtain ⟨k, e, h1, h2, h3, h4, h5⟩ := h
    exact ⟨m - 1, by omega, h1, h2, h3, h4, okVs_mono vs (by omega) h5⟩
  | .act o x vs, n, m, l, h => by
    simp only [okV] at h ⊢
    obtain ⟨k, e, h1, h2, h3, h4⟩ := h
    exact ⟨m - 1, by omega, h1, h2, h3, okVs_mono vs (by omega) h4⟩
theorem okVs_mono : ∀ (ds : List Val) {n m : Nat}, n ≤ m → okVs ds n → okVs ds m
  | [], n, m, l, h => by simp only [okVs]
  | d :: ds, n, m, l, h => by
    simp only [okVs] at h ⊢
    exact ⟨okV_mono d l h.1, okVs_mono ds l h.2⟩
end
theorem okVs_app : ∀ {a b : List Val} {n : Nat}, okVs (a ++ b) n ↔ okVs a n ∧ okVs b n
  | [], b, n => by simp [okVs]
  | d :: a, b, n => by simp [okVs, okVs_app (a := a), and_assoc]
theorem okVs_mem : ∀ {ds : List Val} {n : Nat} {d : Val}, okVs ds n → d ∈ ds → okV d n
  | e :: ds, n, d, h, hm => by
    simp only [okVs] at h
    rcases List.mem_cons.mp hm with rfl | hm
    · exact h.1
    · exact okVs_mem h.2 hm
theorem okVs_get {ds : List Val} {n i : Nat} {d : Val} (h : okVs ds n) (e : ds[i]? = some d) : okV d n := okVs_mem h (List.mem_of_getElem? e)
/-! ### how large a value's text is -/
def szB : Nat → Nat
  | 0 => 60
  | n + 1 => 8 * szB n + 18
theorem szB_ge : ∀ n, 60 ≤ szB n
  | 0 => Nat.le_refl _
  | n + 1 => by
    have := szB_ge n
    simp only [szB]
    omega
theorem s_act : (reprText "act").length ≤ 60 := by decide +kernel
mutual
theorem sm_V : ∀ (d : Val) (n : Nat), okV d n → Small (szB n) (2 * n) (enc d)
  | .nul, n, h => by
    rw [enc]
    exact ⟨rfl, Nat.zero_le _, Nat.le_trans (show (PyData.shown .none).length ≤ 60 by decide +kernel) (szB_ge n)⟩
  | .bl b, n, h => by
    rw [enc]
    refine ⟨rfl, Nat.zero_le _, Nat.le_trans (show (PyData.shown (.bool b)).length ≤ 60 by cases b <;> decide +kernel) (szB_ge n)⟩
  | .num i, n, h => by
    simp only [okV] at h
    rw [enc]
    exact h.1.mono (szB_ge n) (Nat.zero_le _)
  | .txt x, n, h => by
    simp only [okV] at h
    rw [enc]
    exact h.1.mono (szB_ge n) (Nat.zero_le _)
  | .lst vs, n, h => by
    simp only [okV] at h
    obtain ⟨m, rfl, h1, h2⟩ := h
    rw [enc]
    have := szB_ge m
    exact (small_list (sm_Vs vs m h2) (by rw [encs_len]; exact h1)).mono (by simp only [szB]; omega) (by omega)
  | .rc ks vs, n, h => by
    simp only [okV] at h
    obtain ⟨m, rfl, h1, h2, h3, h4, h5⟩ := h
    rw [enc]
    have := szB_ge m
    have zl : (zipS ks (encs vs)).length ≤ 4 ∧ ∀ p ∈ zipS ks (encs vs), (∃ k ∈ ks, p.1 = .str k) ∧ p.2 ∈ encs vs := by
      have e : (encs vs).length ≤ 4 := by rw [encs_len]; exact h1
      revert e
      generalize encs vs = ds
      clear h1 h2 h3 h4 h5
      intro e
      induction ks generalizing ds with
      | nil => cases ds <;> simp [zipS]
      | cons k ks ih =>
        cases ds with
        | nil => simp [zipS]
        | cons d ds =>
          simp only [zipS, List.length_cons]
          have hl : (zipS ks ds).length ≤ ds.length := by
            clear ih e
            induction ks generalizing ds with
            | nil => cases ds <;> simp [zipS]
            | cons k ks ih =>
              cases ds with
              | nil => simp [zipS]
              | cons d ds =>
                have := ih ds
                simp only [zipS, List.length_cons]
                omega
          simp only [List.length_cons] at e
          refine ⟨by omega, fun p hp => ?_⟩
          rcases List.mem_cons.mp hp with rfl | hp
          · exact ⟨⟨k, List.mem_cons_self, rfl⟩, List.mem_cons_self⟩
          · obtain ⟨⟨k', a, b⟩, c⟩ := (ih ds (by omega)).2 p hp
            exact ⟨⟨k', List.mem_cons_of_mem _ a, b⟩, List.mem_cons_of_mem _ c⟩
    refine (small_dict (c := szB m) (k := 2 * m) (fun p hp => ?_) zl.1).mono (by simp only [szB]; omega) (by omega)
    obtain ⟨⟨k, a, b⟩, c⟩ := zl.2 p hp
    rw [b]
    exact ⟨(h4 k a).1.mono this (Nat.zero_le _), sm_Vs vs m h5 _ c⟩
  | .act o x vs, n, h => by
    simp only [okV] at h
    obtain ⟨m, rfl, h1, h2, h3, h4⟩ := h
    rw [enc]
    have := szB_ge m
    have hl := small_list (sm_Vs vs m h4) (n := 4) (by rw [encs_len]; exact h3)
    exact (small_t4 (k := 2 * m + 1) ((small_str s_act).mono (Nat.le_refl _) (by omega)) (h1.mono (Nat.le_refl _) (by omega)) (h2.1.mono (Nat.le_refl _) (by omega)) hl).mono (by simp only [szB]; omega) (by omega)
theorem sm_Vs : ∀ (ds : List Val) (n : Nat), okVs ds n → ∀ p ∈ encs ds, Small (szB n) (2 * n) p
  | [], n, h, p, hp => by simp [encs] at hp
  | d :: ds, n, h, p, hp => by
    simp only [okVs] at h
    simp only [encs] at hp
    rcases List.mem_cons.mp hp with rfl | hp
    · exact sm_V d n h.1
    · exact sm_Vs ds n h.2 p hp
end
end VL

set_option Elab.async false
set_option linter.all false
set_option maxRecDepth 100000
set_option maxHeartbeats 4000000
namespace VL
open PySem PySem.Spec PyProof.Rows L2
/-! ### what same, depth and size tell -/
def lookV : List Str → List Val → Str → Option Val
  | k :: ks, d :: ds, x => if k = x then some d else lookV ks ds x
  | _, _, _ => none
mutual
def sameV : Val → Val → Bool
  | .nul, e => match e with
    | .nul => true
    | _ => false
  | .bl a, e => match e with
    | .bl b => decide (a = b)
    | _ => false
  | .num a, e => match e with
    | .num b => decide (a = b)
    | _ => false
  | .txt a, e => match e with
    | .txt b => decide (a = b)
    | _ => false
  | .lst vs, e => match e with
    | .lst ws => sameL vs ws
    | _ => false
  | .rc ks vs, e => match e with
    | .rc ls ws => decide (ks.length = ls.length) && sameR vs ks ls ws
    | _ => false
  | .act o n vs, e => match e with
    | .act p m ws => decide (o = p) && (decide (n = m) && sameL vs ws)
    | _ => false
def sameL : List Val → List Val → Bool
  | [], ws => ws.isEmpty
  | v :: vs, ws => match ws with
    | [] => false
    | w :: ws => sameV v w && sameL vs ws
def sameR : List Val → List Str → List Str → List Val → Bool
  | [], _, _, _ => true
  | v :: vs, ks, ls, ws => match ks with
    | [] => true
    | k :: ks => (match lookV ls ws k with
      | some w => sameV v w
      | none => false) && sameR vs ks ls ws
end
theorem lookV_some : ∀ {ls : List Str} {ws : List Val} {k : Str} {w : Val}, lookV ls ws k = some w → ∃ i : Nat, ls[i]? = some k ∧ ws[i]? = some w
  | [], ws, k, w, h => by simp [lookV] at h
  | l :: ls, [], k, w, h => by simp [lookV] at h
  | l :: ls, w' :: ws, k, w, h => by
    simp only [lookV] at h
    by_cases e : l = k
    · rw [if_pos e] at h
      exact ⟨0, by rw [e]; rfl, by rw [Option.some.inj h]; rfl⟩
    · rw [if_neg e] at h
      obtain ⟨i, h1, h2⟩ := lookV_some h
      exact ⟨i + 1, by simpa using h1, by simpa using h2⟩
theorem lookV_at : ∀ {ls : List Str} {ws : List Val} {k : Str} {w : Val} {i : Nat}, ls.Nodup → ls[i]? = some k → ws[i]? = some w → lookV ls ws k = some w
  | [], ws, k, w, i, nd, h1, h2 => by simp at h1
  | l :: ls, [], k, w, i, nd, h1, h2 => by simp at h2
  | l :: ls, w' :: ws, k, w, i, nd, h1, h2 => by
    have nd' := List.nodup_cons.mp nd
    simp only [lookV]
    cases i with
    | zero =>
      obtain rfl : l = k := Option.some.inj h1
      obtain rfl : w' = w := Option.some.inj h2
      rw [if_pos rfl]
    | succ i =>
      have h1' : ls[i]? = some k := by simpa using h1
      have h2' : ws[i]? = some w := by simpa using h2
      have ne : ¬ l = k := fun z => nd'.1 (by rw [z]; exact List.mem_of_getElem? h1')
      rw [if_neg ne]
      exact lookV_at nd'.2 h1' h2'
theorem lookV_none {ls : List Str} {ws : List Val} {k : Str} (hl : ls.length = ws.length) (nd : ls.Nodup) : lookV ls ws k = none ↔ k ∉ ls := by
  constructor
  · intro h hm
    obtain ⟨i, hi⟩ := List.getElem?_of_mem hm
    have hi' := (List.getElem?_eq_some_iff.mp hi).1
    rw [lookV_at nd hi (List.getElem?_eq_getElem (by omega : i < ws.length))] at h
    cases h
  · intro h
    cases e : lookV ls ws k with
    | none => rfl
    | some w =>
      obtain ⟨i, h1, _⟩ := lookV_some e
      exact absurd (List.mem_of_getElem? h1) h
theorem sameR_iff {ls : List Str} {ws : List Val} : ∀ {vs : List Val} {ks : List Str}, ks.length = vs.length → (sameR vs ks ls ws = true ↔ ∀ (i : Nat) (k : Str) (v : Val), ks[i]? = some k → vs[i]? = some v → ∃ w, lookV ls ws k = some w ∧ sameV v w = true)
  | [], ks, h => by simp [sameR]
  | v :: vs, [], h => by simp at h
  | v :: vs, k :: ks, h => by
    have ih := sameR_iff (ls := ls) (ws := ws) (vs := vs) (ks := ks) (by simpa using h)
    simp only [sameR, Bool.and_eq_true, ih]
    constructor
    · rintro ⟨h1, h2⟩ i k' v' e1 e2
      cases i with
      | zero =>
        obtain rfl : k = k' := Option.some.inj e1
        obtain rfl : v = v' := Option.some.inj e2
        cases e : lookV ls ws k with
        | none => rw [e] at h1; exact nomatch h1
        | some w => rw [e] at h1; exact ⟨w, rfl, h1⟩
      | succ i => exact h2 i k' v' (by simpa using e1) (by simpa using e2)
    · intro hh
      refine ⟨?_, fun i k' v' e1 e2 => hh (i + 1) k' v' (by simpa using e1) (by simpa using e2)⟩
      obtain ⟨w, e1, e2⟩ := hh 0 k v rfl rfl
      rw [e1]
      exact e2
theorem sub_lenS {l m : List Str} (n : l.Nodup) (h : ∀ x ∈ l, x ∈ m) : l.length ≤ m.length := by
  induction l generalizing m with
  | nil => exact Nat.zero_le _
  | cons a r ih =>
    have n' := List.nodup_cons.mp n
    have ha := h a List.mem_cons_self
    have := ih (m := m.erase a) n'.2 fun x hx => (List.mem_erase_of_ne (fun z => n'.1 (by rw [← z]; exact hx))).mpr (h x (List.mem_cons_of_mem _ hx))
    rw [List.length_erase_of_mem ha] at this
    have := List.length_pos_of_mem ha
    rw [List.length_cons]
    omega
theorem all_back {ks ls : List Str} (n : ks.Nodup) (hl : ks.length = ls.length) (h : ∀ x ∈ ks, x ∈ ls) : ∀ x ∈ ls, x ∈ ks := fun x hx => by
  refine Classical.byContradiction fun hn => ?_
  have := sub_lenS (l := x :: ks) (m := ls) (List.nodup_cons.mpr ⟨hn, n⟩) fun y hy => by
    rcases List.mem_cons.mp hy with rfl | hy
    · exact hx
    · exact h y hy
  rw [List.length_cons] at this
  omega
mutual
theorem sameV_refl : ∀ (d : Val) {n : Nat}, okV d n → sameV d d = true
  | .nul, n, h => by simp [sameV]
  | .bl b, n, h => by simp [sameV]
  | .num i, n, h => by simp [sameV]
  | .txt x, n, h => by simp [sameV]
  | .lst vs, n, h => by
    simp only [okV] at h
    obtain ⟨m, _, _, h2⟩ := h
    simp only [sameV]
    exact sameL_refl vs h2
  | .rc ks vs, n, h => by
    simp only [okV] at h
    obtain ⟨m, _, _, h2, h3, _, h5⟩ := h
    simp only [sameV, decide_true, Bool.true_and]
    exact (sameR_iff h2).mpr fun i k v e1 e2 => ⟨v, lookV_at h3 e1 e2, sameV_reflM vs h5 v (List.mem_of_getElem? e2)⟩
  | .act o x vs, n, h => by
    simp only [okV] at h
    obtain ⟨m, _, _, _, _, h4⟩ := h
    simp only [sameV, decide_true, Bool.true_and]
    exact sameL_refl vs h4
theorem sameL_refl : ∀ (ds : List Val) {n : Nat}, okVs ds n → sameL ds ds = true
  | [], n, h => by simp [sameL]
  | d :: ds, n, h => by
    simp only [okVs] at h
    simp only [sameL, sameV_refl d h.1, sameL_refl ds h.2, Bool.true_and]
theorem sameV_reflM : ∀ (ds : List Val) {n : Nat}, okVs ds n → ∀ d ∈ ds, sameV d d = true
  | [], n, h, d, hd => by simp at hd
  | e :: ds, n, h, d, hd => by
    simp only [okVs] at h
    rcases List.mem_cons.mp hd with he | hd
    · rw [he]; exact sameV_refl e h.1
    · exact sameV_reflM ds h.2 d hd
end
mutual
theorem sameV_symm : ∀ (d e : Val) {n m : Nat}, okV d n → okV e m → sameV d e = true → sameV e d = true
  | .nul, e, n, m, h, g, q => by cases e <;> simp_all [sameV]
  | .bl b, e, n, m, h, g, q => by cases e <;> simp_all [sameV]
  | .num i, e, n, m, h, g, q => by cases e <;> simp_all [sameV]
  | .txt x, e, n, m, h, g, q => by cases e <;> simp_all [sameV]
  | .lst vs, e, n, m, h, g, q => by
    cases e with
    | lst ws =>
      simp only [sameV] at q ⊢
      simp only [okV] at h g
      obtain ⟨_, _, _, h2⟩ := h
      obtain ⟨_, _, _, g2⟩ := g
      exact sameL_symm vs ws h2 g2 q
    | _ => simp [sameV] at q
  | .rc ks vs, e, n, m, h, g, q => by
    cases e with
    | rc ls ws =>
      simp only [sameV, Bool.and_eq_true, decide_eq_true_eq] at q ⊢
      simp only [okV] at h g
      obtain ⟨_, _, _, h2, h3, _, h5⟩ := h
      obtain ⟨_, _, _, g2, g3, _, g5⟩ := g
      refine ⟨q.1.symm, ?_⟩
      have hq := (sameR_iff h2).mp q.2
      have sub : ∀ x ∈ ks, x ∈ ls := fun x hx => by
        obtain ⟨i, hi⟩ := List.getElem?_of_mem hx
        have hi' := (List.getElem?_eq_some_iff.mp hi).1
        obtain ⟨w, e1, _⟩ := hq i x _ hi (List.getElem?_eq_getElem (by omega : i < vs.length))
        obtain ⟨j, e2, _⟩ := lookV_some e1
        exact List.mem_of_getElem? e2
      have back := all_back h3 q.1 sub
      refine (sameR_iff g2).mpr fun j l w e1 e2 => ?_
      obtain ⟨i, hi⟩ := List.getElem?_of_mem (back l (List.mem_of_getElem? e1))
      have hi' := (List.getElem?_eq_some_iff.mp hi).1
      have hv : vs[i]? = some vs[i] := List.getElem?_eq_getElem (by omega : i < vs.length)
      refine ⟨vs[i], lookV_at h3 hi hv, ?_⟩
      obtain ⟨w', f1, f2⟩ := hq i l _ hi hv
      rw [lookV_at g3 e1 e2] at f1
      obtain rfl := Option.some.inj f1
      exact sameV_symmM vs h5 _ (List.mem_of_getElem? hv) _ (okVs_get g5 e2) f2
    | _ => simp [sameV] at q
  | .act o x vs, e, n, m, h, g, q => by
    cases e with
    | act p y ws =>
      simp only [sameV, Bool.and_eq_true, decide_eq_true_eq] at q ⊢
      simp only [okV] at h g
      obtain ⟨_, _, _, _, _, h4⟩ := h
      obtain ⟨_, _, _, _, _, g4⟩ := g
      exact ⟨q.1.symm, q.2.1.symm, sameL_symm vs ws h4 g4 q.2.2⟩
    | _ => simp [sameV] at q
theorem sameL_symm : ∀ (ds es : List Val) {n m : Nat}, okVs ds n → okVs es m → sameL ds es = true → sameL es ds = true
  | [], es, n, m, h, g, q => by
    cases es with
    | nil => simp [sameL]
    | cons e es => simp [sameL] at q
  | d :: ds, es, n, m, h, g, q => by
    cases es with
    | nil => simp [sameL] at q
    | cons e es =>
      simp only [sameL, Bool.and_eq_true] at q ⊢
      simp only [okVs] at h g
      exact ⟨sameV_symm d e h.1 g.1 q.1, sameL_symm ds es h.2 g.2 q.2⟩
theorem sameV_symmM : ∀ (ds : List Val) {n : Nat}, okVs ds n → ∀ d ∈ ds, ∀ (e : Val) {m : Nat}, okV e m → sameV d e = true → sameV e d = true
  | [], n, h, d, hd, e, m, g, q => by simp at hd
  | c :: ds, n, h, d, hd, e, m, g, q => by
    simp only [okVs] at h
    rcases List.mem_cons.mp hd with he | hd
    · rw [he] at q ⊢; exact sameV_symm c e h.1 g q
    · exact sameV_symmM ds h.2 d hd e g q
end
theorem sameV_comm {d e : Val} {n m : Nat} (h : okV d n) (g : okV e m) : sameV e d = sameV d e := by
  rw [Bool.eq_iff_iff]
  exact ⟨sameV_symm e d g h, sameV_symm d e h g⟩
def partsV : Val → List Val
  | .lst vs => vs
  | .rc _ vs => vs
  | .act _ _ vs => vs
  | _ => []
def wholeV : Val → Bool
  | .lst _ => true
  | .rc _ _ => true
  | .act _ _ _ => true
  | _ => false
def ownS : Val → Nat
  | .txt x => x.length + 1
  | .rc ks _ => (ks.map (·.length)).sum + 1
  | .act _ n _ => n.length + 1
  | _ => 1
mutual
def depthV : Val → Nat
  | .lst vs => 1 + depthL vs
  | .rc _ vs => 1 + depthL vs
  | .act _ _ vs => 1 + depthL vs
  | _ => 1
def depthL : List Val → Nat
  | [] => 0
  | d :: ds => max (depthV d) (depthL ds)
end
mutual
def sizeV : Val → Nat
  | .lst vs => ownS (.lst vs) + sizeL vs
  | .rc ks vs => ownS (.rc ks vs) + sizeL vs
  | .act o n vs => ownS (.act o n vs) + sizeL vs
  | d => ownS d
def sizeL : List Val → Nat
  | [] => 0
  | d :: ds => sizeV d + sizeL ds
end
theorem depthV_eq (d : Val) : depthV d = 1 + depthL (partsV d) := by cases d <;> simp [depthV, partsV, depthL]
theorem sizeV_eq (d : Val) : sizeV d = ownS d + sizeL (partsV d) := by cases d <;> simp [sizeV, partsV, sizeL]
theorem depthL_app : ∀ a b : List Val, depthL (a ++ b) = max (depthL a) (depthL b)
  | [], b => by simp [depthL]
  | d :: a, b => by
    simp only [List.cons_append, depthL, depthL_app a b]
    omega
theorem sizeL_app : ∀ a b : List Val, sizeL (a ++ b) = sizeL a + sizeL b
  | [], b => by simp [sizeL]
  | d :: a, b => by
    simp only [List.cons_append, sizeL, sizeL_app a b]
    omega
def nxt (ds : List Val) : List Val := (ds.filter wholeV).flatMap partsV
def ownL (ds : List Val) : Nat := (ds.map ownS).sum
theorem nxt_cons (d : Val) (ds : List Val) : nxt (d :: ds) = partsV d ++ nxt ds := by
  unfold nxt
  cases d <;> simp [wholeV, partsV, List.filter]
theorem depth_nxt : ∀ (ds : List Val), ds ≠ [] → depthL ds = 1 + depthL (nxt ds)
  | [], h => absurd rfl h
  | [d], _ => by
    rw [nxt_cons, depthL_app]
    simp only [depthL, nxt, List.filter_nil, List.flatMap_nil, depthV_eq d]
    omega
  | d :: e :: ds, _ => by
    have ih := depth_nxt (e :: ds) (fun z => nomatch z)
    rw [nxt_cons, depthL_app]
    simp only [depthL] at ih ⊢
    have := depthV_eq d
    omega
theorem size_nxt : ∀ ds : List Val, sizeL ds = ownL ds + sizeL (nxt ds)
  | [] => by simp [sizeL, ownL, nxt]
  | d :: ds => by
    have ih := size_nxt ds
    have := sizeV_eq d
    have e : ownL (d :: ds) = ownS d + ownL ds := by simp [ownL]
    rw [nxt_cons, sizeL_app, e]
    simp only [sizeL]
    omega
theorem okV_parts {d : Val} {n : Nat} (h : okV d (n + 1)) : okVs (partsV d) n ∧ (partsV d).length ≤ 4 := by
  cases d with
  | lst vs =>
    simp only [okV] at h
    obtain ⟨m, e, h1, h2⟩ := h
    obtain rfl : n = m := by omega
    exact ⟨h2, h1⟩
  | rc ks vs =>
    simp only [okV] at h
    obtain ⟨m, e, h1, _, _, _, h2⟩ := h
    obtain rfl : n = m := by omega
    exact ⟨h2, h1⟩
  | act o x vs =>
    simp only [okV] at h
    obtain ⟨m, e, _, _, h1, h2⟩ := h
    obtain rfl : n = m := by omega
    exact ⟨h2, h1⟩
  | _ => exact ⟨by simp [partsV, okVs], by simp [partsV]⟩
theorem okV_parts0 {d : Val} (h : okV d 0) : wholeV d = false := by
  cases d with
  | lst vs =>
    simp only [okV] at h
    obtain ⟨m, e, _⟩ := h
    omega
  | rc ks vs =>
    simp only [okV] at h
    obtain ⟨m, e, _⟩ := h
    omega
  | act o x vs =>
    simp only [okV] at h
    obtain ⟨m, e, _⟩ := h
    omega
  | _ => rfl
theorem okV_partsM {d : Val} {n : Nat} (h : okV d n) : okVs (partsV d) (n - 1) ∧ (partsV d).length ≤ 4 := by
  cases n with
  | zero =>
    have := okV_parts0 h
    cases d <;> first | (simp [wholeV] at this; done) | exact ⟨by simp [partsV, okVs], by simp [partsV]⟩
  | succ n => exact okV_parts h
theorem nxt_ok {n : Nat} : ∀ {ds : List Val}, okVs ds n → okVs (nxt ds) (n - 1) ∧ (nxt ds).length ≤ 4 * ds.length
  | [], h => by simp [nxt, okVs]
  | d :: ds, h => by
    simp only [okVs] at h
    obtain ⟨i1, i2⟩ := nxt_ok h.2
    obtain ⟨j1, j2⟩ := okV_partsM h.1
    rw [nxt_cons]
    exact ⟨okVs_app.mpr ⟨j1, i1⟩, by rw [List.length_append, List.length_cons]; omega⟩
theorem nxt_0 : ∀ {ds : List Val}, okVs ds 0 → nxt ds = []
  | [], h => by simp [nxt]
  | d :: ds, h => by
    simp only [okVs] at h
    rw [nxt_cons, nxt_0 h.2]
    have := okV_parts0 h.1
    cases d <;> first | (simp [wholeV] at this; done) | rfl
end VL

set_option Elab.async false
set_option linter.all false
set_option maxRecDepth 100000
set_option maxHeartbeats 4000000
namespace VL
open PySem PySem.Spec PyProof.Rows L2

def top (i : Nat) : Stmt := PySem.Challenge.pw_viewloom_k15_places.main.body.getD i (.Pass ⟨0, 0, 0, 0⟩)
abbrev s_Fault___init__ : Stmt := inClass (top 2) 0
abbrev s_is_truth : Stmt := top 4
abbrev s_is_number : Stmt := top 5
abbrev s_is_text : Stmt := top 6
abbrev s_is_list : Stmt := top 7
abbrev s_is_record : Stmt := top 8
abbrev s_members_of : Stmt := top 9
abbrev s_members_of_all : Stmt := top 10
abbrev s_wholes_in : Stmt := top 11
abbrev s_same : Stmt := top 12
abbrev s_same_lists : Stmt := top 13
abbrev s_same_records : Stmt := top 14
abbrev s_size_of_all : Stmt := top 15
abbrev s_is_deeper : Stmt := top 16
abbrev s_text_of : Stmt := top 17
abbrev s_copied : Stmt := top 18
abbrev s_copy_of : Stmt := top 19
abbrev s_bounded_number : Stmt := top 26
abbrev s_bounded_text : Stmt := top 27
abbrev s_bounded : Stmt := top 28
abbrev s_fail_large : Stmt := top 29
abbrev s_need_truth : Stmt := top 31
abbrev s_need_number : Stmt := top 32
abbrev s_need_text : Stmt := top 33
abbrev s_need_list : Stmt := top 34
abbrev s_need_record : Stmt := top 35
abbrev s_has_place : Stmt := top 36
abbrev s_sign_value : Stmt := top 38
abbrev s_quotient : Stmt := top 39
abbrev s_need_comparable : Stmt := top 40
abbrev s_are_same : Stmt := top 41
abbrev s_differ : Stmt := top 42
abbrev s_is_less : Stmt := top 43
abbrev s_is_at_most : Stmt := top 44
abbrev s_is_greater : Stmt := top 45
abbrev s_is_at_least : Stmt := top 46
abbrev s_added : Stmt := top 47
abbrev s_subtracted : Stmt := top 48
abbrev s_multiplied : Stmt := top 49
abbrev s_divided : Stmt := top 50
abbrev s_call_function : Stmt := top 54
abbrev s_need_row : Stmt := top 55
abbrev s_length_of : Stmt := top 56
abbrev s_text_from : Stmt := top 57
abbrev s_number_from : Stmt := top 58
abbrev s_part_of : Stmt := top 59
abbrev s_index_of : Stmt := top 60
abbrev s_got : Stmt := top 61
abbrev s_joined : Stmt := top 62
abbrev s_parted : Stmt := top 63
abbrev s_names_of : Stmt := top 64
abbrev s_in_order : Stmt := top 65
abbrev s_numbers_below : Stmt := top 66
abbrev s_rest_of : Stmt := top 67
abbrev s_lesser : Stmt := top 68
abbrev s_greater : Stmt := top 69
abbrev s_evaluate : Stmt := top 72
abbrev s_value_of : Stmt := top 73
abbrev s_values_of : Stmt := top 74
abbrev s_null_value : Stmt := top 75
abbrev s_true_value : Stmt := top 76
abbrev s_false_value : Stmt := top 77
abbrev s_written_value : Stmt := top 78
abbrev s_name_value : Stmt := top 79
abbrev s_list_value : Stmt := top 80
abbrev s_record_value : Stmt := top 81
abbrev s_field_value : Stmt := top 82
abbrev s_item_value : Stmt := top 83
abbrev s_not_value : Stmt := top 84
abbrev s_minus_value : Stmt := top 85
abbrev s_binary_value : Stmt := top 86
abbrev s_choice_value : Stmt := top 87
abbrev s_function_value : Stmt := top 88
abbrev s_act_value : Stmt := top 89
abbrev s_gathering_value : Stmt := top 90
abbrev s__law_cell : Stmt := top 93
abbrev s__law_start : Stmt := top 94
abbrev s__law_digit : Stmt := top 95
abbrev s__law_text : Stmt := top 96
abbrev s__law_number : Stmt := top 97
abbrev s__law_value : Stmt := top 98
abbrev s__law_kind : Stmt := top 99
abbrev s__law_same : Stmt := top 100
abbrev s__law_parts : Stmt := top 101
abbrev s__law_depth : Stmt := top 102
abbrev s__law_size : Stmt := top 103
abbrev s__law_text_of : Stmt := top 104
abbrev s__law_made : Stmt := top 105
abbrev s__law_bounded : Stmt := top 106
abbrev s__law_joined : Stmt := top 107
abbrev s__law_at : Stmt := top 108
abbrev s__law_field : Stmt := top 109
abbrev s__law_evaluated : Stmt := top 110
abbrev s__law_right : Stmt := top 111
abbrev s_law : Stmt := top 112
structure Ad where
  u0 : Unit
  Fault : Addr
  ViewError : Addr
structure Txt (K : PySem.W.Frag) (w : World) (mg : Str → Option Value) (C : Ad) : Prop where
  z_abs : mg "abs" = none
  z_bool : mg "bool" = none
  z_dict : mg "dict" = none
  z_int : mg "int" = none
  z_isinstance : mg "isinstance" = none
  z_len : mg "len" = none
  z_list : mg "list" = none
  z_max : mg "max" = none
  z_min : mg "min" = none
  z_range : mg "range" = none
  z_sorted : mg "sorted" = none
  z_str : mg "str" = none
  z_tuple : mg "tuple" = none
  tb_ACTIONS_evaluating : ∃ a, GV mg "ACTIONS_evaluating" (.ref a) ∧ EntT K w mg a "name" "name_value" ∧ EntT K w mg a "item" "item_value" ∧ EntT K w mg a "field" "field_value" ∧ EntT K w mg a "not" "not_value"
  gx_ViewError : GV mg "ViewError" (.ref C.ViewError)
  k_Fault_ViewError : PySem.W.kitOne K (.ref C.Fault) (.ref C.ViewError) = some true
  k_Fault_Fault : PySem.W.kitOne K (.ref C.Fault) (.ref C.Fault) = some true
  m_Fault_ViewError : PySem.W.exmOne K (.ref C.Fault) (.ref C.ViewError) = some true
  gm_ViewError : mg "ViewError" = some (.ref C.ViewError)
  d_is_truth : DefE K mg "is_truth" s_is_truth ["value"]
  d_is_number : DefE K mg "is_number" s_is_number ["value"]
  d_is_text : DefE K mg "is_text" s_is_text ["value"]
  d_is_list : DefE K mg "is_list" s_is_list ["value"]
  d_is_record : DefE K mg "is_record" s_is_record ["value"]
  d_copied : DefE K mg "copied" s_copied ["value"]
  d_copy_of : DefE K mg "copy_of" s_copy_of ["value"]
  d_need_truth : DefE K mg "need_truth" s_need_truth ["value"]
  d_need_record : DefE K mg "need_record" s_need_record ["value"]
  d_has_place : DefE K mg "has_place" s_has_place ["base", "index"]
  d_evaluate : DefE K mg "evaluate" s_evaluate ["expression", "environment", "owner"]
  d_value_of : DefE K mg "value_of" s_value_of ["expression", "environment", "owner"]
  d_name_value : DefE K mg "name_value" s_name_value ["expression", "environment", "owner"]
  d_field_value : DefE K mg "field_value" s_field_value ["expression", "environment", "owner"]
  d_item_value : DefE K mg "item_value" s_item_value ["expression", "environment", "owner"]
  d_not_value : DefE K mg "not_value" s_not_value ["expression", "environment", "owner"]
  d__law_cell : DefE K mg "_law_cell" s__law_cell ["script", "k"]
  d__law_start : DefE K mg "_law_start" s__law_start ["cell", "k"]
  d__law_digit : DefE K mg "_law_digit" s__law_digit ["state", "many"]
  d__law_text : DefE K mg "_law_text" s__law_text ["state"]
  d__law_number : DefE K mg "_law_number" s__law_number ["state"]
  d__law_value : DefE K mg "_law_value" s__law_value ["state", "levels"]
  d__law_kind : DefE K mg "_law_kind" s__law_kind ["value"]
  d__law_same : DefE K mg "_law_same" s__law_same ["first", "second"]
  d__law_at : DefE K mg "_law_at" s__law_at ["value", "place"]
  d__law_field : DefE K mg "_law_field" s__law_field ["value", "name"]
  d__law_evaluated : DefE K mg "_law_evaluated" s__law_evaluated ["expression", "environment", "owner"]
  d__law_right : DefE K mg "_law_right" s__law_right ["told", "due"]
structure TxtE (P : Program) (K : PySem.W.Frag) (w : World) (mg : Str → Option Value) (C : Ad) : Prop where
  t : Txt K w mg C
  xi_Fault : ExI P K mg "Fault" "Fault.__init__" C.Fault s_Fault___init__ ["self", "message"] ["message"]
end VL

set_option Elab.async false
set_option linter.all false
set_option pp.maxSteps 500
set_option maxRecDepth 100000
set_option maxHeartbeats 4000000
namespace VL
open PySem PySem.Spec PyProof.Rows L2
def spFalse : Sp := fun _ _ _ _ => False
theorem Sm.new {t : Addr} {o : HO} {H : Hp} (h : H t = none) : Same H (upd H t o) := fun b u e => by rw [upd_ne (ne_of_none e h)]; exact e
theorem at_0 {x : V} {ys : List V} : atI (x :: ys) 0 = some x := by
  unfold atI ixN
  rw [if_pos (by decide), if_pos (by rw [List.length_cons]; omega)]
  rfl
theorem at_1 {x y : V} {ys : List V} : atI (x :: y :: ys) 1 = some y := by
  unfold atI ixN
  rw [if_pos (by decide), if_pos (by rw [List.length_cons, List.length_cons]; omega)]
  rfl
theorem at_2 {x y z : V} {ys : List V} : atI (x :: y :: z :: ys) 2 = some z := by
  unfold atI ixN
  rw [if_pos (by decide), if_pos (by rw [List.length_cons, List.length_cons, List.length_cons]; omega)]
  rfl
theorem at_3 {x y z u : V} {ys : List V} : atI (x :: y :: z :: u :: ys) 3 = some u := by
  unfold atI ixN
  rw [if_pos (by decide), if_pos (by rw [List.length_cons, List.length_cons, List.length_cons, List.length_cons]; omega)]
  rfl
theorem iteT' {b : Bool} {A B : Prop} (h : b = true) (a : A) : if b = true then A else B := by rw [if_pos h]; exact a
theorem iteF' {b : Bool} {A B : Prop} (h : b = false) (a : B) : if b = true then A else B := by rw [if_neg (by rw [h]; decide)]; exact a
def tyN : Val → String
  | .nul => "NoneType"
  | .bl _ => "bool"
  | .num _ => "int"
  | .txt _ => "str"
  | .lst _ => "list"
  | .rc _ _ => "dict"
  | .act _ _ _ => "tuple"
theorem ty_V {K : PySem.W.Frag} {H : Hp} {d : Val} {v : V} (h : VH H d v) : TyX K H v (.type (tyN d)) := by
  cases d with
  | nul => simp only [VH] at h; rw [h]; exact .base .non
  | bl b => simp only [VH] at h; rw [h]; exact .base (.bl b)
  | num i => simp only [VH] at h; rw [h]; exact .base (.int i)
  | txt x => simp only [VH] at h; rw [h]; exact .base (.str x)
  | lst vs => simp only [VH] at h; obtain ⟨a, xs, e, h1, _⟩ := h; rw [e]; exact .base (.lst h1)
  | rc ks vs => simp only [VH] at h; obtain ⟨a, xs, e, h1, _⟩ := h; rw [e]; exact .base (.dK h1)
  | act o n vs => simp only [VH] at h; obtain ⟨a, l, xs, e, h1, _⟩ := h; rw [e]; exact .base (.tup h1)
def isI : Val → Bool
  | .bl _ => true
  | .num _ => true
  | _ => false
def isB : Val → Bool
  | .bl _ => true
  | _ => false
def isS : Val → Bool
  | .txt _ => true
  | _ => false
def isL : Val → Bool
  | .lst _ => true
  | _ => false
def isD : Val → Bool
  | .rc _ _ => true
  | _ => false
def isA : Val → Bool
  | .act _ _ _ => true
  | _ => false
def isN : Val → Bool
  | .nul => true
  | _ => false
theorem kI (d : Val) : kitB (tyN d) "int" = some (isI d) := by cases d <;> (simp only [tyN, isI]; decide +kernel)
theorem kB (d : Val) : kitB (tyN d) "bool" = some (isB d) := by cases d <;> (simp only [tyN, isB]; decide +kernel)
theorem kS (d : Val) : kitB (tyN d) "str" = some (isS d) := by cases d <;> (simp only [tyN, isS]; decide +kernel)
theorem kL (d : Val) : kitB (tyN d) "list" = some (isL d) := by cases d <;> (simp only [tyN, isL]; decide +kernel)
theorem kD (d : Val) : kitB (tyN d) "dict" = some (isD d) := by cases d <;> (simp only [tyN, isD]; decide +kernel)
theorem kA (d : Val) : kitB (tyN d) "tuple" = some (isA d) := by cases d <;> (simp only [tyN, isA]; decide +kernel)
theorem is_non {H : Hp} {d : Val} {v : V} (h : VH H d v) : decide (v = .non) = isN d := by
  cases d with
  | nul => simp only [VH] at h; rw [h]; rfl
  | bl b => simp only [VH] at h; rw [h]; rfl
  | num i => simp only [VH] at h; rw [h]; rfl
  | txt x => simp only [VH] at h; rw [h]; rfl
  | lst vs => simp only [VH] at h; obtain ⟨a, xs, e, h1, _⟩ := h; rw [e]; rfl
  | rc ks vs => simp only [VH] at h; obtain ⟨a, xs, e, h1, _⟩ := h; rw [e]; rfl
  | act o n vs => simp only [VH] at h; obtain ⟨a, l, xs, e, h1, _⟩ := h; rw [e]; rfl
def spNum : Sp := fun vs H Q _ => ∃ (v : V) (d : Val), vs = [v] ∧ VH H d v ∧ Q (.bl (isI d && !isB d)) H
def spTextQ : Sp := fun vs H Q _ => ∃ (v : V) (d : Val), vs = [v] ∧ VH H d v ∧ Q (.bl (isS d)) H
def spMem : Sp := fun vs H Q _ => ∃ (v : V) (d : Val) (G : Hp) (M : List (Addr × HO)), vs = [v] ∧ Sb G H M ∧ VH G d v ∧ wholeV d = true ∧ ∀ r xs G' H', Sb G' H' M → Same G G' → G' r = some (.lst xs) → VHs G' (partsV d) xs → Q (.ref r) H'
def spWhs : Sp := fun vs H Q _ => ∃ (a : Addr) (xs : List V) (ds : List Val) (G : Hp) (M : List (Addr × HO)), vs = [.ref a] ∧ Sb G H M ∧ G a = some (.lst xs) ∧ VHs G ds xs ∧ ds.length ≤ 100000 ∧ ∀ r ys G' H', Sb G' H' M → Same G G' → G' r = some (.lst ys) → VHs G' (ds.filter wholeV) ys → Q (.ref r) H'
def spMall : Sp := fun vs H Q _ => ∃ (a : Addr) (xs : List V) (ds : List Val) (G : Hp) (M : List (Addr × HO)), vs = [.ref a] ∧ Sb G H M ∧ G a = some (.lst xs) ∧ VHs G ds xs ∧ (∀ d ∈ ds, wholeV d = true ∧ (partsV d).length ≤ 4) ∧ ds.length ≤ 100000 ∧ ∀ r ys G' H', Sb G' H' M → Same G G' → G' r = some (.lst ys) → VHs G' (ds.flatMap partsV) ys → Q (.ref r) H'
section
variable {P : Program} {w : World} {K : PySem.W.Frag} {mg : Str → Option Value} {base : Heap} {C : Ad}
theorem sc_is_number : FnScope ["value"] ["value"] (defScope s_is_number) := ⟨rfl, rfl, rfl, by decide +kernel, rfl, by decide +kernel, by decide +kernel⟩
theorem ok_isNum (T : Txt K w mg C) : Cal P w K mg base 1 "is_number" spNum := by
  refine cal_of T.d_is_number sc_is_number (fun vs H Q E h => ?_) (fun f cdv A outer s H vs Q E hr h => ?_)
  · obtain ⟨v, d, rfl, _⟩ := h
    rfl
  · obtain ⟨v, d, rfl, hv, q⟩ := h
    have ty := ty_V (K := K) hv
    refine ⟨_, (pss_one (ps_ret (pe_and (pe_callB call_isi (by rfl) T.z_isinstance (by decide +kernel) (pa_cons (pv 0) (pa_cons (pe_bltn (v := .ty "int") (by rfl) T.z_int (by decide +kernel) rfl) pa_nil))) (pe_one (pe_not (pe_callB call_isi (by rfl) T.z_isinstance (by decide +kernel) (pa_cons (pv 0) (pa_cons (pe_bltn (v := .ty "bool") (by rfl) T.z_bool (by decide +kernel) rfl) pa_nil)))))))), ?_⟩
    refine ⟨_, rfl, v, .ty "int", _, _, isI d, rfl, .ty _, ty, kit_ty (kI d), isI d, rfl, ?_⟩
    cases e : isI d with
    | true => 
      rw [e] at q
      exact iteT' rfl ⟨_, rfl, v, .ty "bool", _, _, isB d, rfl, .ty _, ty, kit_ty (kB d), isB d, rfl, q⟩
    | false =>
      rw [e] at q
      exact iteF' rfl q
theorem sc_is_text : FnScope ["value"] ["value"] (defScope s_is_text) := ⟨rfl, rfl, rfl, by decide +kernel, rfl, by decide +kernel, by decide +kernel⟩
theorem ok_isText (T : Txt K w mg C) : Cal P w K mg base 1 "is_text" spTextQ := by
  refine cal_of T.d_is_text sc_is_text (fun vs H Q E h => ?_) (fun f cdv A outer s H vs Q E hr h => ?_)
  · obtain ⟨v, d, rfl, _⟩ := h
    rfl
  · obtain ⟨v, d, rfl, hv, q⟩ := h
    have ty := ty_V (K := K) hv
    refine ⟨_, (pss_one (ps_ret (pe_callB call_isi (by rfl) T.z_isinstance (by decide +kernel) (pa_cons (pv 0) (pa_cons (pe_bltn (v := .ty "str") (by rfl) T.z_str (by decide +kernel) rfl) pa_nil))))), ?_⟩
    exact ⟨_, rfl, v, .ty "str", _, _, isS d, rfl, .ty _, ty, kit_ty (kS d), q⟩
end
end VL

set_option Elab.async false
set_option linter.all false
set_option pp.maxSteps 500
set_option maxRecDepth 100000
set_option maxHeartbeats 4000000
namespace VL
open PySem PySem.Spec PyProof.Rows L2
def RowV (G : Hp) (v : V) (d : Val) : Prop := ∃ r xs, v = .ref r ∧ G r = some (.lst xs) ∧ VHs G (partsV d) xs
theorem RowV.same {G G' : Hp} {v : V} {d : Val} (h : RowV G v d) (s : Same G G') : RowV G' v d := by
  obtain ⟨r, xs, e, h1, h2⟩ := h
  exact ⟨r, xs, e, s _ _ h1, h2.same s⟩
theorem paired_get' {α β : Type} {R : α → β → Prop} : ∀ {xs : List α} {ys : List β} {i : Nat} {x : α}, Paired R xs ys → xs[i]? = some x → ∃ y, ys[i]? = some y ∧ R x y
  | _, _, i, x, .nil, h => by simp at h
  | _, _, 0, x, .cons a b, h => ⟨_, rfl, by obtain rfl := Option.some.inj h; exact a⟩
  | _, _, i + 1, x, .cons a b, h => by
    obtain ⟨y, h1, h2⟩ := paired_get' b (i := i) (x := x) (by simpa using h)
    exact ⟨y, by simpa using h1, h2⟩
theorem flat_len {ds : List Val} (h : ∀ d ∈ ds, (partsV d).length ≤ 4) : (ds.flatMap partsV).length ≤ 4 * ds.length := by
  induction ds with
  | nil => simp
  | cons d ds ih =>
    have := h d List.mem_cons_self
    have := ih fun x hx => h x (List.mem_cons_of_mem _ hx)
    rw [List.flatMap_cons, List.length_append, List.length_cons]
    omega
/-- a walk's turns, each with a body that leads to the next -/
theorem lp_it {J : It} {n : Nat} {Ok : Hp → Prop} {Y : Nat → Hp → V → Hp → Prop} (wk : Walk J n Ok Y) {body : V → Hp → (Hp → Prop) → Prop} {Qd : Hp → Prop} {H0 : Hp} (I : Nat → Hp → Prop) (h0 : I 0 H0) (ok : ∀ i H, i ≤ n → I i H → Ok H)
    (step : ∀ i x H H', i < n → I i H → Y i H x H' → body x H' (I (i + 1))) (fin : ∀ H, I n H → Qd H) :
    ∃ W : Nat → Nat → Hp → Prop, (∃ m, W 0 m H0) ∧ ∀ i m H, W i m H → (J.stop i H ∧ Qd H) ∨ (J.go i H ∧ ∃ Nx : Hp → Prop, (∀ H', Nx H' → ∃ m', m' < m ∧ W (i + 1) m' H') ∧ ∀ x H', J.yld i H x H' → body x H' Nx) := by
  refine ⟨fun i m H => i ≤ n ∧ m = n - i ∧ I i H, ⟨n, Nat.zero_le _, by omega, h0⟩, fun i m H ⟨hi, hm, hI⟩ => ?_⟩
  by_cases e : i = n
  · subst e
    exact .inl ⟨wk.stops H (ok i H hi hI), fin H hI⟩
  · have hi' : i < n := by omega
    exact .inr ⟨wk.goes i H hi' (ok i H hi hI), I (i + 1), fun H' h => ⟨n - (i + 1), by omega, by omega, rfl, h⟩, fun x H' hy => step i x H H' hi' hI (wk.yields i H x H' hi' (ok i H hi hI) hy)⟩
section
variable {P : Program} {w : World} {K : PySem.W.Frag} {mg : Str → Option Value} {base : Heap} {C : Ad}
end
end VL

set_option Elab.async false
set_option linter.all false
set_option pp.maxSteps 500
set_option maxRecDepth 100000
set_option maxHeartbeats 4000000
namespace VL
open PySem PySem.Spec PyProof.Rows L2
theorem unlock {H H' : Hp} {a : Addr} {o f : HO} (ha : H a = some o) (s : Same (upd H a f) H') : Same H (upd H' a o) := fun b u e => by
  by_cases z : b = a
  · subst z
    rw [upd_same, ← ha, e]
  · rw [upd_ne z]
    exact s b u (by rw [upd_ne z]; exact e)
def tlV : Val → Nat
  | .txt x => x.length
  | _ => 0
def wlV : Val → Nat
  | .rc ks _ => (ks.map (·.length)).sum
  | .act _ n _ => n.length
  | _ => 0
theorem ownL_eq : ∀ ds : List Val, ownL ds = ds.length + (ds.map tlV).sum + ((ds.filter wholeV).map wlV).sum
  | [] => rfl
  | d :: ds => by
    have ih := ownL_eq ds
    have e : ownL (d :: ds) = ownS d + ownL ds := by simp [ownL]
    rw [e, ih]
    cases d <;> simp [ownS, tlV, wlV, wholeV, List.filter] <;> omega
def SzOk (d : Val) : Prop := match d with
  | .txt x => x.length ≤ 5
  | .rc ks _ => ks.length ≤ 4 ∧ ∀ k ∈ ks, k.length ≤ 5
  | .act _ n _ => n.length ≤ 5
  | _ => True
theorem szOk {d : Val} {n : Nat} (h : okV d n) : SzOk d := by
  cases d with
  | txt x =>
    simp only [okV] at h
    exact h.2
  | rc ks vs =>
    simp only [okV] at h
    obtain ⟨m, _, h1, h2, _, h3, _⟩ := h
    exact ⟨by omega, fun k hk => (h3 k hk).2⟩
  | act o x vs =>
    simp only [okV] at h
    obtain ⟨m, _, _, h1, _⟩ := h
    exact h1.2
  | _ => trivial
def spSzA : Sp := fun vs H Q _ => ∃ (a : Addr) (xs : List V) (ds : List Val) (G : Hp) (M : List (Addr × HO)), vs = [.ref a] ∧ Sb G H M ∧ G a = some (.lst xs) ∧ VHs G ds xs ∧ (∀ d ∈ ds, SzOk d) ∧ ds.length ≤ 100000 ∧ ∀ G' H', Sb G' H' M → Same G G' → Q (.int (ownL ds : Int)) H'
theorem walk_kn {kvs : List (Key × V)} {ks : List Str} (h : kvs.map (·.1) = ks.map Sum.inr) {i : Nat} {k : Key} {v : V} (e : kvs[i]? = some (k, v)) : ∃ x, k = .inr x ∧ ks[i]? = some x := by
  have h1 : (kvs.map (·.1))[i]? = some k := by rw [List.getElem?_map, e]; rfl
  rw [h, List.getElem?_map] at h1
  cases e2 : ks[i]? with
  | none => rw [e2] at h1; exact nomatch h1
  | some x => rw [e2] at h1; exact ⟨x, (Option.some.inj h1).symm, rfl⟩
section
variable {P : Program} {w : World} {K : PySem.W.Frag} {mg : Str → Option Value} {base : Heap} {C : Ad}
end
end VL

set_option Elab.async false
set_option linter.all false
set_option pp.maxSteps 500
set_option maxRecDepth 100000
set_option maxHeartbeats 4000000
namespace VL
open PySem PySem.Spec PyProof.Rows L2
theorem pow_step {l l' n : Nat} (h : l * 4 ^ n ≤ 4096) (hl : l' ≤ 4 * l) (h0 : n = 0 → l' = 0) : l' * 4 ^ (n - 1) ≤ 4096 := by
  cases n with
  | zero => rw [h0 rfl]; simp
  | succ n =>
    show l' * 4 ^ n ≤ 4096
    have e : 4 ^ (n + 1) = 4 ^ n * 4 := Nat.pow_succ ..
    have : l' * 4 ^ n ≤ 4 * l * 4 ^ n := Nat.mul_le_mul_right _ hl
    have e2 : 4 * l * 4 ^ n = l * 4 ^ (n + 1) := by rw [e, Nat.mul_comm 4 l, Nat.mul_assoc, Nat.mul_comm 4 (4 ^ n)]
    omega
theorem len_pow {l n : Nat} (h : l * 4 ^ n ≤ 4096) : l ≤ 4096 := by
  have : 0 < 4 ^ n := Nat.pow_pos (by decide)
  exact Nat.le_trans (Nat.le_mul_of_pos_right _ (by omega)) h
theorem whole_mem {ps : List Val} {n : Nat} (h : okVs ps n) : ∀ d ∈ ps.filter wholeV, wholeV d = true ∧ (partsV d).length ≤ 4 := fun d hd => by
  have hm := List.mem_filter.mp hd
  exact ⟨hm.2, (okV_partsM (okVs_mem h hm.1)).2⟩
theorem filt_le {ps : List Val} : (ps.filter wholeV).length ≤ ps.length := List.length_filter_le _ _
def spSize : Sp := fun vs H Q _ => ∃ (v : V) (d : Val) (G : Hp) (M : List (Addr × HO)), vs = [v] ∧ Sb G H M ∧ VH G d v ∧ okV d 5 ∧ ∀ G' H', Sb G' H' M → Same G G' → Q (.int (sizeV d : Int)) H'
def spDepth : Sp := fun vs H Q _ => ∃ (v : V) (d : Val) (G : Hp) (M : List (Addr × HO)), vs = [v] ∧ Sb G H M ∧ VH G d v ∧ okV d 5 ∧ ∀ G' H', Sb G' H' M → Same G G' → Q (.int (depthV d : Int)) H'
section
variable {P : Program} {w : World} {K : PySem.W.Frag} {mg : Str → Option Value} {base : Heap} {C : Ad}
end
end VL

set_option Elab.async false
set_option linter.all false
set_option maxRecDepth 100000
set_option maxHeartbeats 4000000
namespace VL
open PySem PySem.Spec PyProof.Rows L2
/-! ### values where dicts may be locked -/
mutual
def VR (H : Hp) : Val → V → Prop
  | .nul, v => v = .non
  | .bl b, v => v = .bl b
  | .num i, v => v = .int i
  | .txt x, v => v = .str x
  | .lst vs, v => ∃ a xs, v = .ref a ∧ H a = some (.lst xs) ∧ VRs H vs xs
  | .rc ks vs, v => ∃ a kvs, v = .ref a ∧ Rd H a (.dK kvs) ∧ kvs.map (·.1) = ks.map Sum.inr ∧ ks.Nodup ∧ VRs H vs (kvs.map (·.2))
  | .act o n vs, v => ∃ a l xs, v = .ref a ∧ H a = some (.tup [.str "act", .int o, .str n, .ref l]) ∧ H l = some (.lst xs) ∧ VRs H vs xs
def VRs (H : Hp) : List Val → List V → Prop
  | [], xs => xs = []
  | d :: ds, xs => ∃ x ys, xs = x :: ys ∧ VR H d x ∧ VRs H ds ys
end
/-- nothing changes but that dicts are locked or free again -/
def Lk (H H' : Hp) : Prop := (∀ b xs, H b = some (.lst xs) → H' b = some (.lst xs)) ∧ (∀ b xs, H b = some (.tup xs) → H' b = some (.tup xs)) ∧ ∀ b kvs, Rd H b (.dK kvs) → Rd H' b (.dK kvs)
theorem Lk.of {H H' : Hp} (s : Same H H') : Lk H H' := ⟨fun b xs h => s _ _ h, fun b xs h => s _ _ h, fun b kvs h => h.elim (fun h => .inl (s _ _ h)) (fun ⟨o, h⟩ => .inr ⟨o, s _ _ h⟩)⟩
theorem Lk.trans {H H' H'' : Hp} (a : Lk H H') (b : Lk H' H'') : Lk H H'' := ⟨fun x xs h => b.1 _ _ (a.1 _ _ h), fun x xs h => b.2.1 _ _ (a.2.1 _ _ h), fun x kvs h => b.2.2 _ _ (a.2.2 _ _ h)⟩
theorem Lk.lock {H : Hp} {a : Addr} {kvs : List (Key × V)} {od : Obj} (h : H a = some (.dK kvs)) : Lk H (upd H a (.frz od (.dK kvs))) := by
  refine ⟨fun b xs e => ?_, fun b xs e => ?_, fun b ws e => ?_⟩
  · have : b ≠ a := fun z => by rw [z, h] at e; cases e
    rw [upd_ne this]
    exact e
  · have : b ≠ a := fun z => by rw [z, h] at e; cases e
    rw [upd_ne this]
    exact e
  · by_cases z : b = a
    · subst z
      rcases e with e | ⟨o, e⟩
      · rw [h] at e
        cases e
        exact .inr ⟨od, upd_same⟩
      · rw [h] at e
        cases e
    · rcases e with e | ⟨o, e⟩
      · exact .inl (by rw [upd_ne z]; exact e)
      · exact .inr ⟨o, by rw [upd_ne z]; exact e⟩
mutual
theorem VR_lk {H H' : Hp} (s : Lk H H') : ∀ (d : Val) (v : V), VR H d v → VR H' d v
  | .nul, v, h => by simpa only [VR] using h
  | .bl b, v, h => by simpa only [VR] using h
  | .num i, v, h => by simpa only [VR] using h
  | .txt x, v, h => by simpa only [VR] using h
  | .lst vs, v, h => by
    simp only [VR] at h ⊢
    obtain ⟨a, xs, e, h1, h2⟩ := h
    exact ⟨a, xs, e, s.1 _ _ h1, VRs_lk s vs xs h2⟩
  | .rc ks vs, v, h => by
    simp only [VR] at h ⊢
    obtain ⟨a, kvs, e, h1, h2, h3, h4⟩ := h
    exact ⟨a, kvs, e, s.2.2 _ _ h1, h2, h3, VRs_lk s vs _ h4⟩
  | .act o n vs, v, h => by
    simp only [VR] at h ⊢
    obtain ⟨a, l, xs, e, h1, h2, h3⟩ := h
    exact ⟨a, l, xs, e, s.2.1 _ _ h1, s.1 _ _ h2, VRs_lk s vs xs h3⟩
theorem VRs_lk {H H' : Hp} (s : Lk H H') : ∀ (ds : List Val) (xs : List V), VRs H ds xs → VRs H' ds xs
  | [], xs, h => by simpa only [VRs] using h
  | d :: ds, xs, h => by
    simp only [VRs] at h ⊢
    obtain ⟨x, ys, e, h1, h2⟩ := h
    exact ⟨x, ys, e, VR_lk s d x h1, VRs_lk s ds ys h2⟩
end
mutual
theorem VH_vr {H : Hp} : ∀ (d : Val) (v : V), VH H d v → VR H d v
  | .nul, v, h => by simpa only [VR, VH] using h
  | .bl b, v, h => by simpa only [VR, VH] using h
  | .num i, v, h => by simpa only [VR, VH] using h
  | .txt x, v, h => by simpa only [VR, VH] using h
  | .lst vs, v, h => by
    simp only [VR, VH] at h ⊢
    obtain ⟨a, xs, e, h1, h2⟩ := h
    exact ⟨a, xs, e, h1, VHs_vr vs xs h2⟩
  | .rc ks vs, v, h => by
    simp only [VR, VH] at h ⊢
    obtain ⟨a, kvs, e, h1, h2, h3, h4⟩ := h
    exact ⟨a, kvs, e, .inl h1, h2, h3, VHs_vr vs _ h4⟩
  | .act o n vs, v, h => by
    simp only [VR, VH] at h ⊢
    obtain ⟨a, l, xs, e, h1, h2, h3⟩ := h
    exact ⟨a, l, xs, e, h1, h2, VHs_vr vs xs h3⟩
theorem VHs_vr {H : Hp} : ∀ (ds : List Val) (xs : List V), VHs H ds xs → VRs H ds xs
  | [], xs, h => by simpa only [VRs, VHs] using h
  | d :: ds, xs, h => by
    simp only [VRs, VHs] at h ⊢
    obtain ⟨x, ys, e, h1, h2⟩ := h
    exact ⟨x, ys, e, VH_vr d x h1, VHs_vr ds ys h2⟩
end
theorem VH.vr {H : Hp} {d : Val} {v : V} (h : VH H d v) : VR H d v := VH_vr d v h
theorem VR.lk {H H' : Hp} {d : Val} {v : V} (h : VR H d v) (s : Lk H H') : VR H' d v := VR_lk s d v h
theorem VRs.lk {H H' : Hp} {ds : List Val} {xs : List V} (h : VRs H ds xs) (s : Lk H H') : VRs H' ds xs := VRs_lk s ds xs h
theorem VR.same {H H' : Hp} {d : Val} {v : V} (h : VR H d v) (s : Same H H') : VR H' d v := h.lk (.of s)
theorem VRs.len {H : Hp} : ∀ {ds : List Val} {xs : List V}, VRs H ds xs → xs.length = ds.length
  | [], xs, h => by
    simp only [VRs] at h
    rw [h]
    rfl
  | d :: ds, xs, h => by
    simp only [VRs] at h
    obtain ⟨x, ys, e, _, h2⟩ := h
    rw [e, List.length_cons, List.length_cons, VRs.len h2]
theorem VRs.get {H : Hp} : ∀ {ds : List Val} {xs : List V} {i : Nat} {x : V}, VRs H ds xs → xs[i]? = some x → ∃ d, ds[i]? = some d ∧ VR H d x
  | [], xs, i, x, h, e => by
    simp only [VRs] at h
    rw [h] at e
    cases e
  | d :: ds, xs, i, x, h, e => by
    simp only [VRs] at h
    obtain ⟨y, ys, e1, h1, h2⟩ := h
    rw [e1] at e
    cases i with
    | zero => exact ⟨d, rfl, by obtain rfl := Option.some.inj e; exact h1⟩
    | succ i =>
      obtain ⟨d', e', h'⟩ := VRs.get h2 (i := i) (x := x) (by simpa using e)
      exact ⟨d', by simpa using e', h'⟩
mutual
theorem VH_det {H : Hp} : ∀ (d e : Val) (v : V), VH H d v → VH H e v → d = e
  | .nul, e, v, h, g => by
    simp only [VH] at h
    subst h
    cases e <;> simp [VH] at g
    rfl
  | .bl b, e, v, h, g => by
    simp only [VH] at h
    subst h
    cases e <;> simp [VH] at g
    rw [g]
  | .num i, e, v, h, g => by
    simp only [VH] at h
    subst h
    cases e <;> simp [VH] at g
    rw [g]
  | .txt x, e, v, h, g => by
    simp only [VH] at h
    subst h
    cases e <;> simp [VH] at g
    rw [g]
  | .lst vs, e, v, h, g => by
    simp only [VH] at h
    obtain ⟨a, xs, rfl, h1, h2⟩ := h
    cases e with
    | lst ws =>
      simp only [VH] at g
      obtain ⟨a', xs', e', g1, g2⟩ := g
      cases e'
      rw [h1] at g1
      cases g1
      rw [VHs_det vs ws xs h2 g2]
    | rc ks ws =>
      simp only [VH] at g
      obtain ⟨a', xs', e', g1, g2⟩ := g
      cases e'
      rw [h1] at g1
      cases g1
    | act o n ws =>
      simp only [VH] at g
      obtain ⟨a', l, xs', e', g1, g2⟩ := g
      cases e'
      rw [h1] at g1
      cases g1
    | _ => simp [VH] at g
  | .rc ks vs, e, v, h, g => by
    simp only [VH] at h
    obtain ⟨a, xs, rfl, h1, h2, _, h4⟩ := h
    cases e with
    | lst ws =>
      simp only [VH] at g
      obtain ⟨a', xs', e', g1, g2⟩ := g
      cases e'
      rw [h1] at g1
      cases g1
    | rc ls ws =>
      simp only [VH] at g
      obtain ⟨a', xs', e', g1, g2, _, g4⟩ := g
      cases e'
      rw [h1] at g1
      cases g1
      rw [VHs_det vs ws _ h4 g4]
      rw [h2] at g2
      have : ∀ {a b : List Str}, a.map (Sum.inr (α := Int)) = b.map Sum.inr → a = b := by
        intro a
        induction a with
        | nil => intro b q; cases b with
          | nil => rfl
          | cons _ _ => simp at q
        | cons x a ih => intro b q; cases b with
          | nil => simp at q
          | cons y b =>
            simp only [List.map_cons, List.cons.injEq, Sum.inr.injEq] at q
            rw [q.1, ih q.2]
      rw [this g2]
    | act o n ws =>
      simp only [VH] at g
      obtain ⟨a', l, xs', e', g1, g2⟩ := g
      cases e'
      rw [h1] at g1
      cases g1
    | _ => simp [VH] at g
  | .act o n vs, e, v, h, g => by
    simp only [VH] at h
    obtain ⟨a, l, xs, rfl, h1, h2, h3⟩ := h
    cases e with
    | lst ws =>
      simp only [VH] at g
      obtain ⟨a', xs', e', g1, g2⟩ := g
      cases e'
      rw [h1] at g1
      cases g1
    | rc ks ws =>
      simp only [VH] at g
      obtain ⟨a', xs', e', g1, g2⟩ := g
      cases e'
      rw [h1] at g1
      cases g1
    | act o' n' ws =>
      simp only [VH] at g
      obtain ⟨a', l', xs', e', g1, g2, g3⟩ := g
      cases e'
      rw [h1] at g1
      cases g1
      rw [h2] at g2
      cases g2
      rw [VHs_det vs ws xs h3 g3]
    | _ => simp [VH] at g
theorem VHs_det {H : Hp} : ∀ (ds es : List Val) (xs : List V), VHs H ds xs → VHs H es xs → ds = es
  | [], es, xs, h, g => by
    simp only [VHs] at h
    subst h
    cases es with
    | nil => rfl
    | cons e es => simp [VHs] at g
  | d :: ds, es, xs, h, g => by
    simp only [VHs] at h
    obtain ⟨x, ys, rfl, h1, h2⟩ := h
    cases es with
    | nil => simp [VHs] at g
    | cons e es =>
      simp only [VHs] at g
      obtain ⟨x', ys', e', g1, g2⟩ := g
      cases e'
      rw [VH_det d e x h1 g1, VHs_det ds es ys h2 g2]
end
theorem depthL_mem : ∀ {ds : List Val} {d : Val}, d ∈ ds → depthV d ≤ depthL ds
  | e :: ds, d, h => by
    simp only [depthL]
    rcases List.mem_cons.mp h with rfl | h
    · omega
    · have := depthL_mem h
      omega
section
variable {H : Hp} {a : Addr} {o : HO} {D : Val} {kvs : List (Key × V)}
mutual
theorem VH_upd (ha : H a = some (.dK kvs)) (hD : VH H D (.ref a)) : ∀ (d : Val) (v : V), VH H d v → depthV d < depthV D → VH (upd H a o) d v
  | .nul, v, h, l => by simpa only [VH] using h
  | .bl b, v, h, l => by simpa only [VH] using h
  | .num i, v, h, l => by simpa only [VH] using h
  | .txt x, v, h, l => by simpa only [VH] using h
  | .lst vs, v, h, l => by
    simp only [VH] at h ⊢
    obtain ⟨b, xs, e, h1, h2⟩ := h
    have : b ≠ a := fun z => by rw [z, ha] at h1; cases h1
    simp only [depthV] at l
    exact ⟨b, xs, e, by rw [upd_ne this]; exact h1, VHs_upd ha hD vs xs h2 (by omega)⟩
  | .rc ks vs, v, h, l => by
    have hh := h
    simp only [VH] at h ⊢
    obtain ⟨b, ws, e, h1, h2, h3, h4⟩ := h
    have : b ≠ a := fun z => by
      rw [e, z] at hh
      rw [VH_det _ _ _ hh hD] at l
      omega
    simp only [depthV] at l
    exact ⟨b, ws, e, by rw [upd_ne this]; exact h1, h2, h3, VHs_upd ha hD vs _ h4 (by omega)⟩
  | .act p n vs, v, h, l => by
    simp only [VH] at h ⊢
    obtain ⟨b, c, xs, e, h1, h2, h3⟩ := h
    have n1 : b ≠ a := fun z => by rw [z, ha] at h1; cases h1
    have n2 : c ≠ a := fun z => by rw [z, ha] at h2; cases h2
    simp only [depthV] at l
    exact ⟨b, c, xs, e, by rw [upd_ne n1]; exact h1, by rw [upd_ne n2]; exact h2, VHs_upd ha hD vs xs h3 (by omega)⟩
theorem VHs_upd (ha : H a = some (.dK kvs)) (hD : VH H D (.ref a)) : ∀ (ds : List Val) (xs : List V), VHs H ds xs → depthL ds < depthV D → VHs (upd H a o) ds xs
  | [], xs, h, l => by simpa only [VHs] using h
  | d :: ds, xs, h, l => by
    simp only [VHs] at h ⊢
    simp only [depthL] at l
    obtain ⟨x, ys, e, h1, h2⟩ := h
    exact ⟨x, ys, e, VH_upd ha hD d x h1 (by omega), VHs_upd ha hD ds ys h2 (by omega)⟩
end
end
theorem ty_R {K : PySem.W.Frag} {H : Hp} {d : Val} {v : V} (h : VR H d v) : TyX K H v (.type (tyN d)) := by
  cases d with
  | nul => simp only [VR] at h; rw [h]; exact .base .non
  | bl b => simp only [VR] at h; rw [h]; exact .base (.bl b)
  | num i => simp only [VR] at h; rw [h]; exact .base (.int i)
  | txt x => simp only [VR] at h; rw [h]; exact .base (.str x)
  | lst vs => simp only [VR] at h; obtain ⟨a, xs, e, h1, _⟩ := h; rw [e]; exact .base (.lst h1)
  | rc ks vs =>
    simp only [VR] at h
    obtain ⟨a, xs, e, h1, _⟩ := h
    rw [e]
    rcases h1 with h1 | ⟨o, h1⟩
    · exact .base (.dK h1)
    · exact .fDict h1
  | act o n vs => simp only [VR] at h; obtain ⟨a, l, xs, e, h1, _⟩ := h; rw [e]; exact .base (.tup h1)
end VL

set_option Elab.async false
set_option linter.all false
set_option pp.maxSteps 500
set_option maxRecDepth 100000
set_option maxHeartbeats 4000000
namespace VL
open PySem PySem.Spec PyProof.Rows L2
theorem is_nonR {H : Hp} {d : Val} {v : V} (h : VR H d v) : decide (v = .non) = isN d := by
  cases d with
  | nul => simp only [VR] at h; rw [h]; rfl
  | bl b => simp only [VR] at h; rw [h]; rfl
  | num i => simp only [VR] at h; rw [h]; rfl
  | txt x => simp only [VR] at h; rw [h]; rfl
  | lst vs => simp only [VR] at h; obtain ⟨a, xs, e, h1, _⟩ := h; rw [e]; rfl
  | rc ks vs => simp only [VR] at h; obtain ⟨a, xs, e, h1, _⟩ := h; rw [e]; rfl
  | act o n vs => simp only [VR] at h; obtain ⟨a, l, xs, e, h1, _⟩ := h; rw [e]; rfl
theorem sameL_len : ∀ {ds es : List Val}, sameL ds es = true → ds.length = es.length
  | [], es, h => by
    cases es with
    | nil => rfl
    | cons e es => simp [sameL] at h
  | d :: ds, es, h => by
    cases es with
    | nil => simp [sameL] at h
    | cons e es =>
      simp only [sameL, Bool.and_eq_true] at h
      rw [List.length_cons, List.length_cons, sameL_len h.2]
theorem sameL_iff : ∀ {ds es : List Val}, ds.length = es.length → (sameL ds es = true ↔ ∀ (i : Nat) (d e : Val), ds[i]? = some d → es[i]? = some e → sameV d e = true)
  | [], es, h => by
    cases es with
    | nil => simp [sameL]
    | cons e es => simp at h
  | d :: ds, es, h => by
    cases es with
    | nil => simp at h
    | cons e es =>
      have ih := sameL_iff (ds := ds) (es := es) (by simpa using h)
      simp only [sameL, Bool.and_eq_true, ih]
      constructor
      · rintro ⟨h1, h2⟩ i d' e' e1 e2
        cases i with
        | zero =>
          obtain rfl := Option.some.inj e1
          obtain rfl := Option.some.inj e2
          exact h1
        | succ i => exact h2 i d' e' (by simpa using e1) (by simpa using e2)
      · intro hh
        exact ⟨hh 0 d e rfl rfl, fun i d' e' e1 e2 => hh (i + 1) d' e' (by simpa using e1) (by simpa using e2)⟩
theorem val_look {H : Hp} {x : Str} : ∀ {kws : List (Key × V)} {ls : List Str} {es : List Val}, kws.map (·.1) = ls.map Sum.inr → VRs H es (kws.map (·.2)) → (lookV ls es x = none ∧ valV kws (.inr x) = none) ∨ ∃ w v, lookV ls es x = some w ∧ valV kws (.inr x) = some v ∧ VR H w v
  | [], ls, es, h, g => by
    have : ls = [] := by cases ls <;> simp at h ⊢
    subst this
    exact .inl ⟨by simp [lookV], rfl⟩
  | p :: kws, [], es, h, g => by simp at h
  | p :: kws, l :: ls, [], h, g => by simp [VRs] at g
  | p :: kws, l :: ls, e :: es, h, g => by
    simp only [List.map_cons, List.cons.injEq] at h
    simp only [VRs, List.map_cons, List.cons.injEq] at g
    obtain ⟨y, ys, ⟨rfl, rfl⟩, g1, g2⟩ := g
    simp only [lookV]
    by_cases z : l = x
    · subst z
      rw [if_pos rfl]
      exact .inr ⟨e, p.2, rfl, valV_pos h.1, g1⟩
    · rw [if_neg z, valV_neg (by rw [h.1]; exact fun q => z (Sum.inr.inj q))]
      exact val_look h.2 g2
def spSame (n : Nat) : Sp := fun vs H Q _ => ∃ (a b : V) (d e : Val), vs = [a, b] ∧ VH H d a ∧ VR H e b ∧ okV d n ∧ okV e 5 ∧ ∀ H', Same H H' → Q (.bl (sameV d e)) H'
def spSL (n : Nat) : Sp := fun vs H Q _ => ∃ (a b : Addr) (xs ys : List V) (ds es : List Val), vs = [.ref a, .ref b] ∧ H a = some (.lst xs) ∧ H b = some (.lst ys) ∧ VHs H ds xs ∧ VRs H es ys ∧ okVs ds n ∧ okVs es 5 ∧ ∀ H', Same H H' → Q (.bl (sameL ds es)) H'
def spSR (n : Nat) : Sp := fun vs H Q _ => ∃ (a b : Addr) (ks ls : List Str) (ds es : List Val), vs = [.ref a, .ref b] ∧ VH H (.rc ks ds) (.ref a) ∧ VR H (.rc ls es) (.ref b) ∧ okV (.rc ks ds) (n + 1) ∧ okV (.rc ls es) 5 ∧ ∀ H', Same H H' → Q (.bl (decide (ks.length = ls.length) && sameR ds ks ls es)) H'
section
variable {P : Program} {w : World} {K : PySem.W.Frag} {mg : Str → Option Value} {base : Heap} {C : Ad}
end
end VL

set_option Elab.async false
set_option linter.all false
set_option pp.maxSteps 500
set_option maxRecDepth 100000
set_option maxHeartbeats 4000000
namespace VL
open PySem PySem.Spec PyProof.Rows L2
/-! ### copies -/
mutual
def VT (H : Hp) : Val → V → List Addr → Prop
  | .nul, v, A => v = .non ∧ A = []
  | .bl b, v, A => v = .bl b ∧ A = []
  | .num i, v, A => v = .int i ∧ A = []
  | .txt x, v, A => v = .str x ∧ A = []
  | .lst vs, v, A => ∃ a xs B, v = .ref a ∧ H a = some (.lst xs) ∧ VTs H vs xs B ∧ A = a :: B
  | .rc ks vs, v, A => ∃ a kvs B, v = .ref a ∧ H a = some (.dK kvs) ∧ kvs.map (·.1) = ks.map Sum.inr ∧ ks.Nodup ∧ VTs H vs (kvs.map (·.2)) B ∧ A = a :: B
  | .act o n vs, v, A => ∃ a l xs B, v = .ref a ∧ H a = some (.tup [.str "act", .int o, .str n, .ref l]) ∧ H l = some (.lst xs) ∧ VTs H vs xs B ∧ A = l :: B
def VTs (H : Hp) : List Val → List V → List Addr → Prop
  | [], xs, A => xs = [] ∧ A = []
  | d :: ds, xs, A => ∃ x ys B D, xs = x :: ys ∧ VT H d x B ∧ VTs H ds ys D ∧ A = B ++ D
end
/-- what a value's parts are is kept -/
def Kp (H H' : Hp) : Prop := (∀ b xs, H b = some (.lst xs) → H' b = some (.lst xs)) ∧ (∀ b xs, H b = some (.tup xs) → H' b = some (.tup xs)) ∧ ∀ b kvs, H b = some (.dK kvs) → H' b = some (.dK kvs)
theorem Kp.of {H H' : Hp} (s : Same H H') : Kp H H' := ⟨fun b xs h => s _ _ h, fun b xs h => s _ _ h, fun b kvs h => s _ _ h⟩
theorem Kp.frz {H : Hp} {a : Addr} {od : Obj} {u o : HO} (h : H a = some (.frz od u)) : Kp H (upd H a o) := by
  refine ⟨fun b xs e => ?_, fun b xs e => ?_, fun b xs e => ?_⟩ <;>
  · have : b ≠ a := fun z => by rw [z, h] at e; cases e
    rw [upd_ne this]
    exact e
mutual
theorem VT_kp {H H' : Hp} (s : Kp H H') : ∀ (d : Val) (v : V) (A : List Addr), VT H d v A → VT H' d v A
  | .nul, v, A, h => by simpa only [VT] using h
  | .bl b, v, A, h => by simpa only [VT] using h
  | .num i, v, A, h => by simpa only [VT] using h
  | .txt x, v, A, h => by simpa only [VT] using h
  | .lst vs, v, A, h => by
    simp only [VT] at h ⊢
    obtain ⟨a, xs, B, e, h1, h2, h3⟩ := h
    exact ⟨a, xs, B, e, s.1 _ _ h1, VTs_kp s vs xs B h2, h3⟩
  | .rc ks vs, v, A, h => by
    simp only [VT] at h ⊢
    obtain ⟨a, kvs, B, e, h1, h2, h3, h4, h5⟩ := h
    exact ⟨a, kvs, B, e, s.2.2 _ _ h1, h2, h3, VTs_kp s vs _ B h4, h5⟩
  | .act o n vs, v, A, h => by
    simp only [VT] at h ⊢
    obtain ⟨a, l, xs, B, e, h1, h2, h3, h4⟩ := h
    exact ⟨a, l, xs, B, e, s.2.1 _ _ h1, s.1 _ _ h2, VTs_kp s vs xs B h3, h4⟩
theorem VTs_kp {H H' : Hp} (s : Kp H H') : ∀ (ds : List Val) (xs : List V) (A : List Addr), VTs H ds xs A → VTs H' ds xs A
  | [], xs, A, h => by simpa only [VTs] using h
  | d :: ds, xs, A, h => by
    simp only [VTs] at h ⊢
    obtain ⟨x, ys, B, D, e, h1, h2, h3⟩ := h
    exact ⟨x, ys, B, D, e, VT_kp s d x B h1, VTs_kp s ds ys D h2, h3⟩
end
theorem VT.same {H H' : Hp} {d : Val} {v : V} {A : List Addr} (h : VT H d v A) (s : Same H H') : VT H' d v A := VT_kp (.of s) d v A h
theorem VTs.same {H H' : Hp} {ds : List Val} {xs : List V} {A : List Addr} (h : VTs H ds xs A) (s : Same H H') : VTs H' ds xs A := VTs_kp (.of s) ds xs A h
mutual
theorem VT_vh {H : Hp} : ∀ (d : Val) (v : V) (A : List Addr), VT H d v A → VH H d v ∧ ∀ a ∈ A, (H a).isSome = true
  | .nul, v, A, h => by
    simp only [VT] at h
    simp only [VH]
    exact ⟨h.1, by rw [h.2]; simp⟩
  | .bl b, v, A, h => by
    simp only [VT] at h
    simp only [VH]
    exact ⟨h.1, by rw [h.2]; simp⟩
  | .num i, v, A, h => by
    simp only [VT] at h
    simp only [VH]
    exact ⟨h.1, by rw [h.2]; simp⟩
  | .txt x, v, A, h => by
    simp only [VT] at h
    simp only [VH]
    exact ⟨h.1, by rw [h.2]; simp⟩
  | .lst vs, v, A, h => by
    simp only [VT] at h
    simp only [VH]
    obtain ⟨a, xs, B, e, h1, h2, h3⟩ := h
    obtain ⟨i1, i2⟩ := VTs_vh vs xs B h2
    refine ⟨⟨a, xs, e, h1, i1⟩, fun b hb => ?_⟩
    rw [h3] at hb
    rcases List.mem_cons.mp hb with rfl | hb
    · rw [h1]; rfl
    · exact i2 b hb
  | .rc ks vs, v, A, h => by
    simp only [VT] at h
    simp only [VH]
    obtain ⟨a, kvs, B, e, h1, h2, h3, h4, h5⟩ := h
    obtain ⟨i1, i2⟩ := VTs_vh vs _ B h4
    refine ⟨⟨a, kvs, e, h1, h2, h3, i1⟩, fun b hb => ?_⟩
    rw [h5] at hb
    rcases List.mem_cons.mp hb with rfl | hb
    · rw [h1]; rfl
    · exact i2 b hb
  | .act o n vs, v, A, h => by
    simp only [VT] at h
    simp only [VH]
    obtain ⟨a, l, xs, B, e, h1, h2, h3, h4⟩ := h
    obtain ⟨i1, i2⟩ := VTs_vh vs xs B h3
    refine ⟨⟨a, l, xs, e, h1, h2, i1⟩, fun b hb => ?_⟩
    rw [h4] at hb
    rcases List.mem_cons.mp hb with rfl | hb
    · rw [h2]; rfl
    · exact i2 b hb
theorem VTs_vh {H : Hp} : ∀ (ds : List Val) (xs : List V) (A : List Addr), VTs H ds xs A → VHs H ds xs ∧ ∀ a ∈ A, (H a).isSome = true
  | [], xs, A, h => by
    simp only [VTs] at h
    simp only [VHs]
    exact ⟨h.1, by rw [h.2]; simp⟩
  | d :: ds, xs, A, h => by
    simp only [VTs] at h
    simp only [VHs]
    obtain ⟨x, ys, B, D, e, h1, h2, h3⟩ := h
    obtain ⟨i1, i2⟩ := VT_vh d x B h1
    obtain ⟨j1, j2⟩ := VTs_vh ds ys D h2
    refine ⟨⟨x, ys, e, i1, j1⟩, fun b hb => ?_⟩
    rw [h3] at hb
    rcases List.mem_append.mp hb with hb | hb
    · exact i2 b hb
    · exact j2 b hb
end
theorem VTs.nil {H : Hp} : VTs H [] [] [] := by simp [VTs]
theorem VTs.snoc {H : Hp} : ∀ {ds : List Val} {xs : List V} {A : List Addr} {d : Val} {v : V} {B : List Addr}, VTs H ds xs A → VT H d v B → VTs H (ds ++ [d]) (xs ++ [v]) (A ++ B)
  | [], xs, A, d, v, B, h, g => by
    simp only [VTs] at h
    rw [h.1, h.2]
    simp only [List.nil_append, VTs]
    exact ⟨v, [], B, [], rfl, g, by simp, by simp⟩
  | e :: ds, xs, A, d, v, B, h, g => by
    simp only [VTs] at h
    obtain ⟨x, ys, C, D, rfl, h1, h2, rfl⟩ := h
    simp only [List.cons_append, VTs]
    exact ⟨x, ys ++ [v], C, D ++ B, rfl, h1, VTs.snoc h2 g, by rw [List.append_assoc]⟩
theorem VT.fresh {H G : Hp} {d : Val} {v : V} {A : List Addr} (h : VT H d v A) (g : ∀ a ∈ A, G a = none) {a : Addr} (ha : (G a).isSome = true) : a ∉ A := fun z => by rw [g a z] at ha; exact nomatch ha
mutual
def cst : Val → Nat
  | .lst vs => cstL vs + 1
  | .rc _ vs => cstL vs + 1
  | .act _ _ vs => cstL vs + 2
  | _ => 0
def cstL : List Val → Nat
  | [] => 0
  | d :: ds => max (cst d) (cstL ds)
end
theorem cstL_mem : ∀ {ds : List Val} {d : Val}, d ∈ ds → cst d ≤ cstL ds
  | e :: ds, d, h => by
    simp only [cstL]
    rcases List.mem_cons.mp h with rfl | h
    · omega
    · have := cstL_mem h
      omega
mutual
theorem cst_le : ∀ (d : Val) {n : Nat}, okV d n → cst d ≤ 2 * n
  | .nul, n, h => by simp [cst]
  | .bl b, n, h => by simp [cst]
  | .num i, n, h => by simp [cst]
  | .txt x, n, h => by simp [cst]
  | .lst vs, n, h => by
    simp only [okV] at h
    obtain ⟨m, rfl, _, h2⟩ := h
    have := cstL_le vs h2
    simp only [cst]
    omega
  | .rc ks vs, n, h => by
    simp only [okV] at h
    obtain ⟨m, rfl, _, _, _, _, h2⟩ := h
    have := cstL_le vs h2
    simp only [cst]
    omega
  | .act o x vs, n, h => by
    simp only [okV] at h
    obtain ⟨m, rfl, _, _, _, h2⟩ := h
    have := cstL_le vs h2
    simp only [cst]
    omega
theorem cstL_le : ∀ (ds : List Val) {n : Nat}, okVs ds n → cstL ds ≤ 2 * n
  | [], n, h => by simp [cstL]
  | d :: ds, n, h => by
    simp only [okVs] at h
    have := cst_le d h.1
    have := cstL_le ds h.2
    simp only [cstL]
    omega
end
theorem Sb.lock {G H : Hp} {M : List (Addr × HO)} {a : Addr} {o u : HO} (S : Sb G H M) (h : G a = some o) : Sb (upd G a u) (upd H a u) M := by
  refine ⟨fun b x e => ?_, fun p hp => ?_, S.nd⟩
  · by_cases z : b = a
    · subst z
      rw [upd_same] at e ⊢
      exact e
    · rw [upd_ne z] at e ⊢
      exact S.s _ _ e
  · have := S.m p hp
    have ne : p.1 ≠ a := fun z => by rw [z, h] at this; exact nomatch this.1
    exact ⟨by rw [upd_ne ne]; exact this.1, by rw [upd_ne ne]; exact this.2⟩
def textV : Val → V
  | .nul => .str ""
  | .bl b => .str (if b then "true" else "false")
  | .num i => .str (Str.ofString (toString i))
  | .txt x => .str x
  | _ => .non
theorem log_31 {i : Int} (h0 : -(10 ^ 31) < i) (h1 : i < 10 ^ 31) : i.natAbs.log2 < 1920 := by
  have h2 : i.natAbs < 2 ^ 1920 := by
    have : i.natAbs < 10 ^ 31 := by omega
    exact Nat.lt_trans this (by decide)
  by_cases hz : i.natAbs = 0
  · rw [hz]; decide
  · exact (Nat.log2_lt hz).mpr h2
def spTextOf : Sp := fun vs H Q _ => ∃ (v : V) (d : Val), vs = [v] ∧ VH H d v ∧ okV d 5 ∧ Q (textV d) H
theorem okV_mem5 {d : Val} (h : okV d 5) : okVs (partsV d) 5 := by
  have := (okV_partsM h).1
  exact okVs_mono _ (by decide) this
def okW (d : Val) : Prop := okV d 5 ∨ ∃ x, d = .txt x
theorem okW.mem {d : Val} (h : okW d) : okVs (partsV d) 5 := by
  rcases h with h | ⟨x, rfl⟩
  · exact okV_mem5 h
  · simp [partsV, okVs]
theorem okW.get {d : Val} (h : okW d) (n : ∀ x, d ≠ .txt x) : okV d 5 := h.resolve_right fun ⟨x, e⟩ => n x e
theorem okW.len {d : Val} (h : okW d) : (partsV d).length ≤ 4 := by
  rcases h with h | ⟨x, rfl⟩
  · exact (okV_partsM h).2
  · simp [partsV]
theorem okW.cst {d : Val} (h : okW d) : VL.cst d ≤ 10 := by
  rcases h with h | ⟨x, rfl⟩
  · exact Nat.le_trans (cst_le d h) (by decide)
  · simp [VL.cst]
def spCopyV (m : Nat) : Sp := fun vs H Q _ => ∃ (v : V) (d : Val) (G : Hp) (M : List (Addr × HO)), vs = [v] ∧ Sb G H M ∧ VH G d v ∧ okW d ∧ cst d ≤ m ∧ ∀ y A G' H', Sb G' H' M → Same G G' → VT G' d y A → A.Nodup → (∀ a ∈ A, G a = none) → Q y H'
section
variable {P : Program} {w : World} {K : PySem.W.Frag} {mg : Str → Option Value} {base : Heap} {C : Ad}
end
end VL

set_option Elab.async false
set_option linter.all false
set_option pp.maxSteps 500
set_option maxRecDepth 100000
set_option maxHeartbeats 4000000
namespace VL
open PySem PySem.Spec PyProof.Rows L2
theorem scal_T {H : Hp} {d : Val} {v : V} (h : VH H d v) (hw : wholeV d = false) {H' : Hp} : VT H' d v [] := by
  cases d with
  | nul => simp only [VH] at h; simp only [VT]; exact ⟨h, trivial⟩
  | bl b => simp only [VH] at h; simp only [VT]; exact ⟨h, trivial⟩
  | num i => simp only [VH] at h; simp only [VT]; exact ⟨h, trivial⟩
  | txt x => simp only [VH] at h; simp only [VT]; exact ⟨h, trivial⟩
  | _ => exact nomatch hw
section
variable {P : Program} {w : World} {K : PySem.W.Frag} {mg : Str → Option Value} {base : Heap} {C : Ad}
theorem sc_copy_of : FnScope ["value", "part", "name"] ["value"] (defScope s_copy_of) := ⟨rfl, rfl, rfl, by decide +kernel, rfl, by decide +kernel, by decide +kernel⟩
theorem copy_S (T : Txt K w mg C) {m k : Nat} {sp : Sp} (hsp : ∀ j, j + 1 = m → sp = spCopyV j) (Gcopy_of : Cal P w K mg base k "copy_of" sp) : Cal P w K mg base (k + 1) "copy_of" (spCopyV m) := by
  refine cal_of T.d_copy_of sc_copy_of (fun vs H Q E h => ?_) (fun f cdv A outer s H vs Q E hr h => ?_)
  · obtain ⟨v, d, G, M, rfl, _⟩ := h
    rfl
  · obtain ⟨v, d, G0, M, rfl, S, hv, hok, hc, q⟩ := h
    have hu := hu_of hr
    have big : 100000 < sizeLine := by decide
    have ty := ty_V (K := K) (hv.same S.s)
    have o5 := hok.mem
    have pl := hok.len
    have q0 : wholeV d = false → Q v H := fun hw => q v [] G0 H S (Same.refl _) (scal_T hv hw) List.nodup_nil (fun a h => nomatch h)
    refine ⟨_, (pss_cons (ps_if (pt_val (pe_callB call_isi (by rfl) T.z_isinstance (by decide +kernel) (pa_cons (pv 0) (pa_cons (pe_bltn (v := .ty "list") (by rfl) T.z_list (by decide +kernel) rfl) pa_nil)))) (pss_one (ps_ret (pe_lc (own := [("part", 1)]) (g := gName 1) (tt := tYes) rfl sc_copy_of.nd (pi_list (pv 0)) (blkOk_by (N := ["value", "part", "name"]) (sc := (defScope s_copy_of)) (by decide +kernel)) (fun _ _ _ _ _ => pg_name (i := 1) sc_copy_of.nd rfl (Or.inl rfl)) (fun _ _ _ _ _ => pts_nil) (fun _ _ _ _ _ => (pe_ifExp (PW.pt (pw_or (pt_val (pe_callB (call_isiS (K := K) rfl) (by rfl) T.z_isinstance (by decide +kernel) (pa_cons (pv 1) (pa_cons (pe_bltn (v := .ty "int") (by rfl) T.z_int (by decide +kernel) rfl) pa_nil)))) (pw_or (pt_val (pe_callB (call_isiS (K := K) rfl) (by rfl) T.z_isinstance (by decide +kernel) (pa_cons (pv 1) (pa_cons (pe_bltn (v := .ty "str") (by rfl) T.z_str (by decide +kernel) rfl) pa_nil)))) (pw_or1 (pt_cmp (pc_isN (pv 1))))))) (pv 1) (pe_c Gcopy_of hr (by omega) (by rfl) (pa_cons (pv 1) pa_nil))))))) pss_nil) (pss_cons (ps_if (pt_val (pe_callB call_isi (by rfl) T.z_isinstance (by decide +kernel) (pa_cons (pv 0) (pa_cons (pe_bltn (v := .ty "dict") (by rfl) T.z_dict (by decide +kernel) rfl) pa_nil)))) (pss_one (ps_ret (pe_lock (pe_dc (own := [("name", 2)]) (g := gName 2) (tt := tYes) rfl sc_copy_of.nd (pi_keys (pv 0)) (blkOk_by (N := ["value", "part", "name"]) (sc := (defScope s_copy_of)) (by decide +kernel)) (fun _ _ _ _ _ => pg_name (i := 2) sc_copy_of.nd rfl (Or.inl rfl)) (fun _ _ _ _ _ => pts_nil) (fun _ _ _ _ _ => (pv 2)) (fun _ _ _ _ _ => (pe_c Gcopy_of hr (by omega) (by rfl) (pa_cons (pe_dget hu (pv 0) (pv 2) (fun _ _ => rfl)) pa_nil))))))) pss_nil) (pss_cons (ps_if (pt_val (pe_callB call_isi (by rfl) T.z_isinstance (by decide +kernel) (pa_cons (pv 0) (pa_cons (pe_bltn (v := .ty "tuple") (by rfl) T.z_tuple (by decide +kernel) rfl) pa_nil)))) (pss_one (ps_ret (pe_tup (pa_cons (pe_ix ix_tup (pv 0) pe_int (fun _ _ => rfl)) (pa_cons (pe_ix ix_tup (pv 0) pe_int (fun _ _ => rfl)) (pa_cons (pe_ix ix_tup (pv 0) pe_int (fun _ _ => rfl)) (pa_cons (pe_c Gcopy_of hr (by omega) (by rfl) (pa_cons (pe_ix ix_tup (pv 0) pe_int (fun _ _ => rfl)) pa_nil)) pa_nil))))))) pss_nil) (pss_one (ps_ret (pv 0)))))), ?_⟩
    refine ⟨_, rfl, v, .ty "list", _, _, isL d, rfl, .ty _, ty, kit_ty (kL d), isL d, rfl, ?_⟩
    cases d with
    | lst vs =>
      obtain ⟨j, rfl⟩ : ∃ j, m = j + 1 := by simp only [cst] at hc; exact ⟨m - 1, by omega⟩
      have e := hsp j rfl
      subst e
      simp only [VH] at hv
      obtain ⟨a, xs, rfl, ha, hxs⟩ := hv
      have xl := hxs.len
      refine iteT' rfl ⟨_, rfl, a, rfl, ⟨_, SqL.of (S.s _ _ ha)⟩, fun D hD => ?_⟩
      have S0 := S.add (o := .lst []) hD
      refine lc_it (walk_list (K := K) (a := a) (xs := xs)) (fun i H' => ∃ (ys : List V) (A : List Addr) (G : Hp), Sb G H' ((D, .lst ys) :: M) ∧ Same G0 G ∧ VTs G (vs.take i) ys A ∧ A.Nodup ∧ ∀ b ∈ A, G0 b = none) ⟨[], [], G0, S0, Same.refl _, .nil, List.nodup_nil, fun b h => nomatch h⟩ (fun i H' _ z => by obtain ⟨ys, A, G, S', g, _⟩ := z; exact SqL.of (S'.s _ _ (g _ _ ha))) ?_ ?_
      · rintro i x H1 H2 hi ⟨ys, A, G, S1, g, py, nd, fr⟩ ⟨rfl, hx⟩
        obtain ⟨d, hd, hvx⟩ := hxs.get hx
        have tk : vs.take (i + 1) = vs.take i ++ [d] := by rw [List.take_add_one, hd]; rfl
        have yl := (VTs_vh _ _ _ py).1.len
        rw [List.length_take] at yl
        have vl : vs.length ≤ 4 := pl
        have tyx := ty_V (K := K) ((hvx.same g).same S1.s)
        have fin : ∀ (y : V) (B : List Addr) (G' : Hp) (H3 : Hp), Sb G' H3 ((D, .lst ys) :: M) → Same G G' → VT G' d y B → B.Nodup → (∀ b ∈ B, G b = none) → ∃ acc, H3 D = some (.lst acc) ∧ acc.length < sizeLine ∧ ∃ (ys : List V) (A : List Addr) (G : Hp), Sb G (upd H3 D (.lst (acc ++ [y]))) ((D, .lst ys) :: M) ∧ Same G0 G ∧ VTs G (vs.take (i + 1)) ys A ∧ A.Nodup ∧ ∀ b ∈ A, G0 b = none := by
          intro y B G' H3 S3 g3 vt nB fB
          refine ⟨ys, S3.hd, by omega, ys ++ [y], A ++ B, G', S3.put, Same.trans g g3, by rw [tk]; exact (py.same g3).snoc vt, ?_, ?_⟩
          · refine List.nodup_append.mpr ⟨nd, nB, fun b hb c hcc e => ?_⟩
            have h1 := (VTs_vh _ _ _ py).2 b hb
            rw [e, fB c hcc] at h1
            exact nomatch h1
          · intro b hb
            rcases List.mem_append.mp hb with hb | hb
            · exact fr b hb
            · cases e : G0 b with
              | none => rfl
              | some u =>
                have := fB b hb
                rw [g _ _ e] at this
                exact nomatch this
        have self : wholeV d = false → ∃ acc, H2 D = some (.lst acc) ∧ acc.length < sizeLine ∧ ∃ (ys : List V) (A : List Addr) (G : Hp), Sb G (upd H2 D (.lst (acc ++ [x]))) ((D, .lst ys) :: M) ∧ Same G0 G ∧ VTs G (vs.take (i + 1)) ys A ∧ A.Nodup ∧ ∀ b ∈ A, G0 b = none := fun hw => fin x [] G H2 S1 (Same.refl _) (scal_T hvx hw) List.nodup_nil (fun b h => nomatch h)
        refine ⟨rfl, ?_⟩
        refine ⟨_, rfl, x, .ty "int", _, _, isI d, rfl, .ty _, tyx, kit_ty (kI d), isI d, rfl, ?_⟩
        cases e1 : isI d with
        | true => exact iteT' rfl (iteT' rfl ⟨_, rfl, self (by cases d <;> first | rfl | (simp [isI] at e1; done))⟩)
        | false =>
          refine iteF' rfl ⟨_, rfl, x, .ty "str", _, _, isS d, rfl, .ty _, tyx, kit_ty (kS d), isS d, rfl, ?_⟩
          cases e2 : isS d with
          | true => exact iteT' rfl (iteT' rfl ⟨_, rfl, self (by cases d <;> first | rfl | (simp [isS] at e2; done))⟩)
          | false =>
            refine iteF' rfl ⟨_, rfl, isN d, by rw [is_non hvx], ?_⟩
            cases e3 : isN d with
            | true => exact iteT' rfl ⟨_, rfl, self (by cases d <;> first | rfl | (simp [isN] at e3; done))⟩
            | false =>
              refine iteF' rfl ⟨_, rfl, x, d, G, _, rfl, S1, hvx.same g, .inl (okVs_get o5 hd), ?_, fun y B G' H3 S3 g3 vt nB fB => fin y B G' H3 S3 g3 vt nB fB⟩
              have := cstL_mem (List.mem_of_getElem? hd)
              simp only [cst] at hc
              omega
      · rintro H1 ⟨ys, A, G, S1, g, py, nd, fr⟩
        rw [xl, List.take_length] at py
        obtain ⟨S2, g2⟩ := S1.drop
        have hGD : G D = none := (S1.m _ List.mem_cons_self).1
        refine q (.ref D) (D :: A) _ H1 S2 (Same.trans g g2) ?_ ?_ ?_
        · simp only [VT]
          exact ⟨D, ys, A, rfl, upd_same, py.same g2, rfl⟩
        · refine List.nodup_cons.mpr ⟨fun z => ?_, nd⟩
          have := (VTs_vh _ _ _ py).2 D z
          rw [hGD] at this
          exact nomatch this
        · intro b hb
          rcases List.mem_cons.mp hb with rfl | hb
          · cases e : G0 b with
            | none => rfl
            | some u => rw [g _ _ e] at hGD; exact nomatch hGD
          · exact fr b hb
    | rc ks vs =>
      obtain ⟨j, rfl⟩ : ∃ j, m = j + 1 := by simp only [cst] at hc; exact ⟨m - 1, by omega⟩
      have e := hsp j rfl
      subst e
      have hv0 := hv
      simp only [VH] at hv
      obtain ⟨a, kvs, rfl, ha, hks, knd, hxs⟩ := hv
      have xl := hxs.len
      rw [List.length_map] at xl
      have vl : vs.length ≤ 4 := pl
      have kl : kvs.length = ks.length := by have := congrArg List.length hks; simpa using this
      have nd0 : (kvs.map (·.1)).Nodup := by
        rw [hks]
        exact List.Pairwise.map _ (fun a b z q => z (Sum.inr.inj q)) knd
      refine iteF' rfl ⟨_, rfl, _, .ty "dict", _, _, _, rfl, .ty _, ty, kit_ty (kD _), _, rfl, iteT' rfl ⟨a, _, S.s _ _ ha, trivial, fun od => ?_⟩⟩
      have va := VHs_upd (o := .frz od (.dK kvs)) ha hv0 vs _ hxs (by simp only [depthV]; omega)
      have hlk : upd G0 a (.frz od (.dK kvs)) a = some (.frz od (.dK kvs)) := upd_same
      have SL := S.lock (u := .frz od (.dK kvs)) ha
      refine ⟨_, rfl, a, od, rfl, .inl ⟨_, upd_same, fun D hD => ?_⟩⟩
      have S0 := SL.add (o := .dK []) hD
      refine dc_itQ (walk_keys (d := a) (o := od) (kvs := kvs)) (fun i H' => ∃ (ys : List (Key × V)) (A : List Addr) (G : Hp), Sb G H' ((D, .dK ys) :: M) ∧ Same (upd G0 a (.frz od (.dK kvs))) G ∧ ys.map (·.1) = (ks.take i).map Sum.inr ∧ VTs G (vs.take i) (ys.map (·.2)) A ∧ A.Nodup ∧ ∀ b ∈ A, upd G0 a (.frz od (.dK kvs)) b = none) ⟨[], [], _, S0, Same.refl _, rfl, .nil, List.nodup_nil, fun b h => nomatch h⟩ (fun i H' _ z => by obtain ⟨ys, A, G, S', g, _⟩ := z; exact S'.s _ _ (g _ _ hlk)) ?_ ?_
      · rintro i x H1 H2 hi ⟨ys, A, G, S1, g, ky, py, nd, fr⟩ ⟨rfl, k, v, hkv, rfl⟩
        obtain ⟨kx, rfl, hkx⟩ := walk_kn hks hkv
        have hv' : (kvs.map (·.2))[i]? = some v := by rw [List.getElem?_map, hkv]; rfl
        obtain ⟨d, hd, hvx⟩ := va.get hv'
        have tk : vs.take (i + 1) = vs.take i ++ [d] := by rw [List.take_add_one, hd]; rfl
        have tk2 : ks.take (i + 1) = ks.take i ++ [kx] := by rw [List.take_add_one, hkx]; rfl
        have yl : ys.length ≤ ks.length := by
          have := congrArg List.length ky
          rw [List.length_map, List.length_map, List.length_take] at this
          omega
        have gv : valV kvs (.inr kx) = some v := valV_nd nd0 hkv
        have knew : valV ys (.inr kx) = none := valV_out (by
          rw [ky]
          intro hm
          obtain ⟨x', hx', e'⟩ := List.mem_map.mp hm
          cases e'
          have nd2 := knd.sublist (List.take_sublist (i + 1) ks)
          rw [tk2] at nd2
          exact (List.nodup_append.mp nd2).2.2 _ hx' _ List.mem_cons_self rfl)
        refine ⟨rfl, ?_⟩
        refine ⟨_, rfl, _, rfl, _, rfl, a, v, rfl, .inl ⟨kvs, .inr kx, .inr ⟨od, S1.s _ _ (g _ _ hlk)⟩, rfl, gv.symm⟩, v, d, G, _, rfl, S1, hvx.same g, .inl (okVs_get o5 hd), ?_, fun y B G' H3 S3 g3 vt nB fB => ?_⟩
        · have := cstL_mem (List.mem_of_getElem? hd)
          simp only [cst] at hc
          omega
        · refine ⟨ys, .inr kx, rfl, S3.hd, by omega, ys ++ [(.inr kx, y)], A ++ B, G', by rw [putK_nw knew]; exact S3.put, Same.trans g g3, by rw [tk2, List.map_append, List.map_append, ky]; rfl, by rw [tk, List.map_append]; exact (py.same g3).snoc vt, ?_, ?_⟩
          · refine List.nodup_append.mpr ⟨nd, nB, fun b hb c hcc e => ?_⟩
            have h1 := (VTs_vh _ _ _ py).2 b hb
            rw [e, fB c hcc] at h1
            exact nomatch h1
          · intro b hb
            rcases List.mem_append.mp hb with hb | hb
            · exact fr b hb
            · cases e : upd G0 a (.frz od (.dK kvs)) b with
              | none => rfl
              | some u =>
                have := fB b hb
                rw [g _ _ e] at this
                exact nomatch this
      · rintro H1 ⟨ys, A, G, S1, g, ky, py, nd, fr⟩
        rw [kl, List.take_length] at ky
        rw [xl, List.take_length] at py
        have hGD : G D = none := (S1.m _ List.mem_cons_self).1
        have hGa : G a = some (.frz od (.dK kvs)) := g _ _ hlk
        refine ⟨S1.s _ _ hGa, ?_⟩
        obtain ⟨S2, g2⟩ := S1.drop
        have Da : D ≠ a := fun z => by rw [z, hGa] at hGD; exact nomatch hGD
        have S3 := S2.lock (u := .dK kvs) (g2 _ _ hGa)
        have kp := Kp.frz (o := .dK kvs) (g2 _ _ hGa)
        refine q (.ref D) (D :: A) _ _ S3 (unlock ha (Same.trans g g2)) ?_ ?_ ?_
        · simp only [VT]
          exact ⟨D, ys, A, rfl, by rw [upd_ne Da]; exact upd_same, ky, knd, VTs_kp kp _ _ _ (py.same g2), rfl⟩
        · refine List.nodup_cons.mpr ⟨fun z => ?_, nd⟩
          have := (VTs_vh _ _ _ py).2 D z
          rw [hGD] at this
          exact nomatch this
        · intro b hb
          have fin : ∀ b, upd G0 a (.frz od (.dK kvs)) b = none → G0 b = none := fun b hb => by
            by_cases z : b = a
            · rw [z, upd_same] at hb; exact nomatch hb
            · rw [upd_ne z] at hb; exact hb
          rcases List.mem_cons.mp hb with rfl | hb
          · refine fin _ ?_
            cases e : upd G0 a (.frz od (.dK kvs)) b with
            | none => rfl
            | some u => rw [g _ _ e] at hGD; exact nomatch hGD
          · exact fin b (fr b hb)
    | act o n vs =>
      obtain ⟨j, rfl⟩ : ∃ j, m = j + 1 := by simp only [cst] at hc; exact ⟨m - 1, by omega⟩
      have e := hsp j rfl
      subst e
      simp only [VH] at hv
      obtain ⟨a, l, xs, rfl, h1, h2, h3⟩ := hv
      refine iteF' rfl ⟨_, rfl, _, .ty "dict", _, _, _, rfl, .ty _, ty, kit_ty (kD _), _, rfl, iteF' rfl ⟨_, rfl, _, .ty "tuple", _, _, _, rfl, .ty _, ty, kit_ty (kA _), _, rfl, iteT' rfl ?_⟩⟩
      have tp := SqT.of (K := K) (S.s _ _ h1)
      refine ⟨_, rfl, a, _, _, _, rfl, rfl, tp, at_0, _, rfl, a, _, _, _, rfl, rfl, tp, at_1, _, rfl, a, _, _, _, rfl, rfl, tp, at_2, _, rfl, a, _, _, _, rfl, rfl, tp, at_3, .ref l, .lst vs, G0, M, rfl, S, by simp only [VH]; exact ⟨l, xs, rfl, h2, h3⟩, ?_, ?_, fun y A G' H' S' g' vt nd fr => ?_⟩
      · replace hok := hok.get (by intro x z; cases z)
        refine .inl ?_
        simp only [okV] at hok ⊢
        obtain ⟨k', e, _, _, p1, p2⟩ := hok
        exact ⟨k', e, p1, p2⟩
      · simp only [cst] at hc ⊢
        omega
      · simp only [VT] at vt
        obtain ⟨l', ys, B, rfl, g1, g2, rfl⟩ := vt
        refine ⟨by show 4 ≤ sizeLine; decide, fun p hp => ?_⟩
        have S2 := S'.alloc (o := .tup [.str "act", .int o, .str n, .ref l']) hp
        have gg := S'.grow (o := .tup [.str "act", .int o, .str n, .ref l']) hp
        refine q (.ref p) (l' :: B) _ _ S2 (Same.trans g' gg) ?_ nd fr
        simp only [VT]
        exact ⟨p, l', ys, B, rfl, upd_same, gg _ _ g1, g2.same gg, rfl⟩
    | _ => exact iteF' rfl ⟨_, rfl, v, .ty "dict", _, _, _, rfl, .ty _, ty, kit_ty (kD _), _, rfl, iteF' rfl ⟨_, rfl, v, .ty "tuple", _, _, _, rfl, .ty _, ty, kit_ty (kA _), _, rfl, iteF' rfl ⟨_, rfl, q0 rfl⟩⟩⟩
theorem copy_0 (T : Txt K w mg C) {k : Nat} : Cal P w K mg base (k + 1) "copy_of" spFalse := cal_of T.d_copy_of sc_copy_of (fun vs H Q E h => h.elim) (fun f cdv A outer s H vs Q E hr h => h.elim)
theorem copy_N (T : Txt K w mg C) : ∀ m : Nat, Cal P w K mg base (m + 2) "copy_of" (spCopyV m)
  | 0 => copy_S T (sp := spFalse) (fun m h => by omega) (copy_0 T)
  | m + 1 => copy_S T (sp := spCopyV m) (fun j h => by rw [show j = m by omega]) (copy_N T m)
theorem sc_copied : FnScope ["value"] ["value"] (defScope s_copied) := ⟨rfl, rfl, rfl, by decide +kernel, rfl, by decide +kernel, by decide +kernel⟩
theorem ok_copied (T : Txt K w mg C) : Cal P w K mg base 13 "copied" (spCopyV 10) := by
  have Gcopy_of := copy_N (P := P) (base := base) T 10
  refine cal_of T.d_copied sc_copied (fun vs H Q E h => ?_) (fun f cdv A outer s H vs Q E hr h => ?_)
  · obtain ⟨v, d, G, M, rfl, _⟩ := h
    rfl
  · obtain ⟨v, d, G, M, rfl, h⟩ := h
    exact ⟨_, (pss_one (ps_ret (pe_c Gcopy_of hr (by decide) (by rfl) (pa_cons (pv 0) pa_nil)))), _, rfl, v, d, G, M, rfl, h⟩
end
end VL

set_option Elab.async false
set_option linter.all false
set_option pp.maxSteps 500
set_option maxRecDepth 100000
set_option maxHeartbeats 4000000
namespace VL
open PySem PySem.Spec PyProof.Rows L2
theorem map_int_atR {ns : List Int} {j : Int} (h0 : 0 ≤ j) (h1 : j < (ns.length : Int)) : ∃ z, atI (ns.map V.int) j = some (.int z) := by
  have hj : j.toNat < ns.length := by omega
  refine ⟨ns[j.toNat], ?_⟩
  unfold atI ixN
  rw [if_pos h0, if_pos (by rw [List.length_map]; exact h1)]
  show (ns.map V.int)[j.toNat]? = _
  rw [List.getElem?_map, List.getElem?_eq_getElem hj]
  rfl
/-! ### two cells beside each other -/
theorem log_ok {i : Int} (h0 : 0 ≤ i) (h1 : i < 10 ^ 30) : i.natAbs.log2 < 1920 := by
  have h2 : i.natAbs < 2 ^ 1920 := by
    have : i.natAbs < 10 ^ 30 := by omega
    exact Nat.lt_trans this (by decide)
  by_cases hz : i.natAbs = 0
  · rw [hz]; decide
  · exact (Nat.log2_lt hz).mpr h2
def spCell (K : PySem.W.Frag) : Sp := fun vs H Q _ => ∃ (a : Addr) (ns : List Int) (k : Nat), vs = [.ref a, .int (k : Int)] ∧ SqL K H a (ns.map V.int) ∧ ∀ c, Q (.int c) H
def spStart : Sp := fun vs H Q _ => ∃ c k : Int, vs = [.int c, .int k] ∧ ∀ p s, H p = none → Q (.ref p) (upd H p (.lst [.int s]))
def spDig : Sp := fun vs H Q _ => ∃ (sa : Addr) (s m : Int), vs = [.ref sa, .int m] ∧ H sa = some (.lst [.int s]) ∧ 0 < m ∧ m ≤ 2000 ∧ ∀ z s', 0 ≤ z → z < m → Q (.int z) (upd H sa (.lst [.int s']))
theorem atI_mem {α : Type} {xs : List α} {k : Int} (h0 : 0 ≤ k) (h1 : k < xs.length) : ∃ x, atI xs k = some x ∧ x ∈ xs := by
  obtain ⟨m, rfl⟩ := Int.eq_ofNat_of_zero_le h0
  refine ⟨xs[m]'(by omega), ?_, List.getElem_mem _⟩
  unfold atI ixN
  rw [if_pos h0, if_pos h1]
  show xs[(m : Int).toNat]? = _
  rw [Int.toNat_natCast, List.getElem?_eq_getElem]
def nuT : Int → List Nat
  | .ofNat n => TL.numL n
  | .negSucc n => 45 :: TL.numL (n + 1)
theorem nuT_TX (i : Int) : Str.ofString (toString i) = TX (nuT i) := by
  cases i with
  | ofNat n => exact TL.ext_tl (TL.tl_num n)
  | negSucc n =>
    have e : toString (Int.negSucc n) = "-" ++ toString ((n + 1 : Nat) : Int) := rfl
    have h := SX.num_S (n + 1)
    rw [PySem.Str.ofString_eq_toList] at h
    rw [e, PySem.Str.ofString_eq_toList, String.toList_append, List.map_append]
    have h2 : ((toString ((n + 1 : Nat) : Int)).toList.map Char.toNat) = TL.numL (n + 1) := by
      have := congrArg (fun s : Str => s.cps.toList) h
      simpa using this
    rw [h2]
    rfl
theorem numL_31 {n : Nat} (h : n < 10 ^ 31) : (TL.numL n).length ≤ 31 := by
  have := toString_length_le (v := (n : Int)) (k := 31) (by omega) (by decide) (by omega)
  have e : Str.ofString (toString ((n : Nat) : Int)) = TX (TL.numL n) := SX.num_S n
  have h2 : (Str.ofString (toString ((n : Nat) : Int))).length ≤ 31 := this
  rw [e, TX_len] at h2
  exact h2
theorem small_int {i : Int} (h0 : -(10 ^ 31) < i) (h1 : i < 10 ^ 31) : Small 60 0 (.int i) := by
  have hl := log_31 h0 h1
  refine ⟨by simpa [PyData.showable] using hl, Nat.le_refl _, ?_⟩
  show (Str.ofString (toString i)).length ≤ 60
  rw [nuT_TX, TX_len]
  cases i with
  | ofNat n =>
    have := numL_31 (n := n) (by have : Int.ofNat n = (n : Int) := rfl; omega)
    show (TL.numL n).length ≤ 60
    omega
  | negSucc n =>
    have := numL_31 (n := n + 1) (by have : Int.negSucc n = -((n : Int) + 1) := by omega
                                     omega)
    show (45 :: TL.numL (n + 1)).length ≤ 60
    rw [List.length_cons]
    omega
theorem ok_num {i : Int} {n : Nat} (h0 : -(10 ^ 31) < i) (h1 : i < 10 ^ 31) : okV (.num i) n := by
  simp only [okV]
  exact ⟨small_int h0 h1, h0, h1⟩
theorem small_tx {l : List Nat} (h : l.length ≤ 5) (hc : ∀ c ∈ l, c < 128) : Small 60 0 (.str (TX l)) := by
  refine ⟨rfl, Nat.le_refl _, ?_⟩
  have := fmt_piled [TX l] (fun y hy c hcc => by
    rw [List.mem_singleton] at hy
    subst hy
    rw [TX_tl] at hcc
    exact Nat.lt_trans (hc c hcc) (by decide))
  have e1 : fmtCost [TX l] = 10 * l.length + 4 := by rw [fmtCost_cons, TX_len]; rfl
  have e2 : piled ([TX l].map reprText) = (reprText (TX l)).length + 2 := by simp [piled]
  show (reprText (TX l)).length ≤ _
  omega
theorem ok_txt {l : List Nat} {n : Nat} (h : l.length ≤ 5) (hc : ∀ c ∈ l, c < 128) : okV (.txt (TX l)) n := by
  simp only [okV]
  exact ⟨small_tx h hc, by rw [TX_len]; exact h⟩
def spText : Sp := fun vs H Q _ => ∃ (sa : Addr) (s : Int) (G : Hp) (M : List (Addr × HO)), vs = [.ref sa] ∧ Sb G H ((sa, .lst [.int s]) :: M) ∧ ∀ x s' G' H', Sb G' H' ((sa, .lst [.int s']) :: M) → Same G G' → okV (.txt x) 0 → Q (.str x) H'
def spNumL : Sp := fun vs H Q _ => ∃ (sa : Addr) (s : Int) (G : Hp) (M : List (Addr × HO)), vs = [.ref sa] ∧ Sb G H ((sa, .lst [.int s]) :: M) ∧ ∀ i s' H', Sb G H' ((sa, .lst [.int s']) :: M) → okV (.num i) 0 → Q (.int i) H'
section
variable {P : Program} {w : World} {K : PySem.W.Frag} {mg : Str → Option Value} {base : Heap} {C : Ad}
theorem sc__law_cell : FnScope ["script", "k"] ["script", "k"] (defScope s__law_cell) := ⟨rfl, rfl, rfl, by decide +kernel, rfl, by decide +kernel, by decide +kernel⟩
theorem ok_cell (T : Txt K w mg C) : Cal P w K mg base 1 "_law_cell" (spCell K) := by
  refine cal_of T.d__law_cell sc__law_cell (fun vs H Q E h => ?_) (fun f cdv A outer s H vs Q E hr h => ?_)
  · obtain ⟨a, ns, k, rfl, _⟩ := h
    rfl
  · obtain ⟨a, ns, k, rfl, ha, q⟩ := h
    refine ⟨_, (pss_cons (ps_if (pt_cmpR op_lt (pv 1) (pe_callB call_len_seq (by rfl) T.z_len PySem.boot_len (pa_cons (pv 0) pa_nil)) (nomark _)) (pss_one (ps_ret (pe_ix ix_list (pv 0) (pv 1) (fun _ _ => rfl)))) pss_nil) (pss_one (ps_ret pe_int))), ?_⟩
    refine ⟨_, rfl, _, rfl, a, _, rfl, .inl ha, _, _, rfl, rfl, _, rfl, ite2 (fun c => ?_) (fun c => ?_)⟩
    · have := of_decide_eq_true c
      rw [List.length_map] at this
      obtain ⟨z, hz⟩ := map_int_atR (ns := ns) (j := (k : Int)) (by omega) (by omega)
      exact ⟨_, rfl, _, rfl, a, _, _, _, rfl, rfl, ha, hz, q z⟩
    · exact q 0
theorem sc__law_start : FnScope ["cell", "k", "prime", "mixed"] ["cell", "k"] (defScope s__law_start) := ⟨rfl, rfl, rfl, by decide +kernel, rfl, by decide +kernel, by decide +kernel⟩
theorem ok_start (T : Txt K w mg C) : Cal P w K mg base 1 "_law_start" spStart := by
  refine cal_of T.d__law_start sc__law_start (fun vs H Q E h => ?_) (fun f cdv A outer s H vs Q E hr h => ?_)
  · obtain ⟨c, k, rfl, _⟩ := h
    rfl
  · obtain ⟨c, k, rfl, q⟩ := h
    refine ⟨_, (pss_cons (ps_set (i := 2) sc__law_start.nd rfl (Or.inl rfl) pe_int) (pss_cons (ps_if (pt_chain op_lt op_lt (pe_un un_neg pe_int) (pv 0) pe_int) (pss_cons (ps_set (i := 3) sc__law_start.nd rfl (Or.inl rfl) (pe_op op_mod (pe_callTy call_int1 (by rfl) T.z_int (by decide +kernel) (pa_cons (pe_op op_add (pe_op op_mul (pv 0) pe_int) (pe_op op_mul (pe_op op_add (pv 1) pe_int) pe_int)) pa_nil)) (pv 2))) (pss_one (ps_ret (pe_lst (pa_cons (pe_op op_mod (pe_callTy call_int1 (by rfl) T.z_int (by decide +kernel) (pa_cons (pe_op op_add (pe_op op_add (pe_op op_mulW (pv 3) (pv 3)) (pe_op op_mul pe_int (pv 3))) (pv 1)) pa_nil)) (pv 2)) pa_nil))))) pss_nil) (pss_one (ps_ret (pe_lst (pa_cons (pe_callB call_abs (by rfl) T.z_abs (by decide +kernel) (pa_cons (pv 0) pa_nil)) pa_nil)))))), ?_⟩
    have p0 : (0 : Int) < 618970019642690137449562111 := by decide
    have small : ∀ σ : L2.St, σ[0]? = some (some (V.int c)) → tRet (tLst (tCons (tCB (fun xs H Q => ∃ i, xs = [V.int i] ∧ Q (V.int (if i < 0 then -i else i)) H) (tCons (tVar 0) tNil)) tNil)) { nx := fun _ H' => Q V.non H', rt := Q } σ H := fun σ e => ⟨_, e, _, rfl, by show 1 ≤ sizeLine; decide, fun p hp => q p _ hp⟩
    refine ⟨_, rfl, _, rfl, _, _, rfl, rfl, _, rfl, ite2 (fun c1 => ⟨_, _, rfl, rfl, _, rfl, ite2 (fun c2 => ?_) (fun c2 => small _ rfl)⟩) (fun c1 => ⟨_, rfl, iteF (small _ rfl)⟩)⟩
    refine ⟨_, rfl, _, _, rfl, rfl, .inr ⟨by decide, by decide⟩, _, rfl, _, _, rfl, rfl, _, _, rfl, rfl, .inr ⟨by decide, by decide⟩, _, _, rfl, rfl, .inl ⟨_, rfl, _, rfl, _, _, rfl, rfl, p0, ?_⟩⟩
    have x0 : 0 ≤ (c * 2654435761 + (k + 1) * 6700417) % 618970019642690137449562111 := Int.emod_nonneg _ (by decide)
    have x1 : (c * 2654435761 + (k + 1) * 6700417) % 618970019642690137449562111 < 618970019642690137449562111 := Int.emod_lt_of_pos _ (by decide)
    show gName 3 (V.int ((c * 2654435761 + (k + 1) * 6700417) % 618970019642690137449562111)) _ _ _
    generalize (c * 2654435761 + (k + 1) * 6700417) % 618970019642690137449562111 = mx at x0 x1 ⊢
    have lg := log_ok x0 (show mx < 10 ^ 30 by omega)
    exact ⟨_, rfl, _, rfl, _, _, rfl, rfl, (by show mx.natAbs.log2 + mx.natAbs.log2 < 1000000; omega), _, rfl, _, _, rfl, rfl, .inl ⟨by decide, by decide⟩, _, _, rfl, rfl, _, rfl, _, _, rfl, rfl, .inl ⟨_, rfl, _, rfl, _, _, rfl, rfl, p0, by show 1 ≤ sizeLine; decide, fun p hp => q p _ hp⟩⟩
theorem sc__law_digit : FnScope ["state", "many", "digit"] ["state", "many"] (defScope s__law_digit) := ⟨rfl, rfl, rfl, by decide +kernel, rfl, by decide +kernel, by decide +kernel⟩
theorem ok_dig (T : Txt K w mg C) : Cal P w K mg base 1 "_law_digit" spDig := by
  refine cal_of T.d__law_digit sc__law_digit (fun vs H Q E h => ?_) (fun f cdv A outer s H vs Q E hr h => ?_)
  · obtain ⟨sa, s, m, rfl, _⟩ := h
    rfl
  · obtain ⟨sa, s0, m, rfl, hs, m0, m1, q⟩ := h
    refine ⟨_, (pss_cons (ps_set (i := 2) sc__law_digit.nd rfl (Or.inl rfl) (pe_op op_mod (pe_callTy call_int1 (by rfl) T.z_int (by decide +kernel) (pa_cons (pe_ix ix_list (pv 0) pe_int (fun _ _ => rfl)) pa_nil)) (pv 1))) (pss_cons (ps_asg (pe_op op_fdiv (pe_ix ix_list (pv 0) pe_int (fun _ _ => rfl)) (pv 1)) (pg_sub (pv 0) pe_int set_list)) (pss_one (ps_ret (pv 2))))), ?_⟩
    refine ⟨_, rfl, sa, _, _, _, rfl, rfl, SqL.of hs, rfl, .inl ⟨_, rfl, _, rfl, _, _, rfl, rfl, m0, ?_⟩⟩
    refine ⟨_, rfl, sa, _, _, _, rfl, rfl, SqL.of hs, rfl, _, rfl, _, _, rfl, rfl, ⟨m0, by omega⟩, ?_⟩
    refine ⟨_, rfl, sa, _, _, 0, rfl, rfl, hs, rfl, ?_⟩
    exact ⟨_, rfl, q _ _ (Int.emod_nonneg _ (by omega)) (Int.emod_lt_of_pos _ m0)⟩
theorem sc__law_text : FnScope ["state", "many", "text", "k"] ["state"] (defScope s__law_text) := ⟨rfl, rfl, rfl, by decide +kernel, rfl, by decide +kernel, by decide +kernel⟩
theorem ok_ltext (T : Txt K w mg C) : Cal P w K mg base 2 "_law_text" spText := by
  have G_law_digit := ok_dig (P := P) (base := base) T
  refine cal_of T.d__law_text sc__law_text (fun vs H Q E h => ?_) (fun f cdv A outer s H vs Q E hr h => ?_)
  · obtain ⟨sa, s, G, M, rfl, _⟩ := h
    rfl
  · obtain ⟨sa, s0, G0, M, rfl, S, q⟩ := h
    have big : 100000 < sizeLine := by decide
    refine ⟨_, (pss_cons (ps_set (i := 1) sc__law_text.nd rfl (Or.inl rfl) (pe_ix ix_tup (pe_tup (pa_cons pe_int (pa_cons pe_int (pa_cons pe_int (pa_cons pe_int (pa_cons pe_int (pa_cons pe_int (pa_cons pe_int (pa_cons pe_int pa_nil))))))))) (pe_c G_law_digit hr (by decide) (by rfl) (pa_cons (pv 0) (pa_cons pe_int pa_nil))) (fun _ _ => rfl))) (pss_cons (ps_set (i := 2) sc__law_text.nd rfl (Or.inl rfl) pe_str) (pss_cons (ps_for PassesOwn.never rfl (pi_range1 (by rfl) T.z_range (pa_cons (pv 1) pa_nil)) (pg_name (i := 3) sc__law_text.nd rfl (Or.inl rfl)) (pss_one (ps_set (i := 2) sc__law_text.nd rfl (Or.inl rfl) (pe_op op_add_str (pv 2) (pe_ix ix_str pe_str (pe_c G_law_digit hr (by decide) (by rfl) (pa_cons (pv 0) (pa_cons pe_int pa_nil))) (fun _ _ => rfl)))))) (pss_one (ps_ret (pv 2)))))), ?_⟩
    refine ⟨by show 8 ≤ sizeLine; decide, fun t ht => ?_⟩
    have S1 := S.alloc (o := .tup [V.int 0, .int 1, .int 1, .int 2, .int 3, .int 5, .int 2, .int 1]) ht
    have g1 := S.grow (o := .tup [V.int 0, .int 1, .int 1, .int 2, .int 3, .int 5, .int 2, .int 1]) ht
    refine ⟨_, rfl, sa, s0, 8, rfl, S1.hd, by decide, by decide, fun z s' z0 z1 => ?_⟩
    have S2 := S1.put (u := .lst [.int s'])
    obtain ⟨c, hc, hm⟩ := atI_mem (xs := [V.int 0, .int 1, .int 1, .int 2, .int 3, .int 5, .int 2, .int 1]) z0 z1
    have ht2 := S2.s t _ (upd_same (o := HO.tup [V.int 0, .int 1, .int 1, .int 2, .int 3, .int 5, .int 2, .int 1]))
    obtain ⟨many, rfl, m5⟩ : ∃ m : Nat, c = V.int (m : Int) ∧ m ≤ 5 := by
      simp only [List.mem_cons, List.not_mem_nil, or_false] at hm
      rcases hm with rfl | rfl | rfl | rfl | rfl | rfl | rfl | rfl
      · exact ⟨0, rfl, by decide⟩
      · exact ⟨1, rfl, by decide⟩
      · exact ⟨1, rfl, by decide⟩
      · exact ⟨2, rfl, by decide⟩
      · exact ⟨3, rfl, by decide⟩
      · exact ⟨5, rfl, by decide⟩
      · exact ⟨2, rfl, by decide⟩
      · exact ⟨1, rfl, by decide⟩
    generalize upd G0 t (.tup [V.int 0, .int 1, .int 1, .int 2, .int 3, .int 5, .int 2, .int 1]) = G1 at S2 g1
    refine ⟨t, _, _, _, rfl, rfl, SqT.of ht2, hc, ?_⟩
    refine ⟨_, rfl, _, rfl, by omega, by omega, ?_⟩
    refine for_range (lo := 0) (n := many) (fun i σ H' => ∃ (s' : Int) (l : List Nat) (y3 : Option V), Sb G1 H' ((sa, .lst [.int s']) :: M) ∧ l.length = i ∧ (∀ c ∈ l, c < 128) ∧ σ = [some (.ref sa), some (.int (many : Int)), some (.str (TX l)), y3]) ⟨s', [], none, S2, rfl, (fun c h => nomatch h), rfl⟩ ?_ ?_
    · rintro i σ H3 hi ⟨s3, l, y3, S3, hl, hlc, rfl⟩
      refine ⟨_, rfl, _, rfl, sa, s3, 10, rfl, S3.hd, by decide, by decide, fun z s' z0 z1 => ?_⟩
      have S4 := S3.put (u := .lst [.int s'])
      obtain ⟨c, hc, hm⟩ := atI_mem (xs := ("ab01-9 z,\n" : Str).cps.toList) z0 z1
      have c128 : ∀ c ∈ ("ab01-9 z,\n" : Str).cps.toList, c < 128 := by decide +kernel
      refine ⟨_, z, c, rfl, rfl, by decide, hc, TX l, TX [c], rfl, rfl, ?_, ?_⟩
      · rw [TX_len, TX_len]
        show l.length + 1 ≤ sizeLine
        omega
      · have e := TX_cat l [c]
        rw [e]
        refine ⟨s', l ++ [c], _, S4, by rw [List.length_append, hl]; rfl, fun x hx => ?_, rfl⟩
        rcases List.mem_append.mp hx with hx | hx
        · exact hlc x hx
        · rw [List.mem_singleton.mp hx]
          exact c128 c hm
    · rintro σ H3 ⟨s3, l, y3, S3, hl, hlc, rfl⟩
      exact ⟨_, rfl, q (TX l) s3 G1 H3 S3 g1 (ok_txt (by omega) hlc)⟩
theorem sc__law_number : FnScope ["state", "choice", "great"] ["state"] (defScope s__law_number) := ⟨rfl, rfl, rfl, by decide +kernel, rfl, by decide +kernel, by decide +kernel⟩
theorem ok_lnum (T : Txt K w mg C) : Cal P w K mg base 2 "_law_number" spNumL := by
  have G_law_digit := ok_dig (P := P) (base := base) T
  refine cal_of T.d__law_number sc__law_number (fun vs H Q E h => ?_) (fun f cdv A outer s H vs Q E hr h => ?_)
  · obtain ⟨sa, s, G, M, rfl, _⟩ := h
    rfl
  · obtain ⟨sa, s0, G0, M, rfl, S, q⟩ := h
    refine ⟨_, (pss_cons (ps_set (i := 1) sc__law_number.nd rfl (Or.inl rfl) (pe_c G_law_digit hr (by decide) (by rfl) (pa_cons (pv 0) (pa_cons pe_int pa_nil)))) (pss_cons (ps_if (pt_cmpR op_lt (pv 1) pe_int (nomark _)) (pss_one (ps_ret (pe_op op_sub (pe_c G_law_digit hr (by decide) (by rfl) (pa_cons (pv 0) (pa_cons pe_int pa_nil))) pe_int))) pss_nil) (pss_cons (ps_if (pt_cmpR op_eq (pv 1) pe_int (nomark _)) (pss_one (ps_ret (pe_op op_sub (pe_c G_law_digit hr (by decide) (by rfl) (pa_cons (pv 0) (pa_cons pe_int pa_nil))) pe_int))) pss_nil) (pss_cons (ps_set (i := 2) sc__law_number.nd rfl (Or.inl rfl) (pe_op op_sub (pe_op op_pow pe_int pe_int) (pe_c G_law_digit hr (by decide) (by rfl) (pa_cons (pv 0) (pa_cons pe_int pa_nil))))) (pss_cons (ps_if (pt_cmpR op_eq (pv 1) pe_int (nomark _)) (pss_one (ps_ret (pv 2))) pss_nil) (pss_one (ps_ret (pe_op op_sub pe_int (pv 2))))))))), ?_⟩
    refine ⟨_, rfl, sa, s0, 8, rfl, S.hd, by decide, by decide, fun z s1 z0 z1 => ?_⟩
    have S1 := S.put (u := .lst [.int s1])
    refine ⟨_, rfl, _, _, rfl, rfl, _, rfl, ite2 (fun c => ?_) (fun c => ?_)⟩
    · refine ⟨_, rfl, sa, s1, 9, rfl, S1.hd, by decide, by decide, fun y s2 y0 y1 => ⟨_, _, rfl, rfl, ?_⟩⟩
      exact q _ s2 _ S1.put (ok_num (by omega) (by omega))
    · refine ⟨_, rfl, rfl, _, rfl, ite2 (fun c => ?_) (fun c => ?_)⟩
      · refine ⟨_, rfl, sa, s1, 2000, rfl, S1.hd, by decide, by decide, fun y s2 y0 y1 => ⟨_, _, rfl, rfl, ?_⟩⟩
        exact q _ s2 _ S1.put (ok_num (by omega) (by omega))
      · have e30 : ((10 : Int) ^ (30 : Int).toNat) = 10 ^ 30 := by decide
        refine ⟨_, _, rfl, rfl, ⟨by decide, by decide, by decide⟩, _, rfl, sa, s1, 3, rfl, S1.hd, by decide, by decide, fun y s2 y0 y1 => ⟨_, _, rfl, rfl, ?_⟩⟩
        refine ⟨_, rfl, rfl, _, rfl, ite2 (fun c => ?_) (fun c => ?_)⟩
        · refine ⟨_, rfl, ?_⟩
          rw [e30]
          exact q _ s2 _ S1.put (ok_num (by omega) (by omega))
        · refine ⟨_, rfl, _, _, rfl, rfl, ?_⟩
          rw [e30]
          exact q _ s2 _ S1.put (ok_num (by omega) (by omega))
end
end VL

set_option Elab.async false
set_option linter.all false
set_option pp.maxSteps 500
set_option maxRecDepth 100000
set_option maxHeartbeats 4000000
namespace VL
open PySem PySem.Spec PyProof.Rows L2
structure RcA (G : Hp) (n : Nat) (kvs : List (Key × V)) (ks : List Str) (vs : List Val) : Prop where
  k : kvs.map (·.1) = ks.map Sum.inr
  nd : ks.Nodup
  v : VHs G vs (kvs.map (·.2))
  ok : okVs vs n
  sm : ∀ x ∈ ks, Small 60 0 (.str x) ∧ x.length ≤ 5
theorem RcA.same {G G' : Hp} {n : Nat} {kvs : List (Key × V)} {ks : List Str} {vs : List Val} (h : RcA G n kvs ks vs) (s : Same G G') : RcA G' n kvs ks vs := ⟨h.k, h.nd, h.v.same s, h.ok, h.sm⟩
theorem RcA.len {G : Hp} {n : Nat} {kvs : List (Key × V)} {ks : List Str} {vs : List Val} (h : RcA G n kvs ks vs) : ks.length = vs.length ∧ kvs.length = vs.length := by
  have h1 := congrArg List.length h.k
  have h2 := h.v.len
  simp only [List.length_map] at h1 h2
  omega
theorem rc_put {G : Hp} {n : Nat} {k : Str} {v : V} {d : Val} (hv : VH G d v) (hok : okV d n) (hk : Small 60 0 (.str k) ∧ k.length ≤ 5) : ∀ {kvs : List (Key × V)} {ks : List Str} {vs : List Val}, RcA G n kvs ks vs → ∃ ks' vs', RcA G n (putK kvs (.inr k) v) ks' vs' ∧ vs'.length ≤ vs.length + 1 ∧ ∀ x ∈ ks', x = k ∨ x ∈ ks
  | [], ks, vs, h => by
    have e1 : ks = [] := by have := h.k; cases ks <;> simp at this ⊢
    have e2 : vs = [] := by have := h.len.1; rw [e1] at this; exact List.eq_nil_of_length_eq_zero this.symm
    subst e1 e2
    exact ⟨[k], [d], ⟨rfl, by simp, .cons hv .nil, by simp only [okVs]; exact ⟨hok, trivial⟩, fun x hx => by rw [List.mem_singleton.mp hx]; exact hk⟩, by simp, fun x hx => .inl (List.mem_singleton.mp hx)⟩
  | p :: kvs, ks, vs, h => by
    obtain ⟨h1, h2, h3, h4, h5⟩ := h
    cases ks with
    | nil => simp at h1
    | cons l ks =>
      simp only [List.map_cons, List.cons.injEq] at h1
      cases vs with
      | nil => simp [VHs] at h3
      | cons e vs =>
        simp only [VHs, List.map_cons, List.cons.injEq] at h3
        obtain ⟨y, ys, ⟨rfl, rfl⟩, g1, g2⟩ := h3
        simp only [okVs] at h4
        have nd := List.nodup_cons.mp h2
        by_cases z : l = k
        · subst z
          have tl : kvs.map (fun kv => if kv.1 = Sum.inr l then (kv.1, v) else kv) = kvs := by
            have : kvs.map (fun kv => if kv.1 = Sum.inr l then (kv.1, v) else kv) = kvs.map id := List.map_congr_left fun q hq => by
              have hm : q.1 ∈ kvs.map (·.1) := List.mem_map.mpr ⟨q, hq, rfl⟩
              rw [h1.2] at hm
              obtain ⟨x, hx, ex⟩ := List.mem_map.mp hm
              have ne : ¬ q.1 = Sum.inr l := fun z => nd.1 (by rw [← ex] at z; rw [← Sum.inr.inj z]; exact hx)
              rw [if_neg ne]
              rfl
            rw [this, List.map_id]
          have e : putK (p :: kvs) (.inr l) v = (p.1, v) :: kvs := by simp [putK, h1.1, tl]
          rw [e]
          refine ⟨l :: ks, d :: vs, ⟨?_, h2, ?_, ?_, h5⟩, by simp, fun x hx => .inr hx⟩
          · simp only [List.map_cons, h1.1, h1.2]
          · exact .cons hv g2
          · simp only [okVs]; exact ⟨hok, h4.2⟩
        · have e' : putK (p :: kvs) (.inr k) v = p :: putK kvs (.inr k) v := by
            have : ¬ p.1 = .inr k := by rw [h1.1]; exact fun q => z (Sum.inr.inj q)
            by_cases an : (kvs.any fun kv => decide (kv.1 = Sum.inr k)) = true <;> simp [putK, this, an]
          rw [e']
          obtain ⟨ks1, vs1, r, hl, hm⟩ := rc_put hv hok hk (kvs := kvs) (ks := ks) (vs := vs) ⟨h1.2, nd.2, g2, h4.2, fun x hx => h5 x (List.mem_cons_of_mem _ hx)⟩
          refine ⟨l :: ks1, e :: vs1, ⟨?_, ?_, ?_, ?_, ?_⟩, by simp only [List.length_cons]; omega, ?_⟩
          · simp only [List.map_cons, h1.1, r.k]
          · refine List.nodup_cons.mpr ⟨fun hx => ?_, r.nd⟩
            rcases hm l hx with q | q
            · exact z q
            · exact nd.1 q
          · exact .cons g1 r.v
          · simp only [okVs]; exact ⟨h4.1, r.ok⟩
          · intro x hx
            rcases List.mem_cons.mp hx with rfl | hx
            · exact h5 _ List.mem_cons_self
            · exact r.sm x hx
          · intro x hx
            rcases List.mem_cons.mp hx with rfl | hx
            · exact .inr List.mem_cons_self
            · rcases hm x hx with q | q
              · exact .inl q
              · exact .inr (List.mem_cons_of_mem _ q)
def spVal (n : Nat) : Sp := fun vs H Q _ => ∃ (sa : Addr) (s : Int) (G : Hp) (M : List (Addr × HO)), vs = [.ref sa, .int (n : Int)] ∧ Sb G H ((sa, .lst [.int s]) :: M) ∧ ∀ v d s' G' H', Sb G' H' ((sa, .lst [.int s']) :: M) → Same G G' → VH G' d v → okV d n → Q v H'
theorem wordS : ∀ x ∈ ([ "x", "y", "zz", "" ] : List Str), Small 60 0 (.str x) ∧ x.length ≤ 5 := fun x hx => by
  simp only [List.mem_cons, List.not_mem_nil, or_false] at hx
  rcases hx with rfl | rfl | rfl | rfl <;> exact ⟨⟨rfl, Nat.le_refl _, by decide +kernel⟩, by decide⟩
theorem wordA : ∀ x ∈ ([ "go", "stop2" ] : List Str), Small 60 0 (.str x) ∧ x.length ≤ 5 := fun x hx => by
  simp only [List.mem_cons, List.not_mem_nil, or_false] at hx
  rcases hx with rfl | rfl <;> exact ⟨⟨rfl, Nat.le_refl _, by decide +kernel⟩, by decide⟩
section
variable {P : Program} {w : World} {K : PySem.W.Frag} {mg : Str → Option Value} {base : Heap} {C : Ad}
theorem sc__law_value : FnScope ["state", "levels", "kind", "many", "k", "record", "owner", "name"] ["state", "levels"] (defScope s__law_value) := ⟨rfl, rfl, rfl, by decide +kernel, rfl, by decide +kernel, by decide +kernel⟩
theorem val_S (T : Txt K w mg C) {n k : Nat} {sp : Sp} (hk : 2 ≤ k) (hsp : ∀ m, m + 1 = n → sp = spVal m) (G_law_value : Cal P w K mg base k "_law_value" sp) : Cal P w K mg base (k + 1) "_law_value" (spVal n) := by
  have G_law_digit := ok_dig (P := P) (base := base) T
  have G_law_text := ok_ltext (P := P) (base := base) T
  have G_law_number := ok_lnum (P := P) (base := base) T
  refine cal_of T.d__law_value sc__law_value (fun vs H Q E h => ?_) (fun f cdv A outer s H vs Q E hr h => ?_)
  · obtain ⟨sa, s, G, M, rfl, _⟩ := h
    rfl
  · obtain ⟨sa, s0, G0, M, rfl, S, q⟩ := h
    have hu := hu_of hr
    have big : 100000 < sizeLine := by decide
    refine ⟨_, (pss_cons (ps_set (i := 2) sc__law_value.nd rfl (Or.inl rfl) (pe_c G_law_digit hr (by omega) (by rfl) (pa_cons (pv 0) (pa_cons pe_int pa_nil)))) (pss_cons (ps_if (pt_cmpR op_eq (pv 2) pe_int (nomark _)) (pss_one (ps_ret pe_non)) pss_nil) (pss_cons (ps_if (pt_cmpR op_eq (pv 2) pe_int (nomark _)) (pss_one (ps_ret (pe_cmpR op_eq (pe_c G_law_digit hr (by omega) (by rfl) (pa_cons (pv 0) (pa_cons pe_int pa_nil))) pe_int (nomark _)))) pss_nil) (pss_cons (ps_if (pt_cmpR op_lt (pv 2) pe_int (nomark _)) (pss_one (ps_ret (pe_c G_law_number hr (by omega) (by rfl) (pa_cons (pv 0) pa_nil)))) pss_nil) (pss_cons (ps_if (PW.pt (pw_or (pt_cmpR op_lt (pv 2) pe_int (nomark _)) (pw_or1 (pt_cmpR op_eq (pv 1) pe_int (nomark _))))) (pss_one (ps_ret (pe_c G_law_text hr (by omega) (by rfl) (pa_cons (pv 0) pa_nil)))) pss_nil) (pss_cons (ps_set (i := 3) sc__law_value.nd rfl (Or.inl rfl) (pe_c G_law_digit hr (by omega) (by rfl) (pa_cons (pv 0) (pa_cons pe_int pa_nil)))) (pss_cons (ps_if (pt_cmpR op_lt (pv 2) pe_int (nomark _)) (pss_one (ps_ret (pe_lc (own := [("k", 4)]) (g := gName 4) (tt := tYes) rfl sc__law_value.nd (pi_range1 (by rfl) T.z_range (pa_cons (pv 3) pa_nil)) (blkOk_by (N := ["state", "levels", "kind", "many", "k", "record", "owner", "name"]) (sc := (defScope s__law_value)) (by decide +kernel)) (fun _ _ _ _ _ => pg_name (i := 4) sc__law_value.nd rfl (Or.inl rfl)) (fun _ _ _ _ _ => pts_nil) (fun _ _ _ _ _ => (pe_c G_law_value hr (by omega) (by rfl) (pa_cons (pv 0) (pa_cons (pe_op op_sub (pv 1) pe_int) pa_nil))))))) pss_nil) (pss_cons (ps_if (pt_cmpR op_eq (pv 2) pe_int (nomark _)) (pss_cons (ps_set (i := 5) sc__law_value.nd rfl (Or.inl rfl) pe_dnewK) (pss_cons (ps_for PassesOwn.never rfl (pi_range1 (by rfl) T.z_range (pa_cons (pv 3) pa_nil)) (pg_name (i := 4) sc__law_value.nd rfl (Or.inl rfl)) (pss_one (ps_dput hu (pv 5) (pe_ix ix_tup (pe_tup (pa_cons pe_str (pa_cons pe_str (pa_cons pe_str (pa_cons pe_str pa_nil))))) (pe_c G_law_digit hr (by omega) (by rfl) (pa_cons (pv 0) (pa_cons pe_int pa_nil))) (fun _ _ => rfl)) (pe_c G_law_value hr (by omega) (by rfl) (pa_cons (pv 0) (pa_cons (pe_op op_sub (pv 1) pe_int) pa_nil))) rfl))) (pss_one (ps_ret (pv 5))))) pss_nil) (pss_cons (ps_set (i := 6) sc__law_value.nd rfl (Or.inl rfl) (pe_c G_law_digit hr (by omega) (by rfl) (pa_cons (pv 0) (pa_cons pe_int pa_nil)))) (pss_cons (ps_set (i := 7) sc__law_value.nd rfl (Or.inl rfl) (pe_ix ix_tup (pe_tup (pa_cons pe_str (pa_cons pe_str pa_nil))) (pe_c G_law_digit hr (by omega) (by rfl) (pa_cons (pv 0) (pa_cons pe_int pa_nil))) (fun _ _ => rfl))) (pss_one (ps_ret (pe_tup (pa_cons pe_str (pa_cons (pv 6) (pa_cons (pv 7) (pa_cons (pe_lc (own := [("k", 4)]) (g := gName 4) (tt := tYes) rfl sc__law_value.nd (pi_range1 (by rfl) T.z_range (pa_cons (pv 3) pa_nil)) (blkOk_by (N := ["state", "levels", "kind", "many", "k", "record", "owner", "name"]) (sc := (defScope s__law_value)) (by decide +kernel)) (fun _ _ _ _ _ => pg_name (i := 4) sc__law_value.nd rfl (Or.inl rfl)) (fun _ _ _ _ _ => pts_nil) (fun _ _ _ _ _ => (pe_c G_law_value hr (by omega) (by rfl) (pa_cons (pv 0) (pa_cons (pe_op op_sub (pv 1) pe_int) pa_nil))))) pa_nil))))))))))))))))), ?_⟩
    refine ⟨_, rfl, sa, s0, 10, rfl, S.hd, by decide, by decide, fun kd s1 k0 k1 => ?_⟩
    have S1 := S.put (u := .lst [.int s1])
    refine ⟨_, rfl, rfl, _, rfl, ite2 (fun c => ?_) (fun c0 => ?_)⟩
    · exact q .non .nul s1 G0 _ S1 (Same.refl _) (by simp only [VH]) (by simp only [okV])
    refine ⟨_, rfl, rfl, _, rfl, ite2 (fun c => ?_) (fun c1 => ?_)⟩
    · refine ⟨_, rfl, sa, s1, 2, rfl, S1.hd, by decide, by decide, fun y s2 y0 y1 => ⟨rfl, ?_⟩⟩
      exact q _ (.bl (decide (V.int y = V.int 1))) s2 G0 _ S1.put (Same.refl _) (by simp only [VH]) (by simp only [okV])
    refine ⟨_, rfl, _, _, rfl, rfl, _, rfl, ite2 (fun c => ?_) (fun c2 => ?_)⟩
    · exact ⟨_, rfl, sa, s1, G0, M, rfl, S1, fun i s2 H2 S2 hi => q _ (.num i) s2 G0 _ S2 (Same.refl _) (by simp only [VH]) (okV_mono _ (Nat.zero_le _) hi)⟩
    have txt : tRet (tCall spText [] E0 (tCons (tVar 0) tNil)) { nx := fun x H' => Q V.non H', rt := Q } [some (.ref sa), some (.int (n : Int)), some (.int kd), none, none, none, none, none] (upd H sa (.lst [.int s1])) := ⟨_, rfl, sa, s1, G0, M, rfl, S1, fun x s2 G2 H2 S2 g2 hi => q _ (.txt x) s2 G2 _ S2 g2 (by simp only [VH]) (okV_mono _ (Nat.zero_le _) hi)⟩
    refine ⟨_, rfl, _, _, rfl, rfl, _, rfl, ite2 (fun c => ?_) (fun c3 => ?_)⟩
    · exact txt
    refine ⟨_, rfl, rfl, _, rfl, ite2 (fun c => ?_) (fun c4 => ?_)⟩
    · exact txt
    obtain ⟨m, rfl⟩ : ∃ m, n = m + 1 := by
      refine ⟨n - 1, ?_⟩
      have : ¬ (n : Int) = 0 := fun z => c4 (by simp [z])
      omega
    have e := hsp m rfl
    subst e
    have em : ((m + 1 : Nat) : Int) - 1 = (m : Int) := by omega
    refine ⟨_, rfl, sa, s1, 4, rfl, S1.hd, by decide, by decide, fun my s2 m0 m1 => ?_⟩
    have S2 := S1.put (u := .lst [.int s2])
    obtain ⟨many, rfl⟩ := Int.eq_ofNat_of_zero_le m0
    generalize upd (upd H sa (.lst [.int s1])) sa (.lst [.int s2]) = H2 at S2 ⊢
    refine ⟨_, rfl, _, _, rfl, rfl, _, rfl, ite2 (fun c => ?_) (fun c5 => ?_)⟩
    · refine ⟨_, rfl, _, rfl, by omega, by omega, fun D hD => ?_⟩
      have S3 := S2.add (o := .lst []) hD
      refine lc_it (walk_range (lo := 0) (n := many)) (fun i H' => ∃ (s' : Int) (ys : List V) (vs : List Val) (G : Hp), Sb G H' ((D, .lst ys) :: (sa, .lst [.int s']) :: M) ∧ Same G0 G ∧ VHs G vs ys ∧ okVs vs m ∧ vs.length = i) ⟨s2, [], [], G0, S3, Same.refl _, .nil, by simp only [okVs], rfl⟩ (fun _ _ _ _ => trivial) ?_ ?_
      · rintro i x H3 H4 hi ⟨s', ys, vs, G, S4, g, hv, hok, hl⟩ ⟨rfl, rfl⟩
        have yl := hv.len
        refine ⟨rfl, _, rfl, _, rfl, _, _, rfl, rfl, sa, s', G, (D, .lst ys) :: M, by show [V.ref sa, V.int (((m + 1 : Nat) : Int) - 1)] = _; rw [em], S4.swap, fun v d s2 G5 H5 S5 g5 hvd hd => ?_⟩
        exact ⟨ys, S5.hd2, by omega, s2, ys ++ [v], vs ++ [d], G5, S5.put2.swap, Same.trans g g5, (hv.same g5).snoc hvd, okVs_app.mpr ⟨hok, by simp only [okVs]; exact ⟨hd, trivial⟩⟩, by rw [List.length_append, hl]; rfl⟩
      · rintro H3 ⟨s', ys, vs, G, S4, g, hv, hok, hl⟩
        obtain ⟨S5, g5⟩ := S4.drop
        refine q (.ref D) (.lst vs) s' _ H3 S5 (Same.trans g g5) ?_ ?_
        · simp only [VH]
          exact ⟨D, ys, rfl, upd_same, hv.same g5⟩
        · simp only [okV]
          exact ⟨m, rfl, by omega, hok⟩
    refine ⟨_, rfl, rfl, _, rfl, ite2 (fun c => ?_) (fun c6 => ?_)⟩
    · refine fun D hD => ?_
      have S3 := S2.add (o := .dK []) hD
      refine ⟨_, rfl, _, rfl, by omega, by omega, ?_⟩
      refine for_range (lo := 0) (n := many) (fun i σ H' => ∃ (s' : Int) (kvs : List (Key × V)) (ks : List Str) (vs : List Val) (G : Hp) (y4 : Option V), Sb G H' ((D, .dK kvs) :: (sa, .lst [.int s']) :: M) ∧ Same G0 G ∧ RcA G m kvs ks vs ∧ vs.length ≤ i ∧ σ = [some (.ref sa), some (.int ((m + 1 : Nat) : Int)), some (.int kd), some (.int (many : Int)), y4, some (.ref D), none, none]) ⟨s2, [], [], [], G0, none, S3, Same.refl _, ⟨rfl, List.nodup_nil, .nil, by simp only [okVs], fun x h => nomatch h⟩, Nat.le_refl _, rfl⟩ ?_ ?_
      · rintro i σ H3 hi ⟨s', kvs, ks, vs, G, y4, S4, g, hR, hl, rfl⟩
        have vl := hR.len
        refine ⟨_, rfl, _, rfl, _, _, rfl, rfl, sa, s', G, (D, .dK kvs) :: M, by show [V.ref sa, V.int (((m + 1 : Nat) : Int) - 1)] = _; rw [em], S4.swap, fun v d s5 G5 H5 S5 g5 hvd hd => ?_⟩
        refine ⟨_, rfl, ?_⟩
        refine ⟨by show 4 ≤ sizeLine; decide, fun t ht => ?_⟩
        have S6 := S5.alloc (o := .tup [V.str "x", .str "y", .str "zz", .str ""]) ht
        have g6 := S5.grow (o := .tup [V.str "x", .str "y", .str "zz", .str ""]) ht
        refine ⟨_, rfl, sa, s5, 4, rfl, S6.hd, by decide, by decide, fun z s6 z0 z1 => ?_⟩
        have S7 := S6.put (u := .lst [.int s6])
        obtain ⟨c, hc, hm⟩ := atI_mem (xs := [V.str "x", .str "y", .str "zz", .str ""]) z0 z1
        have ht2 := S7.s t _ (upd_same (o := HO.tup [V.str "x", .str "y", .str "zz", .str ""]))
        obtain ⟨x, rfl, hx⟩ : ∃ x, c = V.str x ∧ x ∈ (["x", "y", "zz", ""] : List Str) := by
          simp only [List.mem_cons, List.not_mem_nil, or_false] at hm
          rcases hm with rfl | rfl | rfl | rfl <;> exact ⟨_, rfl, by decide⟩
        obtain ⟨ks', vs', hR', hl', _⟩ := rc_put (hvd.same g6) hd (wordS x hx) (hR.same (Same.trans g5 g6))
        refine ⟨t, _, _, _, rfl, rfl, SqT.of ht2, hc, ?_⟩
        refine ⟨D, _, rfl, DPut.k (k := .inr x) S7.hd2 (by omega), s6, _, ks', vs', _, _, S7.put2.swap, Same.trans g (Same.trans g5 g6), hR', by omega, rfl⟩
      · rintro σ H3 ⟨s', kvs, ks, vs, G, y4, S4, g, hR, hl, rfl⟩
        obtain ⟨S5, g5⟩ := S4.drop
        have hR5 := hR.same g5
        refine ⟨_, rfl, q (.ref D) (.rc ks vs) s' _ H3 S5 (Same.trans g g5) ?_ ?_⟩
        · simp only [VH]
          exact ⟨D, kvs, rfl, upd_same, hR5.k, hR5.nd, hR5.v⟩
        · simp only [okV]
          exact ⟨m, rfl, by omega, hR.len.1, hR.nd, hR.sm, hR.ok⟩
    refine ⟨_, rfl, sa, s2, 3, rfl, S2.hd, by decide, by decide, fun ow s3 o0 o1 => ?_⟩
    have S3 := S2.put (u := .lst [.int s3])
    refine ⟨by show 2 ≤ sizeLine; decide, fun t ht => ?_⟩
    have S4 := S3.alloc (o := .tup [V.str "go", .str "stop2"]) ht
    have g4 := S3.grow (o := .tup [V.str "go", .str "stop2"]) ht
    refine ⟨_, rfl, sa, s3, 2, rfl, S4.hd, by decide, by decide, fun z s4 z0 z1 => ?_⟩
    have S5 := S4.put (u := .lst [.int s4])
    obtain ⟨c, hc, hm⟩ := atI_mem (xs := [V.str "go", .str "stop2"]) z0 z1
    have ht2 := S5.s t _ (upd_same (o := HO.tup [V.str "go", .str "stop2"]))
    obtain ⟨x, rfl, hx⟩ : ∃ x, c = V.str x ∧ x ∈ (["go", "stop2"] : List Str) := by
      simp only [List.mem_cons, List.not_mem_nil, or_false] at hm
      rcases hm with rfl | rfl <;> exact ⟨_, rfl, by decide⟩
    generalize upd G0 t (.tup [V.str "go", .str "stop2"]) = G1 at S5 g4
    refine ⟨t, _, _, _, rfl, rfl, SqT.of ht2, hc, ?_⟩
    generalize upd (upd (upd H2 sa (.lst [.int s3])) t (.tup [V.str "go", .str "stop2"])) sa (.lst [.int s4]) = H5 at S5 ⊢
    refine ⟨_, rfl, _, rfl, ?_⟩
    refine ⟨_, rfl, _, rfl, by omega, by omega, fun D hD => ?_⟩
    have S3 := S5.add (o := .lst []) hD
    refine lc_it (walk_range (lo := 0) (n := many)) (fun i H' => ∃ (s' : Int) (ys : List V) (vs : List Val) (G : Hp), Sb G H' ((D, .lst ys) :: (sa, .lst [.int s']) :: M) ∧ Same G1 G ∧ VHs G vs ys ∧ okVs vs m ∧ vs.length = i) ⟨s4, [], [], G1, S3, Same.refl _, .nil, by simp only [okVs], rfl⟩ (fun _ _ _ _ => trivial) ?_ ?_
    · rintro i x H3 H4 hi ⟨s', ys, vs, G, S4, g, hv, hok, hl⟩ ⟨rfl, rfl⟩
      have yl := hv.len
      refine ⟨rfl, _, rfl, _, rfl, _, _, rfl, rfl, sa, s', G, (D, .lst ys) :: M, by show [V.ref sa, V.int (((m + 1 : Nat) : Int) - 1)] = _; rw [em], S4.swap, fun v d s2 G5 H5 S5 g5 hvd hd => ?_⟩
      exact ⟨ys, S5.hd2, by omega, s2, ys ++ [v], vs ++ [d], G5, S5.put2.swap, Same.trans g g5, (hv.same g5).snoc hvd, okVs_app.mpr ⟨hok, by simp only [okVs]; exact ⟨hd, trivial⟩⟩, by rw [List.length_append, hl]; rfl⟩
    · rintro H3 ⟨s', ys, vs, G, S4, g, hv, hok, hl⟩
      obtain ⟨S5, g5⟩ := S4.drop
      refine ⟨by show 4 ≤ sizeLine; decide, fun p hp => ?_⟩
      have S6 := S5.alloc (o := .tup [.str "act", .int ow, .str x, .ref D]) hp
      have g6 := S5.grow (o := .tup [.str "act", .int ow, .str x, .ref D]) hp
      refine q (.ref p) (.act ow x vs) s' _ _ S6 (Same.trans g4 (Same.trans g (Same.trans g5 g6))) ?_ ?_
      · simp only [VH]
        exact ⟨p, D, ys, rfl, upd_same, g6 _ _ upd_same, hv.same (Same.trans g5 g6)⟩
      · simp only [okV]
        exact ⟨m, rfl, small_int (by omega) (by omega), wordA x hx, by omega, hok⟩
theorem val_0 (T : Txt K w mg C) {k : Nat} : Cal P w K mg base (k + 1) "_law_value" spFalse := cal_of T.d__law_value sc__law_value (fun vs H Q E h => h.elim) (fun f cdv A outer s H vs Q E hr h => h.elim)
theorem val_N (T : Txt K w mg C) : ∀ n : Nat, Cal P w K mg base (n + 3) "_law_value" (spVal n)
  | 0 => val_S T (sp := spFalse) (by decide) (fun m h => by omega) (val_0 T)
  | n + 1 => val_S T (sp := spVal n) (by omega) (fun j h => by rw [show j = n by omega]) (val_N T n)
end
end VL

set_option Elab.async false
set_option linter.all false
set_option pp.maxSteps 500
set_option maxRecDepth 100000
set_option maxHeartbeats 4000000
namespace VL
open PySem PySem.Spec PyProof.Rows L2
theorem eqv_strs : ∀ a b : List Str, PyData.eqv (.list (a.map PyData.str)) (.list (b.map PyData.str)) = decide (a = b) := by
  have h : ∀ a b : List Str, PyData.eqvAll (a.map PyData.str) (b.map PyData.str) = decide (a = b) := by
    intro a
    induction a with
    | nil =>
      intro b
      cases b with
      | nil => rfl
      | cons y b => show false = decide (([] : List Str) = y :: b); simp
    | cons x a ih =>
      intro b
      cases b with
      | nil => show false = decide (x :: a = ([] : List Str)); simp
      | cons y b =>
        show ((x == y) && PyData.eqvAll (a.map PyData.str) (b.map PyData.str)) = decide (x :: a = y :: b)
        rw [ih b]
        by_cases e : x = y
        · subst e
          by_cases e2 : a = b <;> simp [e2]
        · have : (x == y) = false := by simpa using e
          rw [this]
          simp [e]
  exact fun a b => h a b
theorem ltCps_iff : ∀ a b : List Nat, ltCps a b = true ↔ a < b
  | [], [] => by simp [ltCps]
  | [], y :: b => by simp [ltCps]
  | x :: a, [] => by simp [ltCps]
  | x :: a, y :: b => by
    have ih := ltCps_iff a b
    rw [List.cons_lt_cons_iff]
    simp only [ltCps, Bool.or_eq_true, Bool.and_eq_true, decide_eq_true_eq, beq_iff_eq, ih]
def leS (x y : Str) : Prop := x.cps.toList ≤ y.cps.toList
theorem leS_trans {x y z : Str} (h : leS x y) (g : leS y z) : leS x z := List.le_trans h g
theorem leS_anti {x y : Str} (h : leS x y) (g : leS y x) : x = y := by
  have e : x.cps.toList = y.cps.toList := List.le_antisymm h g
  obtain ⟨⟨a⟩⟩ := x
  obtain ⟨⟨b⟩⟩ := y
  have e : a = b := e
  rw [e]
theorem rising_pw : ∀ (x : Str) (r : List Str), risingS x r = true → (x :: r).Pairwise leS
  | x, [], h => List.pairwise_singleton _ _
  | x, y :: r, h => by
    have h' : (!ltCps y.cps.toList x.cps.toList && risingS y r) = true := h
    simp only [Bool.and_eq_true, Bool.not_eq_true'] at h'
    have ih := rising_pw y r h'.2
    have le : leS x y := by
      refine List.not_lt.mp fun z => ?_
      rw [(ltCps_iff _ _).mpr z] at h'
      exact nomatch h'.1
    refine List.pairwise_cons.mpr ⟨fun z hz => ?_, ih⟩
    rcases List.mem_cons.mp hz with rfl | hz
    · exact le
    · exact leS_trans le ((List.pairwise_cons.mp ih).1 z hz)
theorem sorted_pw {l : List Str} (h : sortedS l = true) : l.Pairwise leS := by
  cases l with
  | nil => exact List.Pairwise.nil
  | cons x r => exact rising_pw x r h
theorem sorted_one : ∀ {l m : List Str}, l.Pairwise leS → m.Pairwise leS → l.Perm m → l = m
  | [], m, _, _, h => h.nil_eq
  | x :: l, [], _, _, h => absurd h.length_eq (by simp)
  | x :: l, y :: m, hl, hm, h => by
    have hl' := List.pairwise_cons.mp hl
    have hm' := List.pairwise_cons.mp hm
    have e : x = y := by
      rcases List.mem_cons.mp (h.mem_iff.mp (List.mem_cons_self (a := x) (l := l))) with e | hx
      · exact e
      · rcases List.mem_cons.mp (h.mem_iff.mpr (List.mem_cons_self (a := y) (l := m))) with e | hy
        · exact e.symm
        · exact leS_anti (hl'.1 _ hy) (hm'.1 _ hx)
    subst e
    rw [sorted_one hl'.2 hm'.2 h.cons_inv]
def kindN : Val → Str
  | .nul => "null"
  | .bl _ => "boolean"
  | .num _ => "number"
  | .txt _ => "text"
  | .lst _ => "list"
  | .rc _ _ => "record"
  | .act _ _ _ => "act"
def spKind : Sp := fun vs H Q _ => ∃ (v : V) (d : Val), vs = [v] ∧ VR H d v ∧ Q (.str (kindN d)) H
def MemX (G : Hp) (d : Val) (v : V) (xs : List V) : Prop := match d with
  | .lst _ => ∃ a, v = .ref a ∧ G a = some (.lst xs)
  | .rc _ _ => ∃ a kvs, v = .ref a ∧ G a = some (.dK kvs) ∧ xs = kvs.map (·.2)
  | .act _ _ _ => ∃ a l x y z, v = .ref a ∧ G a = some (.tup [x, y, z, .ref l]) ∧ G l = some (.lst xs)
  | _ => xs = []
def RowR (G : Hp) (d : Val) (v : V) (r : Addr) : Prop := match d with
  | .lst _ => v = .ref r
  | .act _ _ _ => ∃ a x y z, v = .ref a ∧ G a = some (.tup [x, y, z, .ref r])
  | _ => G r = none
def PzOk (d : Val) : Prop := match d with
  | .rc ks vs => ks.length = vs.length ∧ vs.length ≤ 100
  | _ => True
theorem pz_ok {d : Val} {n : Nat} (h : okV d n) : PzOk d := by
  cases d with
  | rc ks vs =>
    simp only [okV] at h
    obtain ⟨m, _, h1, h2, _⟩ := h
    exact ⟨h2, by omega⟩
  | _ => trivial
def spParts : Sp := fun vs H Q _ => ∃ (v : V) (d : Val) (G : Hp) (M : List (Addr × HO)), vs = [v] ∧ Sb G H M ∧ VH G d v ∧ PzOk d ∧ ∀ r xs G' H', Sb G' H' M → Same G G' → G' r = some (.lst xs) → MemX G d v xs → RowR G d v r → VHs G' (partsV d) xs → Q (.ref r) H'
section
variable {P : Program} {w : World} {K : PySem.W.Frag} {mg : Str → Option Value} {base : Heap} {C : Ad}
theorem sc__law_kind : FnScope ["value"] ["value"] (defScope s__law_kind) := ⟨rfl, rfl, rfl, by decide +kernel, rfl, by decide +kernel, by decide +kernel⟩
theorem ok_kind (T : Txt K w mg C) : Cal P w K mg base 1 "_law_kind" spKind := by
  refine cal_of T.d__law_kind sc__law_kind (fun vs H Q E h => ?_) (fun f cdv A outer s H vs Q E hr h => ?_)
  · obtain ⟨v, d, rfl, _⟩ := h
    rfl
  · obtain ⟨v, d, rfl, hv, q⟩ := h
    have ty := ty_R (K := K) hv
    have nn := is_nonR hv
    refine ⟨_, (pss_cons (ps_if (pt_cmp (pc_isN (pv 0))) (pss_one (ps_ret pe_str)) pss_nil) (pss_cons (ps_if (pt_val (pe_callB call_isi (by rfl) T.z_isinstance (by decide +kernel) (pa_cons (pv 0) (pa_cons (pe_bltn (v := .ty "bool") (by rfl) T.z_bool (by decide +kernel) rfl) pa_nil)))) (pss_one (ps_ret pe_str)) pss_nil) (pss_cons (ps_if (pt_val (pe_callB call_isi (by rfl) T.z_isinstance (by decide +kernel) (pa_cons (pv 0) (pa_cons (pe_bltn (v := .ty "int") (by rfl) T.z_int (by decide +kernel) rfl) pa_nil)))) (pss_one (ps_ret pe_str)) pss_nil) (pss_cons (ps_if (pt_val (pe_callB call_isi (by rfl) T.z_isinstance (by decide +kernel) (pa_cons (pv 0) (pa_cons (pe_bltn (v := .ty "str") (by rfl) T.z_str (by decide +kernel) rfl) pa_nil)))) (pss_one (ps_ret pe_str)) pss_nil) (pss_cons (ps_if (pt_val (pe_callB call_isi (by rfl) T.z_isinstance (by decide +kernel) (pa_cons (pv 0) (pa_cons (pe_bltn (v := .ty "list") (by rfl) T.z_list (by decide +kernel) rfl) pa_nil)))) (pss_one (ps_ret pe_str)) pss_nil) (pss_cons (ps_if (pt_val (pe_callB call_isi (by rfl) T.z_isinstance (by decide +kernel) (pa_cons (pv 0) (pa_cons (pe_bltn (v := .ty "dict") (by rfl) T.z_dict (by decide +kernel) rfl) pa_nil)))) (pss_one (ps_ret pe_str)) pss_nil) (pss_cons (ps_if (PW.pt (pw_and (pt_val (pe_callB call_isi (by rfl) T.z_isinstance (by decide +kernel) (pa_cons (pv 0) (pa_cons (pe_bltn (v := .ty "tuple") (by rfl) T.z_tuple (by decide +kernel) rfl) pa_nil)))) (pw_and (pt_cmpR op_eq (pe_callB call_len_seq (by rfl) T.z_len PySem.boot_len (pa_cons (pv 0) pa_nil)) pe_int (nomark _)) (pw_and1 (pt_cmpR op_eq (pe_ix ix_tup (pv 0) pe_int (fun _ _ => rfl)) pe_str (nomark _)))))) (pss_one (ps_ret pe_str)) pss_nil) (pss_one (ps_ret pe_str))))))))), ?_⟩
    refine ⟨_, rfl, isN d, by rw [nn], ?_⟩
    cases d with
    | nul => exact iteT' rfl q
    | bl b => exact iteF' rfl ⟨_, rfl, v, .ty "bool", _, _, _, rfl, .ty _, ty, kit_ty (kB _), _, rfl, iteT' rfl q⟩
    | num i => exact iteF' rfl ⟨_, rfl, v, .ty "bool", _, _, _, rfl, .ty _, ty, kit_ty (kB _), _, rfl, iteF' rfl ⟨_, rfl, v, .ty "int", _, _, _, rfl, .ty _, ty, kit_ty (kI _), _, rfl, iteT' rfl q⟩⟩
    | txt x => exact iteF' rfl ⟨_, rfl, v, .ty "bool", _, _, _, rfl, .ty _, ty, kit_ty (kB _), _, rfl, iteF' rfl ⟨_, rfl, v, .ty "int", _, _, _, rfl, .ty _, ty, kit_ty (kI _), _, rfl, iteF' rfl ⟨_, rfl, v, .ty "str", _, _, _, rfl, .ty _, ty, kit_ty (kS _), _, rfl, iteT' rfl q⟩⟩⟩
    | lst vs => exact iteF' rfl ⟨_, rfl, v, .ty "bool", _, _, _, rfl, .ty _, ty, kit_ty (kB _), _, rfl, iteF' rfl ⟨_, rfl, v, .ty "int", _, _, _, rfl, .ty _, ty, kit_ty (kI _), _, rfl, iteF' rfl ⟨_, rfl, v, .ty "str", _, _, _, rfl, .ty _, ty, kit_ty (kS _), _, rfl, iteF' rfl ⟨_, rfl, v, .ty "list", _, _, _, rfl, .ty _, ty, kit_ty (kL _), _, rfl, iteT' rfl q⟩⟩⟩⟩
    | rc ks vs => exact iteF' rfl ⟨_, rfl, v, .ty "bool", _, _, _, rfl, .ty _, ty, kit_ty (kB _), _, rfl, iteF' rfl ⟨_, rfl, v, .ty "int", _, _, _, rfl, .ty _, ty, kit_ty (kI _), _, rfl, iteF' rfl ⟨_, rfl, v, .ty "str", _, _, _, rfl, .ty _, ty, kit_ty (kS _), _, rfl, iteF' rfl ⟨_, rfl, v, .ty "list", _, _, _, rfl, .ty _, ty, kit_ty (kL _), _, rfl, iteF' rfl ⟨_, rfl, v, .ty "dict", _, _, _, rfl, .ty _, ty, kit_ty (kD _), _, rfl, iteT' rfl q⟩⟩⟩⟩⟩
    | act o n vs =>
      refine iteF' rfl ⟨_, rfl, v, .ty "bool", _, _, _, rfl, .ty _, ty, kit_ty (kB _), _, rfl, iteF' rfl ⟨_, rfl, v, .ty "int", _, _, _, rfl, .ty _, ty, kit_ty (kI _), _, rfl, iteF' rfl ⟨_, rfl, v, .ty "str", _, _, _, rfl, .ty _, ty, kit_ty (kS _), _, rfl, iteF' rfl ⟨_, rfl, v, .ty "list", _, _, _, rfl, .ty _, ty, kit_ty (kL _), _, rfl, iteF' rfl ⟨_, rfl, v, .ty "dict", _, _, _, rfl, .ty _, ty, kit_ty (kD _), _, rfl, iteF' rfl ⟨_, rfl, v, .ty "tuple", _, _, _, rfl, .ty _, ty, kit_ty (kA _), _, rfl, iteT' rfl ?_⟩⟩⟩⟩⟩⟩
      simp only [VR] at hv
      obtain ⟨a, l, xs, rfl, h1, h2, h3⟩ := hv
      have tp := SqT.of (K := K) h1
      refine ⟨_, rfl, a, _, rfl, .inr tp, rfl, _, rfl, iteT' rfl ⟨_, rfl, a, _, _, _, rfl, rfl, tp, at_0, rfl, _, rfl, iteT' rfl q⟩⟩
end
end VL

set_option Elab.async false
set_option linter.all false
set_option pp.maxSteps 500
set_option maxRecDepth 100000
set_option maxHeartbeats 4000000
namespace VL
open PySem PySem.Spec PyProof.Rows L2
theorem dig_at {c : Nat} (h : c < 10) : atI (("0123456789" : Str).cps.toList) (c : Int) = some (48 + c) := by
  have all : ∀ k : Fin 10, atI (("0123456789" : Str).cps.toList) ((k.val : Nat) : Int) = some (48 + k.val) := by decide +kernel
  exact all ⟨c, h⟩
def spLT : Sp := fun vs H Q _ => ∃ (v : V) (d : Val), vs = [v] ∧ VH H d v ∧ okV d 5 ∧ ∀ H', Same H H' → Q (textV d) H'
def tagN : Val → Nat
  | .nul => 0
  | .bl _ => 1
  | .num _ => 2
  | .txt _ => 3
  | .lst _ => 4
  | .rc _ _ => 5
  | .act _ _ _ => 6
theorem kind_tag {d e : Val} (h : kindN d = kindN e) : tagN d = tagN e := by
  cases d <;> cases e <;> first | rfl | (exfalso; revert h; simp only [kindN]; decide)
theorem tag_same {d e : Val} (h : tagN d ≠ tagN e) : sameV d e = false := by
  cases d <;> cases e <;> first | rfl | exact absurd rfl h
theorem kind_some (d : Val) : ¬ kindN d = "none" := by
  cases d <;> (simp only [kindN]; decide)
theorem dqAll_strs {H : Hp} : ∀ ns : List Str, DqAll H (ns.map V.str) (ns.map PyData.str)
  | [] => .nil
  | a :: ns => .cons (.str a) (dqAll_strs ns)
theorem same_perm {ks ls : List Str} {vs ws : List Val} {n m : Nat} (oa : okV (.rc ks vs) n) (ob : okV (.rc ls ws) m) (h : sameV (.rc ks vs) (.rc ls ws) = true) : ks.Perm ls := by
  simp only [okV] at oa ob
  obtain ⟨_, _, _, kl, knd, _⟩ := oa
  obtain ⟨_, _, _, ll, lnd, _⟩ := ob
  simp only [sameV, Bool.and_eq_true, decide_eq_true_eq] at h
  have hq := (sameR_iff kl).mp h.2
  have sub : ∀ x ∈ ks, x ∈ ls := fun x hx => by
    obtain ⟨i, hi⟩ := List.getElem?_of_mem hx
    have hi' := (List.getElem?_eq_some_iff.mp hi).1
    obtain ⟨w, e1, _⟩ := hq i x _ hi (List.getElem?_eq_getElem (by omega : i < vs.length))
    obtain ⟨j, e2, _⟩ := lookV_some e1
    exact List.mem_of_getElem? e2
  have back := all_back knd h.1 sub
  exact (List.perm_ext_iff_of_nodup knd lnd).mpr fun x => ⟨sub x, back x⟩
def spLS (m : Nat) : Sp := fun vs H Q _ => ∃ (a b : V) (d e : Val), vs = [a, b] ∧ VH H d a ∧ VR H e b ∧ okW d ∧ okW e ∧ cst d ≤ m ∧ ∀ H', Same H H' → Q (.bl (sameV d e)) H'
section
variable {P : Program} {w : World} {K : PySem.W.Frag} {mg : Str → Option Value} {base : Heap} {C : Ad}
theorem sc__law_same : FnScope ["first", "second", "kind", "k", "name"] ["first", "second"] (defScope s__law_same) := ⟨rfl, rfl, rfl, by decide +kernel, rfl, by decide +kernel, by decide +kernel⟩
theorem ls_S (T : Txt K w mg C) {m k : Nat} {sp : Sp} (hk : 2 ≤ k) (hsp : ∀ j, j + 1 = m → sp = spLS j) (G_law_same : Cal P w K mg base k "_law_same" sp) : Cal P w K mg base (k + 1) "_law_same" (spLS m) := by
  have G_law_kind := ok_kind (P := P) (base := base) T
  refine cal_of T.d__law_same sc__law_same (fun vs H Q E h => ?_) (fun f cdv A outer s H vs Q E hr h => ?_)
  · obtain ⟨a, b, d, e, rfl, _⟩ := h
    rfl
  · obtain ⟨a, b, d, e, rfl, ha, hb, oa, ob, hc, q⟩ := h
    have hu := hu_of hr
    have q0 := q H (Same.refl _)
    refine ⟨_, (pss_cons (ps_set (i := 2) sc__law_same.nd rfl (Or.inl rfl) (pe_c G_law_kind hr (by omega) (by rfl) (pa_cons (pv 0) pa_nil))) (pss_cons (ps_if (PW.pt (pw_or (pt_cmpR op_ne (pv 2) (pe_c G_law_kind hr (by omega) (by rfl) (pa_cons (pv 1) pa_nil)) (nomark _)) (pw_or1 (pt_cmpR op_eq (pv 2) pe_str (nomark _))))) (pss_one (ps_ret pe_bl)) pss_nil) (pss_cons (ps_if (pt_cmpR op_eq (pv 2) pe_str (nomark _)) (pss_cons (ps_if (pt_cmpR op_ne (pe_callB call_len_seq (by rfl) T.z_len PySem.boot_len (pa_cons (pv 0) pa_nil)) (pe_callB call_len_seq (by rfl) T.z_len PySem.boot_len (pa_cons (pv 1) pa_nil)) (nomark _)) (pss_one (ps_ret pe_bl)) pss_nil) (pss_cons (ps_for PassesOwn.never rfl (pi_range1 (by rfl) T.z_range (pa_cons (pe_callB call_len_seq (by rfl) T.z_len PySem.boot_len (pa_cons (pv 0) pa_nil)) pa_nil)) (pg_name (i := 3) sc__law_same.nd rfl (Or.inl rfl)) (pss_one (ps_if (pt_not (pt_val (pe_c G_law_same hr (by omega) (by rfl) (pa_cons (pe_ix ix_list (pv 0) (pv 3) (fun _ _ => rfl)) (pa_cons (pe_ix ix_list (pv 1) (pv 3) (fun _ _ => rfl)) pa_nil))))) (pss_one (ps_ret pe_bl)) pss_nil))) (pss_one (ps_ret pe_bl)))) pss_nil) (pss_cons (ps_if (pt_cmpR op_eq (pv 2) pe_str (nomark _)) (pss_cons (ps_if (pt_cmpR (op_neP hr.units) (pe_callB (call_sortedD rfl) (by rfl) T.z_sorted (by decide +kernel) (pa_cons (pv 0) pa_nil)) (pe_callB (call_sortedD rfl) (by rfl) T.z_sorted (by decide +kernel) (pa_cons (pv 1) pa_nil)) (nomark _)) (pss_one (ps_ret pe_bl)) pss_nil) (pss_cons (ps_lock (ps_for PassesOwn.never rfl (pi_keys (pv 0)) (pg_name (i := 4) sc__law_same.nd rfl (Or.inl rfl)) (pss_one (ps_if (pt_not (pt_val (pe_c G_law_same hr (by omega) (by rfl) (pa_cons (pe_dget hu (pv 0) (pv 4) (fun _ _ => rfl)) (pa_cons (pe_dget hu (pv 1) (pv 4) (fun _ _ => rfl)) pa_nil))))) (pss_one (ps_ret pe_bl)) pss_nil)))) (pss_one (ps_ret pe_bl)))) pss_nil) (pss_cons (ps_if (pt_cmpR op_eq (pv 2) pe_str (nomark _)) (pss_cons (ps_if (PW.pt (pw_or (pt_cmpR op_ne (pe_c G_law_kind hr (by omega) (by rfl) (pa_cons (pe_ix ix_tup (pv 0) pe_int (fun _ _ => rfl)) pa_nil)) pe_str (nomark _)) (pw_or (pt_cmpR op_ne (pe_ix ix_tup (pv 0) pe_int (fun _ _ => rfl)) (pe_ix ix_tup (pv 1) pe_int (fun _ _ => rfl)) (nomark _)) (pw_or1 (pt_cmpR op_ne (pe_ix ix_tup (pv 0) pe_int (fun _ _ => rfl)) (pe_ix ix_tup (pv 1) pe_int (fun _ _ => rfl)) (nomark _)))))) (pss_one (ps_ret pe_bl)) pss_nil) (pss_one (ps_ret (pe_c G_law_same hr (by omega) (by rfl) (pa_cons (pe_ix ix_tup (pv 0) pe_int (fun _ _ => rfl)) (pa_cons (pe_ix ix_tup (pv 1) pe_int (fun _ _ => rfl)) pa_nil)))))) pss_nil) (pss_one (ps_ret (pe_cmpR op_eq (pv 0) (pv 1) (nomark _))))))))), ?_⟩
    refine ⟨_, rfl, a, d, rfl, ha.vr, ?_⟩
    refine ⟨_, rfl, _, rfl, b, e, rfl, hb, rfl, _, rfl, ?_⟩
    by_cases hk' : kindN d = kindN e
    case neg =>
      refine iteT' (by simpa using fun z => hk' (V.str.inj z)) (iteT' rfl ?_)
      rw [tag_same fun z => hk' (by cases d <;> cases e <;> first | rfl | exact nomatch z)] at q0
      exact q0
    have tg := kind_tag hk'
    refine iteF' (by rw [hk']; simp) ⟨_, rfl, rfl, _, rfl, iteF' (decide_eq_false fun z => kind_some d (V.str.inj z)) ?_⟩
    have o5 := oa.mem
    have p5 := ob.mem
    cases d with
    | lst vs =>
      obtain ⟨ws, rfl⟩ : ∃ ws, e = .lst ws := by cases e <;> first | exact ⟨_, rfl⟩ | exact nomatch tg
      replace oa := oa.get (by intro x z; cases z)
      replace ob := ob.get (by intro x z; cases z)
      obtain ⟨j, rfl⟩ : ∃ j, m = j + 1 := by simp only [cst] at hc; exact ⟨m - 1, by omega⟩
      have e' := hsp j rfl
      subst e'
      simp only [VH] at ha
      simp only [VR] at hb
      obtain ⟨a, xs, rfl, h1, h2⟩ := ha
      obtain ⟨b, ys, rfl, g1, g2⟩ := hb
      have xl := h2.len
      have yl := g2.len
      have vl : vs.length ≤ 4 := (okV_partsM oa).2
      refine ⟨_, rfl, rfl, _, rfl, iteT' rfl ?_⟩
      refine ⟨_, rfl, a, _, rfl, .inl (SqL.of h1), _, rfl, b, _, rfl, .inl (SqL.of g1), rfl, _, rfl, ?_⟩
      by_cases hl : vs.length = ws.length
      · refine iteF' (by rw [xl, yl, hl]; simp) ?_
        refine ⟨_, rfl, a, _, rfl, .inl (SqL.of h1), _, rfl, by omega, by omega, ?_⟩
        refine for_range (lo := 0) (n := xs.length) (fun i σ H' => Same H H' ∧ (∃ y3 : Option V, σ = [some (.ref a), some (.ref b), some (.str "list"), y3, none]) ∧ ∀ (j : Nat) (d e : Val), j < i → vs[j]? = some d → ws[j]? = some e → sameV d e = true) ⟨Same.refl _, ⟨_, rfl⟩, fun j d e hj => absurd hj (Nat.not_lt_zero _)⟩ ?_ ?_
        · rintro i σ H1 hi ⟨s1, ⟨y3, rfl⟩, inv⟩
          have hx : xs[i]? = some xs[i] := List.getElem?_eq_getElem hi
          have hi2 : i < ys.length := by omega
          have hy : ys[i]? = some ys[i] := List.getElem?_eq_getElem hi2
          obtain ⟨d, hd, vx⟩ := h2.get hx
          obtain ⟨e, he, vy⟩ := g2.get hy
          have ax : atI xs (0 + (i : Int)) = some xs[i] := by
            rw [Int.zero_add]
            unfold atI ixN
            rw [if_pos (by omega), if_pos (by omega)]
            exact hx
          have ay : atI ys (0 + (i : Int)) = some ys[i] := by
            rw [Int.zero_add]
            unfold atI ixN
            rw [if_pos (by omega), if_pos (by omega)]
            exact hy
          refine ⟨_, rfl, _, rfl, a, _, _, _, rfl, rfl, SqL.of (s1 _ _ h1), ax, _, rfl, _, rfl, b, _, _, _, rfl, rfl, SqL.of (s1 _ _ g1), ay, _, _, d, e, rfl, vx.same s1, vy.same s1, .inl (okVs_get o5 hd), .inl (okVs_get p5 he), ?_, fun H' s' => ⟨_, rfl, ?_⟩⟩
          · have := cstL_mem (List.mem_of_getElem? hd)
            simp only [cst] at hc
            omega
          · cases eq : sameV d e with
            | true =>
              refine iteF' rfl ⟨Same.trans s1 s', ⟨_, rfl⟩, fun j d' e' hj h1 h2 => ?_⟩
              by_cases ej : j = i
              · subst ej
                rw [hd] at h1
                rw [he] at h2
                cases h1
                cases h2
                exact eq
              · exact inv j d' e' (by omega) h1 h2
            | false =>
              refine iteT' rfl ?_
              have : sameL vs ws = false := by
                cases e2 : sameL vs ws with
                | false => rfl
                | true => rw [(sameL_iff hl).mp e2 i d e hd he] at eq; exact nomatch eq
              have z := q H' (Same.trans s1 s')
              simp only [sameV, this] at z
              exact z
        · rintro σ H1 ⟨s1, ⟨y3, rfl⟩, inv⟩
          have : sameL vs ws = true := (sameL_iff hl).mpr fun j d e h1 h2 => inv j d e (by have := (List.getElem?_eq_some_iff.mp h1).1; omega) h1 h2
          have z := q H1 s1
          simp only [sameV, this] at z
          exact z
      · refine iteT' (by rw [xl, yl]; simpa using fun z => hl (by omega)) ?_
        have : sameL vs ws = false := by
          cases e : sameL vs ws with
          | false => rfl
          | true => exact absurd (sameL_len e) hl
        simp only [sameV, this] at q0
        exact q0
    | rc ks vs =>
      obtain ⟨ls, ws, rfl⟩ : ∃ ls ws, e = .rc ls ws := by cases e <;> first | exact ⟨_, _, rfl⟩ | exact nomatch tg
      replace oa := oa.get (by intro x z; cases z)
      replace ob := ob.get (by intro x z; cases z)
      obtain ⟨j0, rfl⟩ : ∃ j, m = j + 1 := by simp only [cst] at hc; exact ⟨m - 1, by omega⟩
      have e' := hsp j0 rfl
      subst e'
      have ha0 := ha
      simp only [VH] at ha
      simp only [VR] at hb
      obtain ⟨a, kvs, rfl, ha1, ha2, ha3, ha4⟩ := ha
      obtain ⟨b, kws, rfl, hb1, hb2, hb3, hb4⟩ := hb
      have oa0 := oa
      have ob0 := ob
      simp only [okV] at oa ob
      obtain ⟨_, _, va4, kl, knd, _, _⟩ := oa
      obtain ⟨_, _, wa4, ll, lnd, _, _⟩ := ob
      refine ⟨_, rfl, rfl, _, rfl, iteF' rfl ⟨_, rfl, rfl, _, rfl, iteT' rfl ?_⟩⟩
      refine ⟨_, rfl, a, kvs, ks, rfl, .inl ha1, ha2, by omega, fun ys p py sy hp => ?_⟩
      have s1 := Sm.new (o := .lst (ys.map V.str)) hp
      have hb1' := (Lk.of s1).2.2 _ _ hb1
      refine ⟨_, rfl, b, kws, ls, rfl, hb1', hb2, by omega, fun zs p2 pz sz hp2 => ?_⟩
      have s2 := Sm.new (o := .lst (zs.map V.str)) hp2
      have s12 := Same.trans s1 s2
      refine ⟨.list (ys.map .str), .list (zs.map .str), (Dq.lst (s2 _ _ upd_same) (dqAll_strs ys)).dp (plain_strs ys), (Dq.lst upd_same (dqAll_strs zs)).dp (plain_strs zs), plain_strs ys, plain_strs zs, by rw [depth_strs]; decide, ?_⟩
      rw [eqv_strs]
      have q2 : ∀ H', Same (upd (upd H p (.lst (ys.map V.str))) p2 (.lst (zs.map V.str))) H' → Q (.bl (sameV (.rc ks vs) (.rc ls ws))) H' := fun H' s' => q H' (Same.trans s12 s')
      have ha0' := ha0.same s12
      have ha1' := s12 _ _ ha1
      have ha4' := ha4.same s12
      have hb1s := (Lk.of s12).2.2 _ _ hb1
      have hb4' := hb4.lk (.of s12)
      generalize upd (upd H p (.lst (ys.map V.str))) p2 (.lst (zs.map V.str)) = HS at q2 ha0' ha1' ha4' hb1s hb4' ⊢
      by_cases hp' : ks.Perm ls
      · have yz : ys = zs := sorted_one (sorted_pw sy) (sorted_pw sz) (py.trans (hp'.trans pz.symm))
        refine ⟨_, rfl, iteF' (by simp [yz]) ?_⟩
        have hl := hp'.length_eq
        refine ⟨a, _, ha1', trivial, fun od => ?_⟩
        have hlk : upd HS a (.frz od (.dK kvs)) a = some (.frz od (.dK kvs)) := upd_same
        have lk : Lk HS (upd HS a (.frz od (.dK kvs))) := Lk.lock ha1'
        refine ⟨_, rfl, a, od, rfl, .inl ⟨_, hlk, ?_⟩⟩
        have va := VHs_upd (o := .frz od (.dK kvs)) ha1' ha0' vs _ ha4' (by simp only [depthV]; omega)
        have nd : (kvs.map (·.1)).Nodup := by
          rw [ha2]
          exact List.Pairwise.map _ (fun a b z q => z (Sum.inr.inj q)) knd
        refine for_it (walk_keys (d := a) (o := od) (kvs := kvs)) (fun i σ H' => Same (upd HS a (.frz od (.dK kvs))) H' ∧ (∃ y4 : Option V, σ = [some (.ref a), some (.ref b), some (.str "record"), none, y4]) ∧ ∀ (j : Nat) (k : Str) (d : Val), j < i → ks[j]? = some k → vs[j]? = some d → ∃ w, lookV ls ws k = some w ∧ sameV d w = true) ⟨Same.refl _, ⟨_, rfl⟩, fun j k d hj => absurd hj (Nat.not_lt_zero _)⟩ (fun i σ H' _ z => z.1 _ _ hlk) ?_ ?_
        · rintro i x σ H1 H2 hi ⟨s1, ⟨y4, rfl⟩, inv⟩ ⟨rfl, k, v, hkv, rfl⟩
          obtain ⟨kx, rfl, hkx⟩ := walk_kn ha2 hkv
          have lk2 := lk.trans (.of s1)
          have rb := lk2.2.2 _ _ hb1s
          have ra := s1 _ _ hlk
          have hv : (kvs.map (·.2))[i]? = some v := by rw [List.getElem?_map, hkv]; rfl
          obtain ⟨d, hd, vd⟩ := va.get hv
          rcases val_look (x := kx) hb2 (hb4'.lk lk2) with ⟨l1, l2⟩ | ⟨w, v', l1, l2, l3⟩
          · exact absurd (hp'.mem_iff.mp (List.mem_of_getElem? hkx)) ((lookV_none ll lnd).mp l1)
          · have gv : valV kvs (.inr kx) = some v := valV_nd nd hkv
            obtain ⟨jw, lj1, lj2⟩ := lookV_some l1
            refine ⟨_, rfl, _, rfl, a, v, rfl, .inl ⟨kvs, .inr kx, .inr ⟨od, ra⟩, rfl, gv.symm⟩, _, rfl, _, rfl, b, v', rfl, .inl ⟨kws, .inr kx, rb, rfl, l2.symm⟩, v, v', d, w, rfl, vd.same s1, l3, .inl (okVs_get o5 hd), .inl (okVs_get p5 lj2), ?_, fun H' s' => ⟨_, rfl, ?_⟩⟩
            · have := cstL_mem (List.mem_of_getElem? hd)
              simp only [cst] at hc
              omega
            · cases eq : sameV d w with
              | true =>
                refine iteF' rfl ⟨Same.trans s1 s', ⟨_, rfl⟩, fun j k' d' hj h1 h2 => ?_⟩
                by_cases ej : j = i
                · subst ej
                  rw [hkx] at h1
                  rw [hd] at h2
                  cases h1
                  cases h2
                  exact ⟨w, l1, eq⟩
                · exact inv j k' d' (by omega) h1 h2
              | false =>
                refine iteT' rfl ⟨s' _ _ ra, ?_⟩
                have : sameR vs ks ls ws = false := by
                  cases e : sameR vs ks ls ws with
                  | false => rfl
                  | true =>
                    obtain ⟨w', e1, e2⟩ := (sameR_iff kl).mp e i kx d hkx hd
                    rw [l1] at e1
                    cases e1
                    rw [eq] at e2
                    exact nomatch e2
                have z := q2 _ (unlock ha1' (Same.trans s1 s'))
                simp only [sameV, this, Bool.and_false] at z
                exact z
        · rintro σ H1 ⟨s1, ⟨y4, rfl⟩, inv⟩
          refine ⟨s1 _ _ hlk, ?_⟩
          have kvl : kvs.length = ks.length := by have := congrArg List.length ha2; simpa using this
          have : sameR vs ks ls ws = true := (sameR_iff kl).mpr fun j k d h1 h2 => inv j k d (by have := (List.getElem?_eq_some_iff.mp h1).1; omega) h1 h2
          have z := q2 _ (unlock ha1' s1)
          simp only [sameV, hl, this, decide_true, Bool.and_true] at z
          exact z
      · have yz : ys ≠ zs := fun z => hp' (by rw [z] at py; exact py.symm.trans pz)
        refine ⟨_, rfl, iteT' (by simp [yz]) ?_⟩
        have z := q2 HS (Same.refl _)
        have f : sameV (.rc ks vs) (.rc ls ws) = false := by
          cases e : sameV (.rc ks vs) (.rc ls ws) with
          | false => rfl
          | true => exact absurd (same_perm oa0 ob0 e) hp'
        rw [f] at z
        exact z
    | act o x vs =>
      obtain ⟨o', x', ws, rfl⟩ : ∃ o' x' ws, e = .act o' x' ws := by cases e <;> first | exact ⟨_, _, _, rfl⟩ | exact nomatch tg
      replace oa := oa.get (by intro x z; cases z)
      replace ob := ob.get (by intro x z; cases z)
      obtain ⟨j0, rfl⟩ : ∃ j, m = j + 1 := by simp only [cst] at hc; exact ⟨m - 1, by omega⟩
      have e' := hsp j0 rfl
      subst e'
      simp only [VH] at ha
      simp only [VR] at hb
      obtain ⟨a, l, xs, rfl, h1, h2, h3⟩ := ha
      obtain ⟨b, l', ys, rfl, g1, g2, g3⟩ := hb
      have ta := SqT.of (K := K) h1
      have tb := SqT.of (K := K) g1
      refine ⟨_, rfl, rfl, _, rfl, iteF' rfl ⟨_, rfl, rfl, _, rfl, iteF' rfl ⟨_, rfl, rfl, _, rfl, iteT' rfl ?_⟩⟩⟩
      refine ⟨_, rfl, a, _, _, _, rfl, rfl, ta, at_1, .int o, .num o, rfl, by simp only [VR], rfl, _, rfl, iteF' rfl ?_⟩
      refine ⟨_, rfl, a, _, _, _, rfl, rfl, ta, at_1, _, rfl, b, _, _, _, rfl, rfl, tb, at_1, rfl, _, rfl, ?_⟩
      by_cases e1 : o = o'
      · refine iteF' (by rw [e1]; simp) ⟨_, rfl, a, _, _, _, rfl, rfl, ta, at_2, _, rfl, b, _, _, _, rfl, rfl, tb, at_2, rfl, _, rfl, ?_⟩
        by_cases e2 : x = x'
        · refine iteF' (by rw [e2]; simp) ?_
          refine ⟨_, rfl, a, _, _, _, rfl, rfl, ta, at_3, _, rfl, b, _, _, _, rfl, rfl, tb, at_3, .ref l, .ref l', .lst vs, .lst ws, rfl, by simp only [VH]; exact ⟨l, xs, rfl, h2, h3⟩, by simp only [VR]; exact ⟨l', ys, rfl, g2, g3⟩, ?_, ?_, ?_, fun H' s' => ?_⟩
          · refine .inl ?_
            simp only [okV] at oa ⊢
            obtain ⟨k', e, _, _, p1, p2⟩ := oa
            exact ⟨k', e, p1, p2⟩
          · refine .inl ?_
            simp only [okV] at ob ⊢
            obtain ⟨k', e, _, _, p1, p2⟩ := ob
            exact ⟨k', e, p1, p2⟩
          · simp only [cst] at hc ⊢
            omega
          · have z := q H' s'
            simp only [sameV, e1, e2, decide_true, Bool.true_and] at z ⊢
            exact z
        · refine iteT' (by simpa using e2) ?_
          simp only [sameV, e2, decide_false, Bool.false_and, Bool.and_false] at q0
          exact q0
      · refine iteT' (by simpa using e1) ?_
        simp only [sameV, e1, decide_false, Bool.false_and] at q0
        exact q0
    | nul =>
      obtain rfl : e = .nul := by cases e <;> first | rfl | exact nomatch tg
      simp only [VH] at ha
      simp only [VR] at hb
      subst ha hb
      exact ⟨_, rfl, rfl, _, rfl, iteF' rfl ⟨_, rfl, rfl, _, rfl, iteF' rfl ⟨_, rfl, rfl, _, rfl, iteF' rfl ⟨_, rfl, _, rfl, rfl, q0⟩⟩⟩⟩
    | bl x =>
      obtain ⟨y, rfl⟩ : ∃ y, e = .bl y := by cases e <;> first | exact ⟨_, rfl⟩ | exact nomatch tg
      simp only [VH] at ha
      simp only [VR] at hb
      subst ha hb
      have : sameV (.bl x) (.bl y) = decide (V.bl x = V.bl y) := by simp [sameV]
      rw [this] at q0
      exact ⟨_, rfl, rfl, _, rfl, iteF' rfl ⟨_, rfl, rfl, _, rfl, iteF' rfl ⟨_, rfl, rfl, _, rfl, iteF' rfl ⟨_, rfl, _, rfl, rfl, q0⟩⟩⟩⟩
    | num x =>
      obtain ⟨y, rfl⟩ : ∃ y, e = .num y := by cases e <;> first | exact ⟨_, rfl⟩ | exact nomatch tg
      simp only [VH] at ha
      simp only [VR] at hb
      subst ha hb
      have : sameV (.num x) (.num y) = decide (V.int x = V.int y) := by simp [sameV]
      rw [this] at q0
      exact ⟨_, rfl, rfl, _, rfl, iteF' rfl ⟨_, rfl, rfl, _, rfl, iteF' rfl ⟨_, rfl, rfl, _, rfl, iteF' rfl ⟨_, rfl, _, rfl, rfl, q0⟩⟩⟩⟩
    | txt x =>
      obtain ⟨y, rfl⟩ : ∃ y, e = .txt y := by cases e <;> first | exact ⟨_, rfl⟩ | exact nomatch tg
      simp only [VH] at ha
      simp only [VR] at hb
      subst ha hb
      have : sameV (.txt x) (.txt y) = decide (V.str x = V.str y) := by simp [sameV]
      rw [this] at q0
      exact ⟨_, rfl, rfl, _, rfl, iteF' rfl ⟨_, rfl, rfl, _, rfl, iteF' rfl ⟨_, rfl, rfl, _, rfl, iteF' rfl ⟨_, rfl, _, rfl, rfl, q0⟩⟩⟩⟩
theorem ls_0 (T : Txt K w mg C) {k : Nat} : Cal P w K mg base (k + 1) "_law_same" spFalse := cal_of T.d__law_same sc__law_same (fun vs H Q E h => h.elim) (fun f cdv A outer s H vs Q E hr h => h.elim)
theorem ls_N (T : Txt K w mg C) : ∀ m : Nat, Cal P w K mg base (m + 3) "_law_same" (spLS m)
  | 0 => ls_S T (sp := spFalse) (by decide) (fun j h => by omega) (ls_0 T)
  | m + 1 => ls_S T (sp := spLS m) (by omega) (fun j h => by rw [show j = m by omega]) (ls_N T m)
end
end VL

set_option Elab.async false
set_option linter.all false
set_option pp.maxSteps 500
set_option maxRecDepth 100000
set_option maxHeartbeats 4000000
namespace VL
open PySem PySem.Spec PyProof.Rows L2 NdefX
theorem SmM.refl {H : Hp} : Same H H := fun _ _ e => e
theorem SmM.trans {H H1 H2 : Hp} (a : Same H H1) (b : Same H1 H2) : Same H H2 := fun c o h => b c o (a c o h)
/-- a local name that holds one of the text's defs that may raise, called -/
def tCallTX (P : Program) (w : World) (K : PySem.W.Frag) (mg : Str → Option Value) (base : Heap) (E : XK) (j i : Nat) (t : TA) : TE := fun σ H Q => ∃ (x : Str) (k : Nat) (sp : Sp) (f : Addr), k ≤ j ∧ CalX P w K mg base k x sp ∧ mg x = some (.ref f) ∧
  σ[i]? = some (some (.ref f)) ∧ t σ H fun vs H1 => sp vs H1 Q E
section
variable {X : Cx} {E : XK} {j i : Nat} {x : Str} {p pos : Pos} {e : Expr} {es : List Expr} {t : TA}
theorem pe_callTX (hx : Passes (L2.CX X.prog X.w) X E) (hr : Room j X.A) (hN : X.N[i]? = some x) (hv : Vis X.env.scope x) (ha : PA X (e :: es) t)
    (hd : (x == ("__debug__" : Str)) = false := by decide) (hcd : (x == ("__classdict__" : Str)) = false := by decide)
    (he : starEach (e :: es) X.env = (false, eval e X.env) :: starEach es X.env := by rfl) (hpl : (backTo pos (starEach es X.env)).any (·.1) = false := by rfl) :
    PE X (.Call (.Name x p) (e :: es) [] pos) (tCallTX X.prog X.w X.K X.mg X.base E j i t) := by
  refine ⟨fun pins s σ H Q I h => ?_⟩
  obtain ⟨y, k, sp, f, hk, c, hm, hs, ht⟩ := h
  obtain ⟨f2, fd, ps, F, hm2, kp, b⟩ := c.ex
  obtain rfl : f = f2 := by
    rw [hm] at hm2
    injection hm2 with e1
    injection e1
  refine wpAny_Call_Name_kw (thn ((pe_var (pos := p) hN hv hd hcd).run pins s σ H (fun v H1 => v = .ref f ∧ H1 = H) I ⟨.ref f, hs, rfl, rfl⟩) fun u s1 ⟨v, H1, I1, r1, q1⟩ => ?_)
  obtain ⟨rfl, rfl⟩ := q1
  cases r1
  refine PySem.W.callWith_K (h₀ := X.base) I.ok.mod.kin kp (thn (ha.run pos pins s1 σ _ _ I1 ht) fun us s2 ⟨vs, H2, I2, r, q⟩ => ⟨I2.kIn, ?_⟩) he hpl
  exact run_fn F (hr.mono hk) b .nil hx I2 r (by rw [List.append_nil]; exact q)
end
theorem pe_two {X : Cx} {e : Expr} {t1 t2 : TE} (h1 : PE X e t1) (h2 : PE X e t2) : PE X e (fun σ H Q => t1 σ H Q ∨ t2 σ H Q) :=
  ⟨fun pins s σ H Q I h => h.elim (h1.run pins s σ H Q I) (h2.run pins s σ H Q I)⟩
/-! ### faults -/
abbrev fsF (m : Str) : List (Str × V) := [("message", .str m)]
def spFInit (D : Addr) : Sp := fun vs H Q _ => ∃ (a : Addr) (m : Str), vs = [.ref a, .str m] ∧ H a = some (exo a D none) ∧
  ∀ dx H', H dx = none → dx ≠ a → H' a = some (exo a D (some dx)) → H' dx = some (exd dx (fsF m)) → (∀ b o, H b = some o → b ≠ a → H' b = some o) → Q .non H'
def ErrF (D : Addr) (E : XK) (H : Hp) (m : Str) : Prop := ∀ d H', Same H H' → H' d = some (.xd (fsF m)) → E (.ref D) (some d) H'
theorem ErrF.same {D : Addr} {E : XK} {H H1 : Hp} {m : Str} (h : ErrF D E H m) (s : Same H H1) : ErrF D E H1 m := fun d H' s2 hd => h d H' (SmM.trans s s2) hd
/-! ### places -/
abbrev Res := Except Str Val
def notV : Val → Res
  | .bl b => .ok (.bl (!b))
  | _ => .error "not true or false"
def fieldV (d : Val) (x : Str) : Res := match d with
  | .rc ks vs => (match lookV ks vs x with
    | some e => .ok e
    | none => .error ("no field " ++ x))
  | _ => .error "not a record"
def atV (d e : Val) : Res := match d, e with
  | .rc ks vs, .txt x => (match lookV ks vs x with
    | some e => .ok e
    | none => .error "nothing there")
  | .lst vs, .num i => if 0 ≤ i then (match vs[i.toNat]? with
      | some e => .ok e
      | none => .error "nothing there") else .error "nothing there"
  | .txt x, .num i => if 0 ≤ i then (match x.cps.toList[i.toNat]? with
      | some c => .ok (.txt (TX [c]))
      | none => .error "nothing there") else .error "nothing there"
  | _, _ => .error "not a place"
/-- what comes out -/
def outV (D : Addr) (o : Res) (H : Hp) (Q : VK) (E : XK) : Prop := match o with
  | .ok r => ∀ x H', Same H H' → VH H' r x → Q x H'
  | .error m => ErrF D E H m
def spNT (D : Addr) : Sp := fun vs H Q E => ∃ (v : V) (d : Val), vs = [v] ∧ VH H d v ∧ (isB d = true → Q v H) ∧ (isB d = false → ErrF D E H "not true or false")
def spNR (D : Addr) : Sp := fun vs H Q E => ∃ (v : V) (d : Val), vs = [v] ∧ VH H d v ∧ (isD d = true → Q v H) ∧ (isD d = false → ErrF D E H "not a record")
def spIsX (f : Val → Bool) : Sp := fun vs H Q _ => ∃ (v : V) (d : Val), vs = [v] ∧ VH H d v ∧ Q (.bl (f d)) H
def hpV (d e : Val) : Option Bool := match d, e with
  | .lst vs, .num i => some (decide (0 ≤ i) && decide (i < (vs.length : Int)))
  | .txt x, .num i => some (decide (0 ≤ i) && decide (i < (x.length : Int)))
  | .rc ks _, .txt x => some (decide (x ∈ ks))
  | _, _ => none
def spHP (D : Addr) : Sp := fun vs H Q E => ∃ (v u : V) (d e : Val), vs = [v, u] ∧ VH H d v ∧ VH H e u ∧ okV d 5 ∧ okV e 5 ∧ (∀ b, hpV d e = some b → Q (.bl b) H) ∧ (hpV d e = none → ErrF D E H "not a place")
def spName : Sp := fun vs H Q _ => ∃ (t env : Addr) (z : V) (nm : Str) (kvs : List (Key × V)) (v : V), vs = [.ref t, .ref env, z] ∧ H t = some (.tup [.str "name", .str nm]) ∧ H env = some (.dK kvs) ∧ valV kvs (.inr nm) = some v ∧ Q v H
section
variable {P : Program} {w : World} {K : PySem.W.Frag} {mg : Str → Option Value} {base : Heap} {C : Ad}
theorem scFI : NScope ["self", "message", "__class__"] ["self", "message"] ["__class__"] (defScope s_Fault___init__) := nscope_by (by decide +kernel)
theorem ok_FInit (TE : TxtE P K w mg C) : ∃ (fI : Addr) (fd : FuncData), FnOk P w K mg base CX0 1 fI fd ["self", "message"] (spFInit C.Fault) ∧ PySem.W.findIn K (.ref C.Fault) "__init__" = some (some (.ref fI)) ∧ PySem.W.typeIn K (.ref fI) = some (.type "function") ∧ Binds K fd ["self", "message"] [] := by
  have TI := TE.xi_Fault
  obtain ⟨fI, cc, cda, kV, doc, pm, ct, an, S, h1, h2, hb⟩ := TI.init
  have na := TI.na "message" (by simp)
  refine ⟨fI, _, ?_, h1, h2, hb⟩
  refine fn_sup S TI.o rfl scFI (by rfl) rfl (by rfl) (fun _ => rfl) (fun _ => rfl) (fun _ => ⟨_, _, rfl⟩) (fun _ => rfl) (fun vs H Q E h => ?_) (fun A outer s H vs Q E hr h => ?_)
  · obtain ⟨a, m, rfl, _⟩ := h
    rfl
  · obtain ⟨a, m, rfl, ha, k⟩ := h
    refine ⟨_, _, pa_cons (pv 1) pa_nil, pss_one (ps_ost (pv 0) (pv 1)), a, _, rfl, ha, ?_⟩
    refine ⟨_, rfl, by show 1 ≤ 1000; decide, ha, ?_⟩
    refine ⟨_, rfl, _, rfl, a, C.Fault, rfl, TI.o, na, .inl ⟨ha, fun dx hdx nda => ?_⟩⟩
    refine k dx _ hdx nda upd_same (by rw [upd_ne nda, upd_same]) fun b o e n => ?_
    have nbd : b ≠ dx := ne_of_none e hdx
    rw [upd_ne n, upd_ne nbd]
    exact e
/-- what a raised fault gives -/
theorem errF_mk {D : Addr} {E : XK} {H : Hp} {m : Str} (k : ErrF D E H m) (a : Addr) (ha : H a = none) : spFInit D [.ref a, .str m] (upd H a (exo a D none))
    (fun v H2 => v = .non ∧ ∃ (d : Addr) (fs : List (Str × V)), H2 a = some (exo a D (some d)) ∧ H2 d = some (exd d fs) ∧ H d = none ∧ E (.ref D) (some d) (upd (del H2 a) d (.xd fs))) (fun _ _ _ => False) := by
  refine ⟨a, m, rfl, upd_same, fun d H' hd nda i1 i2 kp => ?_⟩
  have hda : H d = none := by rw [upd_ne nda] at hd; exact hd
  refine ⟨rfl, d, _, i1, i2, hda, k d _ (fun b o e => ?_) upd_same⟩
  have nba : b ≠ a := ne_of_none e ha
  have j2 := kp b o (by rw [upd_ne nba]; exact e) nba
  rw [upd_ne (ne_of_none e hda), del_ne nba]
  exact j2
theorem sc_is_truth : FnScope ["value"] ["value"] (defScope s_is_truth) := ⟨rfl, rfl, rfl, by decide +kernel, rfl, by decide +kernel, by decide +kernel⟩
theorem ok_isTruth (T : Txt K w mg C) : Cal P w K mg base 1 "is_truth" (spIsX isB) := by
  refine cal_of T.d_is_truth sc_is_truth (fun vs H Q E h => ?_) (fun f cdv A outer s H vs Q E hr h => ?_)
  · obtain ⟨v, d, rfl, _⟩ := h
    rfl
  · obtain ⟨v, d, rfl, hv, q⟩ := h
    refine ⟨_, (pss_one (ps_ret (pe_callB call_isi (by rfl) T.z_isinstance (by decide +kernel) (pa_cons (pv 0) (pa_cons (pe_bltn (v := .ty "bool") (by rfl) T.z_bool (by decide +kernel) rfl) pa_nil))))), ?_⟩
    exact ⟨_, rfl, v, .ty "bool", _, _, isB d, rfl, .ty _, ty_V (K := K) hv, kit_ty (kB d), q⟩
theorem sc_is_list : FnScope ["value"] ["value"] (defScope s_is_list) := ⟨rfl, rfl, rfl, by decide +kernel, rfl, by decide +kernel, by decide +kernel⟩
theorem ok_isList (T : Txt K w mg C) : Cal P w K mg base 1 "is_list" (spIsX isL) := by
  refine cal_of T.d_is_list sc_is_list (fun vs H Q E h => ?_) (fun f cdv A outer s H vs Q E hr h => ?_)
  · obtain ⟨v, d, rfl, _⟩ := h
    rfl
  · obtain ⟨v, d, rfl, hv, q⟩ := h
    refine ⟨_, (pss_one (ps_ret (pe_callB call_isi (by rfl) T.z_isinstance (by decide +kernel) (pa_cons (pv 0) (pa_cons (pe_bltn (v := .ty "list") (by rfl) T.z_list (by decide +kernel) rfl) pa_nil))))), ?_⟩
    exact ⟨_, rfl, v, .ty "list", _, _, isL d, rfl, .ty _, ty_V (K := K) hv, kit_ty (kL d), q⟩
theorem sc_is_record : FnScope ["value"] ["value"] (defScope s_is_record) := ⟨rfl, rfl, rfl, by decide +kernel, rfl, by decide +kernel, by decide +kernel⟩
theorem ok_isRec (T : Txt K w mg C) : Cal P w K mg base 1 "is_record" (spIsX isD) := by
  refine cal_of T.d_is_record sc_is_record (fun vs H Q E h => ?_) (fun f cdv A outer s H vs Q E hr h => ?_)
  · obtain ⟨v, d, rfl, _⟩ := h
    rfl
  · obtain ⟨v, d, rfl, hv, q⟩ := h
    refine ⟨_, (pss_one (ps_ret (pe_callB call_isi (by rfl) T.z_isinstance (by decide +kernel) (pa_cons (pv 0) (pa_cons (pe_bltn (v := .ty "dict") (by rfl) T.z_dict (by decide +kernel) rfl) pa_nil))))), ?_⟩
    exact ⟨_, rfl, v, .ty "dict", _, _, isD d, rfl, .ty _, ty_V (K := K) hv, kit_ty (kD d), q⟩
theorem sc_need_truth : FnScope ["value"] ["value"] (defScope s_need_truth) := ⟨rfl, rfl, rfl, by decide +kernel, rfl, by decide +kernel, by decide +kernel⟩
theorem ok_needT (TE : TxtE P K w mg C) : CalX P w K mg base 4 "need_truth" (spNT C.Fault) := by
  have T := TE.t
  obtain ⟨fI, fd, FI, iI, tI, bI⟩ := ok_FInit (w := w) (base := base) TE
  have IO := TE.xi_Fault.o
  have gI := TE.xi_Fault.g
  have Gis_truth := ok_isTruth (P := P) (base := base) T
  refine calX_of T.d_need_truth sc_need_truth (fun vs H Q E h => ?_) (fun f cdv A outer s H vs Q E hr h => ?_)
  · obtain ⟨v, d, rfl, _⟩ := h
    rfl
  · obtain ⟨v, d, rfl, hv, q1, q2⟩ := h
    refine ⟨_, (pss_cons (ps_if (pt_not (pt_val (pe_c Gis_truth hr (by decide) (by rfl) (pa_cons (pv 0) pa_nil)))) (pss_one (ps_raise rfl takeX (pmk_oex IO iI tI FI (hr.mono (by decide)) bI .nil pass0 rfl gI (pa_cons pe_str pa_nil)))) pss_nil) (pss_one (ps_ret (pv 0)))), ?_⟩
    refine ⟨_, rfl, v, d, rfl, hv, _, rfl, ?_⟩
    cases e : isB d with
    | true => exact iteF' rfl ⟨_, rfl, q1 e⟩
    | false => exact iteT' rfl ⟨by show 1 ≤ 1000; decide, errF_mk (q2 e)⟩
theorem sc_need_record : FnScope ["value"] ["value"] (defScope s_need_record) := ⟨rfl, rfl, rfl, by decide +kernel, rfl, by decide +kernel, by decide +kernel⟩
theorem ok_needR (TE : TxtE P K w mg C) : CalX P w K mg base 4 "need_record" (spNR C.Fault) := by
  have T := TE.t
  obtain ⟨fI, fd, FI, iI, tI, bI⟩ := ok_FInit (w := w) (base := base) TE
  have IO := TE.xi_Fault.o
  have gI := TE.xi_Fault.g
  have Gis_record := ok_isRec (P := P) (base := base) T
  refine calX_of T.d_need_record sc_need_record (fun vs H Q E h => ?_) (fun f cdv A outer s H vs Q E hr h => ?_)
  · obtain ⟨v, d, rfl, _⟩ := h
    rfl
  · obtain ⟨v, d, rfl, hv, q1, q2⟩ := h
    refine ⟨_, (pss_cons (ps_if (pt_not (pt_val (pe_c Gis_record hr (by decide) (by rfl) (pa_cons (pv 0) pa_nil)))) (pss_one (ps_raise rfl takeX (pmk_oex IO iI tI FI (hr.mono (by decide)) bI .nil pass0 rfl gI (pa_cons pe_str pa_nil)))) pss_nil) (pss_one (ps_ret (pv 0)))), ?_⟩
    refine ⟨_, rfl, v, d, rfl, hv, _, rfl, ?_⟩
    cases e : isD d with
    | true => exact iteF' rfl ⟨_, rfl, q1 e⟩
    | false => exact iteT' rfl ⟨by show 1 ≤ 1000; decide, errF_mk (q2 e)⟩
theorem sc_has_place : FnScope ["base", "index"] ["base", "index"] (defScope s_has_place) := ⟨rfl, rfl, rfl, by decide +kernel, rfl, by decide +kernel, by decide +kernel⟩
theorem ok_hasP (TE : TxtE P K w mg C) : CalX P w K mg base 4 "has_place" (spHP C.Fault) := by
  have T := TE.t
  obtain ⟨fI, fd, FI, iI, tI, bI⟩ := ok_FInit (w := w) (base := base) TE
  have IO := TE.xi_Fault.o
  have gI := TE.xi_Fault.g
  have Gis_list := ok_isList (P := P) (base := base) T
  have Gis_text := ok_isText (P := P) (base := base) T
  have Gis_number := ok_isNum (P := P) (base := base) T
  have Gis_record := ok_isRec (P := P) (base := base) T
  refine calX_of T.d_has_place sc_has_place (fun vs H Q E h => ?_) (fun f cdv A outer s H vs Q E hr h => ?_)
  · obtain ⟨v, u, d, e, rfl, _⟩ := h
    rfl
  · obtain ⟨v, u, d, e, rfl, hv, hu', od, oe, q1, q2⟩ := h
    have hu := hu_of hr
    refine ⟨_, (pss_cons (ps_if (PW.pt (pw_and (PW.pt (pw_or (pt_val (pe_c Gis_list hr (by decide) (by rfl) (pa_cons (pv 0) pa_nil))) (pw_or1 (pt_val (pe_c Gis_text hr (by decide) (by rfl) (pa_cons (pv 0) pa_nil)))))) (pw_and1 (pt_val (pe_c Gis_number hr (by decide) (by rfl) (pa_cons (pv 1) pa_nil)))))) (pss_one (ps_ret (pe_chain op_le op_lt pe_int (pv 1) (pe_two (pe_callB call_len_seq (by rfl) T.z_len PySem.boot_len (pa_cons (pv 0) pa_nil)) (pe_callB call_len_str (by rfl) T.z_len PySem.boot_len (pa_cons (pv 0) pa_nil)))))) pss_nil) (pss_cons (ps_if (PW.pt (pw_and (pt_val (pe_c Gis_record hr (by decide) (by rfl) (pa_cons (pv 0) pa_nil))) (pw_and1 (pt_val (pe_c Gis_text hr (by decide) (by rfl) (pa_cons (pv 1) pa_nil)))))) (pss_one (ps_ret (pe_cmp (pc_din hu (pv 1) (pv 0))))) pss_nil) (pss_one (ps_raise rfl takeX (pmk_oex IO iI tI FI (hr.mono (by decide)) bI .nil pass0 rfl gI (pa_cons pe_str pa_nil)))))), ?_⟩
    have hv0 := hv
    have hu0 := hu'
    refine ⟨_, rfl, v, d, rfl, hv, _, rfl, ?_⟩
    cases d with
    | lst vs =>
      simp only [VH] at hv
      obtain ⟨a, xs, rfl, h1, h2⟩ := hv
      have xl := h2.len
      refine iteT' rfl (iteT' rfl ⟨_, rfl, u, e, rfl, hu0, _, rfl, ?_⟩)
      cases e with
      | num i =>
        simp only [VH] at hu'
        subst hu'
        have qq := q1 _ rfl
        refine iteT' rfl ⟨_, rfl, _, _, rfl, rfl, _, rfl, ite2 (fun c => .inl ⟨_, rfl, a, _, rfl, .inl (SqL.of h1), _, _, rfl, rfl, ?_⟩) (fun c => ?_)⟩
        · rw [c, Bool.true_and, ← xl] at qq
          exact qq
        · have c' : decide (0 ≤ i) = false := by simpa using c
          rw [c', Bool.false_and] at qq
          exact qq
      | _ => exact iteF' rfl ⟨_, rfl, _, _, rfl, hv0, _, rfl, iteF' rfl (iteF' rfl ⟨by show 1 ≤ 1000; decide, errF_mk (q2 rfl)⟩)⟩
    | txt x =>
      simp only [VH] at hv
      subst hv
      simp only [okV] at od
      refine iteF' rfl ⟨_, rfl, _, _, rfl, hv0, _, rfl, iteT' rfl ⟨_, rfl, u, e, rfl, hu0, _, rfl, ?_⟩⟩
      cases e with
      | num i =>
        simp only [VH] at hu'
        subst hu'
        have qq := q1 _ rfl
        refine iteT' rfl ⟨_, rfl, _, _, rfl, rfl, _, rfl, ite2 (fun c => .inr ⟨_, rfl, x, rfl, Nat.le_trans od.2 (by decide), _, _, rfl, rfl, ?_⟩) (fun c => ?_)⟩
        · rw [c, Bool.true_and] at qq
          exact qq
        · have c' : decide (0 ≤ i) = false := by simpa using c
          rw [c', Bool.false_and] at qq
          exact qq
      | _ => exact iteF' rfl ⟨_, rfl, _, _, rfl, hv0, _, rfl, iteF' rfl (iteF' rfl ⟨by show 1 ≤ 1000; decide, errF_mk (q2 rfl)⟩)⟩
    | rc ks vs =>
      refine iteF' rfl ⟨_, rfl, v, _, rfl, hv0, _, rfl, iteF' rfl (iteF' rfl ⟨_, rfl, v, _, rfl, hv0, _, rfl, iteT' rfl ⟨_, rfl, u, e, rfl, hu0, _, rfl, ?_⟩⟩)⟩
      cases e with
      | txt y =>
        simp only [VH] at hu' hv
        subst hu'
        have hvr := hv0.vr
        simp only [VR] at hvr
        obtain ⟨a, kvs, rfl, h1, h2, h3, h4⟩ := hv
        obtain ⟨_, kvs', e0, g1, g2, _, g4⟩ := hvr
        cases e0
        have ek : kvs' = kvs := by
          rcases g1 with g1 | ⟨o, g1⟩
          · rw [h1] at g1
            cases g1
            rfl
          · rw [h1] at g1
            cases g1
        subst ek
        have ll : ks.length = vs.length := by
          simp only [okV] at od
          obtain ⟨_, _, _, z, _⟩ := od
          exact z
        refine iteT' rfl ⟨_, rfl, _, rfl, a, _, rfl, .inl ⟨_, .inr y, .inl h1, rfl, rfl⟩, ?_⟩
        have : (valV kvs' (.inr y)).isSome = decide (y ∈ ks) := by
          rcases val_look (x := y) g2 g4 with ⟨l1, l2⟩ | ⟨w, v', l1, l2, _⟩
          · rw [l2]
            have := (lookV_none ll h3).mp l1
            simp [this]
          · rw [l2]
            obtain ⟨j, e1, _⟩ := lookV_some l1
            have := List.mem_of_getElem? e1
            simp [this]
        rw [this]
        exact q1 _ rfl
      | _ => exact iteF' rfl ⟨by show 1 ≤ 1000; decide, errF_mk (q2 rfl)⟩
    | _ => exact iteF' rfl ⟨_, rfl, _, _, rfl, hv0, _, rfl, iteF' rfl (iteF' rfl ⟨_, rfl, _, _, rfl, hv0, _, rfl, iteF' rfl (iteF' rfl ⟨by show 1 ≤ 1000; decide, errF_mk (q2 (by cases e <;> rfl))⟩)⟩)⟩
end
end VL

set_option Elab.async false
set_option linter.all false
set_option pp.maxSteps 500
set_option maxRecDepth 100000
set_option maxHeartbeats 4000000
namespace VL
open PySem PySem.Spec PyProof.Rows L2 NdefX
theorem sm_mem {kvs : List (Key × V)} {ks : List Str} {H : Hp} {vs : List Val} {x : Str} {e : Val} (hk : kvs.map (·.1) = ks.map Sum.inr) (hv : VHs H vs (kvs.map (·.2))) (nd : ks.Nodup) (l : lookV ks vs x = some e) : ∃ v, valV kvs (.inr x) = some v ∧ VH H e v := by
  obtain ⟨j, h1, h2⟩ := lookV_some l
  obtain ⟨v, h3, h4⟩ := hv.get' h2
  have jl := (List.getElem?_eq_some_iff.mp h1).1
  have kl : kvs.length = ks.length := by have := congrArg List.length hk; simpa using this
  have hkv : kvs[j]? = some (kvs[j]'(by omega)) := List.getElem?_eq_getElem (by omega)
  generalize kvs[j]'(by omega) = p at hkv
  obtain ⟨pk, pv⟩ := p
  obtain ⟨x', rfl, hx'⟩ := walk_kn hk hkv
  rw [h1] at hx'
  cases hx'
  rw [List.getElem?_map, hkv] at h3
  cases h3
  have nd0 : (kvs.map (·.1)).Nodup := by
    rw [hk]
    exact List.Pairwise.map _ (fun a b z q => z (Sum.inr.inj q)) nd
  exact ⟨pv, valV_nd nd0 hkv, h4⟩
theorem sm_none {kvs : List (Key × V)} {ks : List Str} {H : Hp} {vs : List Val} {x : Str} (hk : kvs.map (·.1) = ks.map Sum.inr) (hv : VHs H vs (kvs.map (·.2))) (l : lookV ks vs x = none) (nd : ks.Nodup) : valV kvs (.inr x) = none := by
  have ll : ks.length = vs.length := by
    have h1 := congrArg List.length hk
    have h2 := hv.len
    simp only [List.length_map] at h1 h2
    omega
  refine valV_out ?_
  rw [hk]
  intro hm
  obtain ⟨x', hx', e'⟩ := List.mem_map.mp hm
  cases e'
  exact (lookV_none ll nd).mp l hx'
theorem atI_nat {xs : List V} {i : Int} (h0 : 0 ≤ i) (h1 : i < (xs.length : Int)) {x : V} (h : xs[i.toNat]? = some x) : atI xs i = some x := by
  unfold atI ixN
  rw [if_pos h0, if_pos h1]
  exact h
theorem atI_natN {xs : List Nat} {i : Int} (h0 : 0 ≤ i) (h1 : i < (xs.length : Int)) {x : Nat} (h : xs[i.toNat]? = some x) : atI xs i = some x := by
  unfold atI ixN
  rw [if_pos h0, if_pos h1]
  exact h
theorem at_false {d e : Val} {n : Nat} (hok : okV d n) (h : hpV d e = some false) : atV d e = .error "nothing there" := by
  cases d with
  | lst vs =>
    cases e with
    | num i =>
      simp only [hpV, Option.some.injEq, Bool.and_eq_false_iff, decide_eq_false_iff_not] at h
      simp only [atV]
      by_cases h0 : 0 ≤ i
      · rw [if_pos h0]
        have : vs.length ≤ i.toNat := by omega
        rw [List.getElem?_eq_none this]
      · rw [if_neg h0]
    | _ => exact nomatch h
  | txt x =>
    cases e with
    | num i =>
      simp only [hpV, Option.some.injEq, Bool.and_eq_false_iff, decide_eq_false_iff_not] at h
      simp only [atV]
      by_cases h0 : 0 ≤ i
      · rw [if_pos h0]
        have e1 : x.length = x.cps.toList.length := by simp [Str.length]
        have : x.cps.toList.length ≤ i.toNat := by omega
        rw [List.getElem?_eq_none this]
      · rw [if_neg h0]
    | _ => exact nomatch h
  | rc ks vs =>
    cases e with
    | txt x =>
      simp only [okV] at hok
      obtain ⟨_, _, _, ll, nd, _⟩ := hok
      simp only [hpV, Option.some.injEq, decide_eq_false_iff_not] at h
      simp only [atV, (lookV_none ll nd).mpr h]
    | _ => exact nomatch h
  | _ => exact nomatch h
/-- the three expressions of the law -/
inductive Ex15 where
  | item
  | field (x : Str)
  | neg
def resV (e : Ex15) (d d2 : Val) : Res := match e with
  | .item => atV d d2
  | .field x => fieldV d x
  | .neg => notV d
def ExA (H : Hp) (e : Ex15) (t : Addr) : Prop := match e with
  | .item => ∃ t1 t2, H t = some (.tup [.str "item", .ref t1, .ref t2]) ∧ H t1 = some (.tup [.str "name", .str "p"]) ∧ H t2 = some (.tup [.str "name", .str "q"])
  | .field x => ∃ t1, H t = some (.tup [.str "field", .ref t1, .str x]) ∧ H t1 = some (.tup [.str "name", .str "p"])
  | .neg => ∃ t1, H t = some (.tup [.str "not", .ref t1]) ∧ H t1 = some (.tup [.str "name", .str "p"])
theorem lookV_mem {ks : List Str} {vs : List Val} {x : Str} {e : Val} (h : lookV ks vs x = some e) : e ∈ vs := by
  obtain ⟨i, _, h2⟩ := lookV_some h
  exact List.mem_of_getElem? h2
theorem res_ok {e : Ex15} {d d2 r : Val} (hok : okV d 5) (h : resV e d d2 = .ok r) : okW r := by
  have m5 := okV_mem5 hok
  cases e with
  | item =>
    cases d with
    | lst vs =>
      cases d2 with
      | num i =>
        simp only [resV, atV] at h
        by_cases h0 : 0 ≤ i
        · rw [if_pos h0] at h
          cases hx : vs[i.toNat]? with
          | none => rw [hx] at h; exact nomatch h
          | some e =>
            rw [hx] at h
            cases h
            exact .inl (okVs_get m5 hx)
        · rw [if_neg h0] at h
          exact nomatch h
      | _ => exact nomatch h
    | txt x =>
      cases d2 with
      | num i =>
        simp only [resV, atV] at h
        by_cases h0 : 0 ≤ i
        · rw [if_pos h0] at h
          cases hx : x.cps.toList[i.toNat]? with
          | none => rw [hx] at h; exact nomatch h
          | some e =>
            rw [hx] at h
            cases h
            exact .inr ⟨_, rfl⟩
        · rw [if_neg h0] at h
          exact nomatch h
      | _ => exact nomatch h
    | rc ks vs =>
      cases d2 with
      | txt x =>
        simp only [resV, atV] at h
        cases hx : lookV ks vs x with
        | none => rw [hx] at h; exact nomatch h
        | some e =>
          rw [hx] at h
          cases h
          exact .inl (okVs_mem m5 (lookV_mem hx))
      | _ => exact nomatch h
    | _ => exact nomatch h
  | field x =>
    cases d with
    | rc ks vs =>
      simp only [resV, fieldV] at h
      cases hx : lookV ks vs x with
      | none => rw [hx] at h; exact nomatch h
      | some e =>
        rw [hx] at h
        cases h
        exact .inl (okVs_mem m5 (lookV_mem hx))
    | _ => exact nomatch h
  | neg =>
    cases d with
    | bl b =>
      cases h
      exact .inl (by simp only [okV])
    | _ => exact nomatch h
/-- an expression, its environment, what comes out -/
def spEx (D : Addr) (e0 : Option Ex15) : Sp := fun vs H Q E => ∃ (e : Ex15) (t env : Addr) (z : V) (kvs : List (Key × V)) (v u : V) (d d2 : Val), (∀ x, e0 = some x → e = x) ∧ vs = [.ref t, .ref env, z] ∧ ExA H e t ∧ H env = some (.dK kvs) ∧ valV kvs (.inr "p") = some v ∧ VH H d v ∧ okV d 5 ∧ (e = .item → valV kvs (.inr "q") = some u ∧ VH H d2 u ∧ okV d2 5) ∧ (∀ x, e = .field x → x.length ≤ 5) ∧ outV D (resV e d d2) H Q E
section
variable {P : Program} {w : World} {K : PySem.W.Frag} {mg : Str → Option Value} {base : Heap} {C : Ad}
theorem sc_name_value : FnScope ["expression", "environment", "owner"] ["expression", "environment", "owner"] (defScope s_name_value) := ⟨rfl, rfl, rfl, by decide +kernel, rfl, by decide +kernel, by decide +kernel⟩
theorem ok_name (T : Txt K w mg C) : Cal P w K mg base 1 "name_value" spName := by
  refine cal_of T.d_name_value sc_name_value (fun vs H Q E h => ?_) (fun f cdv A outer s H vs Q E hr h => ?_)
  · obtain ⟨t, env, z, nm, kvs, v, rfl, _⟩ := h
    rfl
  · obtain ⟨t, env, z, nm, kvs, v, rfl, ht, he, hv, q⟩ := h
    have hu := hu_of hr
    refine ⟨_, (pss_one (ps_ret (pe_dget1 hu (pv 1) (pe_ix ix_tup (pv 0) pe_int (fun _ _ => rfl)) ⟨rfl, rfl, rfl, rfl⟩))), ?_⟩
    refine ⟨_, rfl, env, rfl, .inl ⟨_, .inl he⟩, _, rfl, t, _, _, _, rfl, rfl, SqT.of ht, at_1, ?_⟩
    exact ⟨some v, .inl ⟨kvs, .inr nm, .inl he, rfl, hv.symm⟩, q⟩
theorem sc_value_of : FnScope ["expression", "environment", "owner", "action"] ["expression", "environment", "owner"] (defScope s_value_of) := ⟨rfl, rfl, rfl, by decide +kernel, rfl, by decide +kernel, by decide +kernel⟩
theorem ok_leaf (T : Txt K w mg C) : Cal P w K mg base 2 "value_of" spName := by
  obtain ⟨aT, gT_ACTIONS_evaluating, ⟨f1, m1, e1⟩, _⟩ := T.tb_ACTIONS_evaluating
  refine cal_of T.d_value_of sc_value_of (fun vs H Q E h => ?_) (fun f cdv A outer s H vs Q E hr h => ?_)
  · obtain ⟨t, env, z, nm, kvs, v, rfl, _⟩ := h
    rfl
  · obtain ⟨t, env, z, nm, kvs, v, rfl, ht, he, hv, q⟩ := h
    refine ⟨_, (pss_cons (ps_set (i := 3) sc_value_of.nd rfl (Or.inl rfl) (pe_ix ix_kdict (C8.pe_gc (by rfl) gT_ACTIONS_evaluating) (pe_ix ix_tup (pv 0) pe_int (fun _ _ => rfl)) (fun _ _ => rfl))) (pss_one (ps_ret (pe_callT (i := 3) hr rfl (Or.inl rfl) (pa_cons (pv 0) (pa_cons (pv 1) (pa_cons (pv 2) pa_nil))))))), ?_⟩
    refine ⟨_, rfl, t, _, _, .str "name", rfl, rfl, SqT.of ht, at_0, aT, _, .ref f1, rfl, rfl, e1, ?_⟩
    exact ⟨"name_value", 1, spName, f1, by decide, ok_name T, m1, rfl, _, rfl, _, rfl, _, rfl, t, env, z, nm, kvs, v, rfl, ht, he, hv, q⟩
theorem sc_not_value : FnScope ["expression", "environment", "owner"] ["expression", "environment", "owner"] (defScope s_not_value) := ⟨rfl, rfl, rfl, by decide +kernel, rfl, by decide +kernel, by decide +kernel⟩
theorem ok_not (TE : TxtE P K w mg C) : CalX P w K mg base 6 "not_value" (spEx C.Fault (some .neg)) := by
  have T := TE.t
  have Gvalue_of := ok_leaf (P := P) (base := base) T
  have Xneed_truth := ok_needT (w := w) (base := base) TE
  refine calX_of T.d_not_value sc_not_value (fun vs H Q E h => ?_) (fun f cdv A outer s H vs Q E hr h => ?_)
  · obtain ⟨e, t, env, z, kvs, v, u, d, d2, _, rfl, _⟩ := h
    rfl
  · obtain ⟨e, t, env, z, kvs, v, u, d, d2, he, rfl, hx, henv, hp, hv, hok, _, _, q⟩ := h
    obtain rfl := he _ rfl
    obtain ⟨t1, h0, h1⟩ := hx
    refine ⟨_, (pss_one (ps_ret (pe_not (pe_cX thruX Xneed_truth hr (by decide) (by rfl) (pa_cons (pe_c Gvalue_of hr (by decide) (by rfl) (pa_cons (pe_ix ix_tup (pv 0) pe_int (fun _ _ => rfl)) (pa_cons (pv 1) (pa_cons (pv 2) pa_nil)))) pa_nil))))), ?_⟩
    refine ⟨_, rfl, t, _, _, _, rfl, rfl, SqT.of h0, at_1, _, rfl, _, rfl, t1, env, z, "p", kvs, v, rfl, h1, henv, hp, v, d, rfl, hv, fun hb => ?_, fun hb => ?_⟩
    · cases d with
      | bl b =>
        simp only [VH] at hv
        subst hv
        exact ⟨b, rfl, q _ H SmM.refl (by simp only [VH])⟩
      | _ => exact nomatch hb
    · have : resV .neg d d2 = .error "not true or false" := by cases d <;> first | rfl | exact nomatch hb
      rw [this] at q
      exact q
theorem sc_field_value : FnScope ["expression", "environment", "owner", "record"] ["expression", "environment", "owner"] (defScope s_field_value) := ⟨rfl, rfl, rfl, by decide +kernel, rfl, by decide +kernel, by decide +kernel⟩
theorem ok_field (TE : TxtE P K w mg C) (x0 : Str) : CalX P w K mg base 6 "field_value" (spEx C.Fault (some (.field x0))) := by
  have T := TE.t
  obtain ⟨fI, fd, FI, iI, tI, bI⟩ := ok_FInit (w := w) (base := base) TE
  have IO := TE.xi_Fault.o
  have gI := TE.xi_Fault.g
  have Gvalue_of := ok_leaf (P := P) (base := base) T
  have Xneed_record := ok_needR (w := w) (base := base) TE
  refine calX_of T.d_field_value sc_field_value (fun vs H Q E h => ?_) (fun f cdv A outer s H vs Q E hr h => ?_)
  · obtain ⟨e, t, env, z, kvs, v, u, d, d2, _, rfl, _⟩ := h
    rfl
  · obtain ⟨e, t, env, z, kvs, v, u, d, d2, he, rfl, hx, henv, hp, hv, hok, _, hl, q⟩ := h
    have hu := hu_of hr
    obtain rfl := he _ rfl
    have x5 := hl _ rfl
    obtain ⟨t1, h0, h1⟩ := hx
    refine ⟨_, (pss_cons (ps_set (i := 3) sc_field_value.nd rfl (Or.inl rfl) (pe_cX thruX Xneed_record hr (by decide) (by rfl) (pa_cons (pe_c Gvalue_of hr (by decide) (by rfl) (pa_cons (pe_ix ix_tup (pv 0) pe_int (fun _ _ => rfl)) (pa_cons (pv 1) (pa_cons (pv 2) pa_nil)))) pa_nil))) (pss_cons (ps_if (pt_cmp (pc_dnotin hu (pe_ix ix_tup (pv 0) pe_int (fun _ _ => rfl)) (pv 3))) (pss_one (ps_raise rfl takeX (pmk_oex IO iI tI FI (hr.mono (by decide)) bI .nil pass0 rfl gI (pa_cons (pe_op op_add_str pe_str (pe_ix ix_tup (pv 0) pe_int (fun _ _ => rfl))) pa_nil)))) pss_nil) (pss_one (ps_ret (pe_dget hu (pv 3) (pe_ix ix_tup (pv 0) pe_int (fun _ _ => rfl)) (fun _ _ => rfl)))))), ?_⟩
    have tp := fun {K : PySem.W.Frag} => SqT.of (K := K) h0
    refine ⟨_, rfl, t, _, _, _, rfl, rfl, SqT.of h0, at_1, _, rfl, _, rfl, t1, env, z, "p", kvs, v, rfl, h1, henv, hp, v, d, rfl, hv, fun hb => ?_, fun hb => ?_⟩
    · cases d with
      | rc ks vs =>
        simp only [VH] at hv
        obtain ⟨a, kvs', rfl, g1, g2, g3, g4⟩ := hv
        refine ⟨_, rfl, t, _, _, _, rfl, rfl, SqT.of h0, at_2, _, rfl, a, _, rfl, .inl ⟨kvs', .inr x0, .inl g1, rfl, rfl⟩, _, rfl, ?_⟩
        cases l : lookV ks vs x0 with
        | some e =>
          obtain ⟨w, l2, l3⟩ := sm_mem g2 g4 g3 l
          have e2 : resV (.field x0) (.rc ks vs) d2 = .ok e := by simp only [resV, fieldV, l]
          rw [e2] at q
          refine iteF' (by rw [l2]; rfl) ?_
          exact ⟨_, rfl, _, rfl, t, _, _, _, rfl, rfl, SqT.of h0, at_2, a, w, rfl, .inl ⟨kvs', .inr x0, .inl g1, rfl, l2.symm⟩, q w H SmM.refl l3⟩
        | none =>
          have e2 : resV (.field x0) (.rc ks vs) d2 = .error ("no field " ++ x0) := by simp only [resV, fieldV, l]
          rw [e2] at q
          have l2 := sm_none g2 g4 l g3
          refine iteT' (by rw [l2]; rfl) ⟨_, rfl, t, _, _, _, rfl, rfl, SqT.of h0, at_2, _, _, rfl, rfl, ?_, by show 1 ≤ 1000; decide, errF_mk q⟩
          have e9 : ("no field " : Str).length = 9 := rfl
          have big : 1000 < sizeLine := by decide
          omega
      | _ => exact nomatch hb
    · have : resV (.field x0) d d2 = .error "not a record" := by cases d <;> first | rfl | exact nomatch hb
      rw [this] at q
      exact q
theorem sc_item_value : FnScope ["expression", "environment", "owner", "base", "index"] ["expression", "environment", "owner"] (defScope s_item_value) := ⟨rfl, rfl, rfl, by decide +kernel, rfl, by decide +kernel, by decide +kernel⟩
theorem ok_item (TE : TxtE P K w mg C) : CalX P w K mg base 6 "item_value" (spEx C.Fault (some .item)) := by
  have T := TE.t
  obtain ⟨fI, fd, FI, iI, tI, bI⟩ := ok_FInit (w := w) (base := base) TE
  have IO := TE.xi_Fault.o
  have gI := TE.xi_Fault.g
  have Gvalue_of := ok_leaf (P := P) (base := base) T
  have Xhas_place := ok_hasP (w := w) (base := base) TE
  refine calX_of T.d_item_value sc_item_value (fun vs H Q E h => ?_) (fun f cdv A outer s H vs Q E hr h => ?_)
  · obtain ⟨e, t, env, z, kvs, v, u, d, d2, _, rfl, _⟩ := h
    rfl
  · obtain ⟨e, t, env, z, kvs, v, u, d, d2, he, rfl, hx, henv, hp, hv, hok, hq, _, q⟩ := h
    have hu := hu_of hr
    obtain rfl := he _ rfl
    obtain ⟨hq1, hv2, hok2⟩ := hq rfl
    obtain ⟨t1, t2, h0, h1, h2⟩ := hx
    refine ⟨_, (pss_cons (ps_set (i := 3) sc_item_value.nd rfl (Or.inl rfl) (pe_c Gvalue_of hr (by decide) (by rfl) (pa_cons (pe_ix ix_tup (pv 0) pe_int (fun _ _ => rfl)) (pa_cons (pv 1) (pa_cons (pv 2) pa_nil))))) (pss_cons (ps_set (i := 4) sc_item_value.nd rfl (Or.inl rfl) (pe_c Gvalue_of hr (by decide) (by rfl) (pa_cons (pe_ix ix_tup (pv 0) pe_int (fun _ _ => rfl)) (pa_cons (pv 1) (pa_cons (pv 2) pa_nil))))) (pss_cons (ps_if (pt_not (pt_val (pe_cX thruX Xhas_place hr (by decide) (by rfl) (pa_cons (pv 3) (pa_cons (pv 4) pa_nil))))) (pss_one (ps_raise rfl takeX (pmk_oex IO iI tI FI (hr.mono (by decide)) bI .nil pass0 rfl gI (pa_cons pe_str pa_nil)))) pss_nil) (pss_one (ps_ret (pe_two (pe_ix ix_list (pv 3) (pv 4) (fun _ _ => rfl)) (pe_two (pe_ix ix_str (pv 3) (pv 4) (fun _ _ => rfl)) (pe_dget hu (pv 3) (pv 4) (fun _ _ => rfl))))))))), ?_⟩
    refine ⟨_, rfl, t, _, _, _, rfl, rfl, SqT.of h0, at_1, _, rfl, _, rfl, t1, env, z, "p", kvs, v, rfl, h1, henv, hp, ?_⟩
    refine ⟨_, rfl, t, _, _, _, rfl, rfl, SqT.of h0, at_2, _, rfl, _, rfl, t2, env, z, "q", kvs, u, rfl, h2, henv, hq1, ?_⟩
    refine ⟨_, rfl, _, rfl, v, u, d, d2, rfl, hv, hv2, hok, hok2, fun b hb => ⟨_, rfl, ?_⟩, fun hb => ?_⟩
    · cases b with
      | false =>
        have : resV .item d d2 = .error "nothing there" := at_false hok hb
        rw [this] at q
        exact iteT' rfl ⟨by show 1 ≤ 1000; decide, errF_mk q⟩
      | true =>
        refine iteF' rfl ?_
        cases d with
        | lst vs =>
          cases d2 with
          | num i =>
            simp only [hpV, Option.some.injEq, Bool.and_eq_true, decide_eq_true_eq] at hb
            simp only [VH] at hv hv2
            subst hv2
            obtain ⟨a, xs, rfl, g1, g2⟩ := hv
            have xl := g2.len
            have hi : i.toNat < vs.length := by omega
            have he := List.getElem?_eq_getElem hi
            obtain ⟨x, hx, vx⟩ := g2.get' he
            have : resV .item (.lst vs) (.num i) = .ok vs[i.toNat] := by
              simp only [resV, atV, he]
              rw [if_pos hb.1]
            rw [this] at q
            exact .inl ⟨_, rfl, _, rfl, a, _, _, _, rfl, rfl, SqL.of g1, atI_nat hb.1 (by omega) hx, q x H SmM.refl vx⟩
          | _ => exact nomatch hb
        | txt x =>
          cases d2 with
          | num i =>
            simp only [hpV, Option.some.injEq, Bool.and_eq_true, decide_eq_true_eq] at hb
            simp only [VH] at hv hv2
            subst hv hv2
            simp only [okV] at hok
            have e1 : x.length = x.cps.toList.length := by simp [Str.length]
            have hi : i.toNat < x.cps.toList.length := by omega
            have he := List.getElem?_eq_getElem hi
            have : resV .item (.txt x) (.num i) = .ok (.txt (TX [x.cps.toList[i.toNat]])) := by
              simp only [resV, atV, he]
              rw [if_pos hb.1]
            rw [this] at q
            exact .inr (.inl ⟨_, rfl, _, rfl, x, i, _, rfl, rfl, Nat.le_trans hok.2 (by decide), atI_natN hb.1 (by omega) he, q _ H SmM.refl (by simp only [VH])⟩)
          | _ => exact nomatch hb
        | rc ks vs =>
          cases d2 with
          | txt y =>
            simp only [hpV, Option.some.injEq, decide_eq_true_eq] at hb
            simp only [VH] at hv hv2
            subst hv2
            obtain ⟨a, kvs', rfl, g1, g2, g3, g4⟩ := hv
            simp only [okV] at hok
            obtain ⟨_, _, _, ll, nd, _⟩ := hok
            cases l : lookV ks vs y with
            | none => exact absurd hb ((lookV_none ll nd).mp l)
            | some e =>
              obtain ⟨w, l2, l3⟩ := sm_mem g2 g4 g3 l
              have : resV .item (.rc ks vs) (.txt y) = .ok e := by simp only [resV, atV, l]
              rw [this] at q
              exact .inr (.inr ⟨_, rfl, _, rfl, a, w, rfl, .inl ⟨kvs', .inr y, .inl g1, rfl, l2.symm⟩, q w H SmM.refl l3⟩)
          | _ => exact nomatch hb
        | _ => exact nomatch hb
    · have : resV .item d d2 = .error "not a place" := by
        cases d <;> cases d2 <;> first | rfl | exact nomatch hb
      rw [this] at q
      exact q
theorem sc_evaluate : FnScope ["expression", "environment", "owner"] ["expression", "environment", "owner"] (defScope s_evaluate) := ⟨rfl, rfl, rfl, by decide +kernel, rfl, by decide +kernel, by decide +kernel⟩
theorem ok_value (TE : TxtE P K w mg C) : CalX P w K mg base 7 "value_of" (spEx C.Fault none) := by
  have T := TE.t
  obtain ⟨aT, gT_ACTIONS_evaluating, ⟨f1, m1, e1⟩, ⟨f2, m2, e2⟩, ⟨f3, m3, e3⟩, ⟨f4, m4, e4⟩⟩ := T.tb_ACTIONS_evaluating
  refine calX_of T.d_value_of sc_value_of (fun vs H Q E h => ?_) (fun f cdv A outer s H vs Q E hr h => ?_)
  · obtain ⟨e, t, env, z, kvs, v, u, d, d2, _, rfl, _⟩ := h
    rfl
  · obtain ⟨e, t, env, z, kvs, v, u, d, d2, _, rfl, hx, rest⟩ := h
    refine ⟨_, (pss_cons (ps_set (i := 3) sc_value_of.nd rfl (Or.inl rfl) (pe_ix ix_kdict (C8.pe_gc (by rfl) gT_ACTIONS_evaluating) (pe_ix ix_tup (pv 0) pe_int (fun _ _ => rfl)) (fun _ _ => rfl))) (pss_one (ps_ret (pe_two (pe_callT (i := 3) hr rfl (Or.inl rfl) (pa_cons (pv 0) (pa_cons (pv 1) (pa_cons (pv 2) pa_nil)))) (pe_callTX thruX (i := 3) hr rfl (Or.inl rfl) (pa_cons (pv 0) (pa_cons (pv 1) (pa_cons (pv 2) pa_nil)))))))), ?_⟩
    cases e with
    | item =>
      have hx0 := hx
      obtain ⟨t1, t2, h0, _⟩ := hx
      refine ⟨_, rfl, t, _, _, .str "item", rfl, rfl, SqT.of h0, at_0, aT, _, .ref f2, rfl, rfl, e2, .inr ?_⟩
      exact ⟨"item_value", 6, _, f2, by decide, ok_item TE, m2, rfl, _, rfl, _, rfl, _, rfl, .item, t, env, z, kvs, v, u, d, d2, fun x q => Option.some.inj q, rfl, hx0, rest⟩
    | field x =>
      have hx0 := hx
      obtain ⟨t1, h0, _⟩ := hx
      refine ⟨_, rfl, t, _, _, .str "field", rfl, rfl, SqT.of h0, at_0, aT, _, .ref f3, rfl, rfl, e3, .inr ?_⟩
      exact ⟨"field_value", 6, _, f3, by decide, ok_field TE x, m3, rfl, _, rfl, _, rfl, _, rfl, .field x, t, env, z, kvs, v, u, d, d2, fun x q => Option.some.inj q, rfl, hx0, rest⟩
    | neg =>
      have hx0 := hx
      obtain ⟨t1, h0, _⟩ := hx
      refine ⟨_, rfl, t, _, _, .str "not", rfl, rfl, SqT.of h0, at_0, aT, _, .ref f4, rfl, rfl, e4, .inr ?_⟩
      exact ⟨"not_value", 6, _, f4, by decide, ok_not TE, m4, rfl, _, rfl, _, rfl, _, rfl, .neg, t, env, z, kvs, v, u, d, d2, fun x q => Option.some.inj q, rfl, hx0, rest⟩
theorem ok_evaluate (TE : TxtE P K w mg C) : CalX P w K mg base 14 "evaluate" (spEx C.Fault none) := by
  have T := TE.t
  have Gcopied := ok_copied (P := P) (base := base) T
  have Xvalue_of := ok_value (w := w) (base := base) TE
  refine calX_of T.d_evaluate sc_evaluate (fun vs H Q E h => ?_) (fun f cdv A outer s H vs Q E hr h => ?_)
  · obtain ⟨e, t, env, z, kvs, v, u, d, d2, _, rfl, _⟩ := h
    rfl
  · obtain ⟨e, t, env, z, kvs, v, u, d, d2, h0, rfl, hx, he, hp, hv, hok, hq, hl, q⟩ := h
    refine ⟨_, (pss_one (ps_ret (pe_c Gcopied hr (by decide) (by rfl) (pa_cons (pe_cX thruX Xvalue_of hr (by decide) (by rfl) (pa_cons (pv 0) (pa_cons (pv 1) (pa_cons (pv 2) pa_nil)))) pa_nil)))), ?_⟩
    refine ⟨_, rfl, _, rfl, _, rfl, e, t, env, z, kvs, v, u, d, d2, h0, rfl, hx, he, hp, hv, hok, hq, hl, ?_⟩
    have ok5 := fun r => res_ok (e := e) (d := d) (d2 := d2) (r := r) hok
    cases eo : resV e d d2 with
    | error m =>
      rw [eo] at q
      exact q
    | ok r =>
      rw [eo] at q
      have o5 := ok5 r eo
      intro x H1 s1 hx1
      refine ⟨x, r, H1, [], rfl, Sb.nil, hx1, o5, o5.cst, fun y A' G2 H2 S2 g2 vt _ _ => ?_⟩
      exact q y H2 (SmM.trans s1 (SmM.trans g2 S2.s)) ((VT_vh _ _ _ vt).1.same S2.s)
end
end VL

set_option Elab.async false
set_option linter.all false
set_option pp.maxSteps 500
set_option maxRecDepth 100000
set_option maxHeartbeats 4000000
namespace VL
open PySem PySem.Spec PyProof.Rows L2
theorem okW_refl {d : Val} (h : okW d) : sameV d d = true := by
  rcases h with h | ⟨x, rfl⟩
  · exact sameV_refl d h
  · simp [sameV]
def RTA (H : Hp) (r : Res) (p : Addr) : Prop := match r with
  | .ok d => ∃ x, H p = some (.tup [x, .non]) ∧ VH H d x
  | .error m => H p = some (.tup [.non, .str m])
theorem RTA.same {H H' : Hp} {r : Res} {p : Addr} (h : RTA H r p) (s : Same H H') : RTA H' r p := by
  cases r with
  | ok d =>
    obtain ⟨x, h1, h2⟩ := h
    exact ⟨x, s _ _ h1, h2.same s⟩
  | error m => exact s _ _ h
def isNm : Val → Bool
  | .num _ => true
  | _ => false
theorem k2 (a b c e : Str) : decide ([a, b] = [c, e]) = (decide (a = c) && decide (b = e)) := by
  by_cases h1 : a = c <;> by_cases h2 : b = e <;> simp [h1, h2]
theorem kn_D (d : Val) : decide (kindN d = "record") = isD d := by
  cases d <;> first | exact decide_eq_true rfl | exact decide_eq_false (by simp only [kindN]; decide)
theorem kn_S (d : Val) : decide (kindN d = "text") = isS d := by
  cases d <;> first | exact decide_eq_true rfl | exact decide_eq_false (by simp only [kindN]; decide)
theorem kn_L (d : Val) : decide (kindN d = "list") = isL d := by
  cases d <;> first | exact decide_eq_true rfl | exact decide_eq_false (by simp only [kindN]; decide)
theorem kn_N (d : Val) : decide (kindN d = "number") = isNm d := by
  cases d <;> first | exact decide_eq_true rfl | exact decide_eq_false (by simp only [kindN]; decide)
theorem k_rt (d e : Val) : decide ([kindN d, kindN e] = (["record", "text"] : List Str)) = (isD d && isS e) := by rw [k2, kn_D, kn_S]
theorem k_ln (d e : Val) : decide ([kindN d, kindN e] = (["list", "number"] : List Str)) = (isL d && isNm e) := by rw [k2, kn_L, kn_N]
theorem k_tn (d e : Val) : decide ([kindN d, kindN e] = (["text", "number"] : List Str)) = (isS d && isNm e) := by rw [k2, kn_S, kn_N]
def spAt : Sp := fun vs H Q _ => ∃ (v u : V) (d e : Val), vs = [v, u] ∧ VH H d v ∧ VH H e u ∧ okV d 5 ∧ okV e 5 ∧ ∀ p H', Same H H' → RTA H' (atV d e) p → Q (.ref p) H'
def spFieldL : Sp := fun vs H Q _ => ∃ (v : V) (d : Val) (x : Str), vs = [v, .str x] ∧ VH H d v ∧ okV d 5 ∧ x.length ≤ 5 ∧ ∀ p H', Same H H' → RTA H' (fieldV d x) p → Q (.ref p) H'
def spEvL : Sp := fun vs H Q _ => ∃ (e : Ex15) (t env : Addr) (z : V) (kvs : List (Key × V)) (v u : V) (d d2 : Val), vs = [.ref t, .ref env, z] ∧ ExA H e t ∧ H env = some (.dK kvs) ∧ valV kvs (.inr "p") = some v ∧ VH H d v ∧ okV d 5 ∧ (e = .item → valV kvs (.inr "q") = some u ∧ VH H d2 u ∧ okV d2 5) ∧ (∀ x, e = .field x → x.length ≤ 5) ∧ ∀ p H', Same H H' → RTA H' (resV e d d2) p → Q (.ref p) H'
def spRt : Sp := fun vs H Q _ => ∃ (p1 p2 : Addr) (r : Res), vs = [.ref p1, .ref p2] ∧ RTA H r p1 ∧ RTA H r p2 ∧ (∀ d, r = .ok d → okW d) ∧ ∀ H', Same H H' → Q (.bl true) H'
theorem dp_strs2 {K : PySem.W.Frag} {H : Hp} {l : Addr} {a b : Str} (h : H l = some (.lst [.str a, .str b])) : Dp K H (.ref l) (.list ([a, b].map PyData.str)) := (Dq.lst h (dqAll_strs [a, b])).dp (plain_strs _)
section
variable {P : Program} {w : World} {K : PySem.W.Frag} {mg : Str → Option Value} {base : Heap} {C : Ad}
theorem sc__law_right : FnScope ["told", "due"] ["told", "due"] (defScope s__law_right) := ⟨rfl, rfl, rfl, by decide +kernel, rfl, by decide +kernel, by decide +kernel⟩
theorem ok_lright (T : Txt K w mg C) : Cal P w K mg base 14 "_law_right" spRt := by
  have G_law_same := ls_N (P := P) (base := base) T 10
  refine cal_of T.d__law_right sc__law_right (fun vs H Q E h => ?_) (fun f cdv A outer s H vs Q E hr h => ?_)
  · obtain ⟨p1, p2, r, rfl, _⟩ := h
    rfl
  · obtain ⟨p1, p2, r, rfl, h1, h2, ho, q⟩ := h
    refine ⟨_, (pss_cons (ps_if (pt_cmp (pc_notN (pe_ix ix_tup (pv 1) pe_int (fun _ _ => rfl)))) (pss_one (ps_ret (pe_cmpR op_eq (pe_ix ix_tup (pv 0) pe_int (fun _ _ => rfl)) (pe_ix ix_tup (pv 1) pe_int (fun _ _ => rfl)) (nomark _)))) pss_nil) (pss_one (ps_ret (pe_and (pe_cmp (pc_isN (pe_ix ix_tup (pv 0) pe_int (fun _ _ => rfl)))) (pe_one (pe_c G_law_same hr (by decide) (by rfl) (pa_cons (pe_ix ix_tup (pv 0) pe_int (fun _ _ => rfl)) (pa_cons (pe_ix ix_tup (pv 1) pe_int (fun _ _ => rfl)) pa_nil)))))))), ?_⟩
    cases r with
    | ok d =>
      obtain ⟨x, h1, v1⟩ := h1
      obtain ⟨y, h2, v2⟩ := h2
      refine ⟨_, rfl, p2, _, _, _, rfl, rfl, SqT.of h2, at_1, _, rfl, iteF' rfl ?_⟩
      refine ⟨_, rfl, p1, _, _, _, rfl, rfl, SqT.of h1, at_1, _, rfl, iteT' rfl ?_⟩
      refine ⟨_, rfl, p1, _, _, _, rfl, rfl, SqT.of h1, at_0, _, rfl, p2, _, _, _, rfl, rfl, SqT.of h2, at_0, x, y, d, d, rfl, v1, v2.vr, ho d rfl, ho d rfl, (ho d rfl).cst, fun H' s' => ?_⟩
      rw [okW_refl (ho d rfl)]
      exact q H' s'
    | error m =>
      have h1 : H p1 = some (.tup [.non, .str m]) := h1
      have h2 : H p2 = some (.tup [.non, .str m]) := h2
      refine ⟨_, rfl, p2, _, _, _, rfl, rfl, SqT.of h2, at_1, _, rfl, iteT' rfl ?_⟩
      refine ⟨_, rfl, p1, _, _, _, rfl, rfl, SqT.of h1, at_1, _, rfl, p2, _, _, _, rfl, rfl, SqT.of h2, at_1, rfl, ?_⟩
      have z := q H (Same.refl _)
      show Q (.bl (decide (V.str m = V.str m))) H
      simpa using z
theorem sc__law_field : FnScope ["value", "name"] ["value", "name"] (defScope s__law_field) := ⟨rfl, rfl, rfl, by decide +kernel, rfl, by decide +kernel, by decide +kernel⟩
theorem ok_lfield (T : Txt K w mg C) : Cal P w K mg base 2 "_law_field" spFieldL := by
  have G_law_kind := ok_kind (P := P) (base := base) T
  refine cal_of T.d__law_field sc__law_field (fun vs H Q E h => ?_) (fun f cdv A outer s H vs Q E hr h => ?_)
  · obtain ⟨v, d, x, rfl, _⟩ := h
    rfl
  · obtain ⟨v, d, x, rfl, hv, hok, x5, q⟩ := h
    have hu := hu_of hr
    have mk : ∀ (a b : V), ∀ t, H t = none → (∀ H', H' t = some (.tup [a, b]) → Same H H' → RTA H' (fieldV d x) t) → Q (.ref t) (upd H t (.tup [a, b])) := fun a b t ht k => q t _ (Sm.new ht) (k _ upd_same (Sm.new ht))
    refine ⟨_, (pss_cons (ps_if (pt_cmpR op_ne (pe_c G_law_kind hr (by decide) (by rfl) (pa_cons (pv 0) pa_nil)) pe_str (nomark _)) (pss_one (ps_ret (pe_tup (pa_cons pe_non (pa_cons pe_str pa_nil))))) pss_nil) (pss_cons (ps_if (pt_cmp (pc_dnotin hu (pv 1) (pv 0))) (pss_one (ps_ret (pe_tup (pa_cons pe_non (pa_cons (pe_op op_add_str pe_str (pv 1)) pa_nil))))) pss_nil) (pss_one (ps_ret (pe_tup (pa_cons (pe_dget hu (pv 0) (pv 1) (fun _ _ => rfl)) (pa_cons pe_non pa_nil))))))), ?_⟩
    refine ⟨_, rfl, v, d, rfl, hv.vr, rfl, _, rfl, ?_⟩
    cases d with
    | rc ks vs =>
      simp only [VH] at hv
      obtain ⟨a, kvs, rfl, h1, h2, h3, h4⟩ := hv
      refine iteF' rfl ⟨_, rfl, _, rfl, a, _, rfl, .inl ⟨kvs, .inr x, .inl h1, rfl, rfl⟩, _, rfl, ?_⟩
      cases l : lookV ks vs x with
      | some e =>
        obtain ⟨w, l2, l3⟩ := sm_mem h2 h4 h3 l
        refine iteF' (by rw [l2]; rfl) ⟨_, rfl, _, rfl, a, w, rfl, .inl ⟨kvs, .inr x, .inl h1, rfl, l2.symm⟩, by show 2 ≤ sizeLine; decide, fun t ht => mk _ _ t ht fun H' e1 s' => ?_⟩
        have : fieldV (.rc ks vs) x = .ok e := by simp only [fieldV, l]
        rw [this]
        exact ⟨w, e1, l3.same s'⟩
      | none =>
        have l2 := sm_none h2 h4 l h3
        have big : 1000 < sizeLine := by decide
        have e9 : ("no field " : Str).length = 9 := rfl
        refine iteT' (by rw [l2]; rfl) ⟨_, rfl, _, _, rfl, rfl, by omega, by show 2 ≤ sizeLine; decide, fun t ht => mk _ _ t ht fun H' e1 s' => ?_⟩
        have : fieldV (.rc ks vs) x = .error ("no field " ++ x) := by simp only [fieldV, l]
        rw [this]
        exact e1
    | _ => exact iteT' rfl ⟨by show 2 ≤ sizeLine; decide, fun t ht => mk _ _ t ht fun H' e1 s' => e1⟩
theorem sc__law_evaluated : FnScope ["expression", "environment", "owner", "e"] ["expression", "environment", "owner"] (defScope s__law_evaluated) := ⟨rfl, rfl, rfl, by decide +kernel, rfl, by decide +kernel, by decide +kernel⟩
theorem ok_lev (TE : TxtE P K w mg C) : Cal P w K mg base 16 "_law_evaluated" spEvL := by
  have T := TE.t
  have Xevaluate := ok_evaluate (w := w) (base := base) TE
  refine cal_of T.d__law_evaluated sc__law_evaluated (fun vs H Q E h => ?_) (fun f cdv A outer s H vs Q E hr h => ?_)
  · obtain ⟨e, t, env, z, kvs, v, u, d, d2, rfl, _⟩ := h
    rfl
  · obtain ⟨e, t, env, z, kvs, v, u, d, d2, rfl, hx, he, hp, hv, hok, hq, hl, q⟩ := h
    refine ⟨_, (pss_cons (ps_try_as (i := 3) rfl rfl sc__law_evaluated.nd rfl rfl ⟨rfl, by decide, .inl T.gm_ViewError⟩ takes0 (fun W pn xe tk _ => (pss_one (ps_ret (pe_tup (pa_cons (pe_cXS Xevaluate hr (by decide) (by rfl) (fun σ => passAt tk σ) (pa_cons (pv 0) (pa_cons (pv 1) (pa_cons (pv 2) pa_nil)))) (pa_cons pe_non pa_nil)))))) (fun a oe cls d pn hz hf => (pss_one (ps_if (PW.pt (pw_and (pt_val (pe_callB (call_isED TE.xi_Fault.ec hz hf) (by rfl) T.z_isinstance (by decide +kernel) (pa_cons (pv 3) (pa_cons (C8.pe_gc (by rfl) (show GV mg "Fault" (.ref C.Fault) from ⟨_, TE.xi_Fault.g, rfl⟩)) pa_nil)))) (pw_and1 (pt_val (pe_callB (call_isiS (K := K) rfl) (by rfl) T.z_isinstance (by decide +kernel) (pa_cons (pe_xf TE.xi_Fault.xf (TE.xi_Fault.na _ (by simp)) hz hf (pv 3)) (pa_cons (pe_bltn (v := .ty "str") (by rfl) T.z_str (by decide +kernel) rfl) pa_nil))))))) (pss_one (ps_ret (pe_tup (pa_cons pe_non (pa_cons (pe_xf TE.xi_Fault.xf (TE.xi_Fault.na _ (by simp)) hz hf (pv 3)) pa_nil))))) pss_nil)))) (pss_one (ps_ret (pe_tup (pa_cons pe_non (pa_cons pe_str pa_nil)))))), ?_⟩
    refine ⟨_, rfl, _, rfl, _, rfl, e, t, env, z, kvs, v, u, d, d2, (fun x q => nomatch q), rfl, hx, he, hp, hv, hok, hq, hl, ?_⟩
    cases eo : resV e d d2 with
    | ok r =>
      rw [eo] at q
      intro x H1 s1 hx1
      exact ⟨by show 2 ≤ sizeLine; decide, fun p hp => q p _ (Same.trans s1 (Sm.new hp)) ⟨x, upd_same, hx1.same (Sm.new hp)⟩⟩
    | error m =>
      rw [eo] at q
      intro dd H1 s1 hd
      refine ⟨true, T.m_Fault_ViewError, fun _ a' ha => ?_, fun q => nomatch q⟩
      refine ⟨_, rfl, rfl, dd, fsF m, .ref C.Fault, .ref C.Fault, true, rfl, hd, rfl, (fun u h => h), T.k_Fault_Fault, true, rfl, iteT' rfl ?_⟩
      refine ⟨_, rfl, rfl, rfl, dd, fsF m, _, rfl, hd, by rfl, .str m, .ty "str", _, _, true, rfl, .ty _, .base (.str m), kit_ty (by decide +kernel), true, rfl, iteT' rfl ?_⟩
      refine ⟨_, rfl, rfl, rfl, dd, fsF m, _, rfl, hd, by rfl, by show 2 ≤ sizeLine; decide, fun p hp => ?_⟩
      exact q p _ (Same.trans s1 (Sm.new hp)) upd_same
end
end VL

set_option Elab.async false
set_option linter.all false
set_option pp.maxSteps 500
set_option maxRecDepth 100000
set_option maxHeartbeats 4000000
namespace VL
open PySem PySem.Spec PyProof.Rows L2
section
variable {P : Program} {w : World} {K : PySem.W.Frag} {mg : Str → Option Value} {base : Heap} {C : Ad}
theorem sc__law_at : FnScope ["value", "place", "kinds"] ["value", "place"] (defScope s__law_at) := ⟨rfl, rfl, rfl, by decide +kernel, rfl, by decide +kernel, by decide +kernel⟩
theorem ok_lat (T : Txt K w mg C) : Cal P w K mg base 2 "_law_at" spAt := by
  have G_law_kind := ok_kind (P := P) (base := base) T
  refine cal_of T.d__law_at sc__law_at (fun vs H Q E h => ?_) (fun f cdv A outer s H vs Q E hr h => ?_)
  · obtain ⟨v, u, d, e, rfl, _⟩ := h
    rfl
  · obtain ⟨v, u, d, e, rfl, hv, hw, od, oe, q⟩ := h
    have hu := hu_of hr
    refine ⟨_, (pss_cons (ps_set (i := 2) sc__law_at.nd rfl (Or.inl rfl) (pe_lst (pa_cons (pe_c G_law_kind hr (by decide) (by rfl) (pa_cons (pv 0) pa_nil)) (pa_cons (pe_c G_law_kind hr (by decide) (by rfl) (pa_cons (pv 1) pa_nil)) pa_nil)))) (pss_cons (ps_if (pt_cmpR (op_eqP rfl hr.units) (pv 2) (pe_lst (pa_cons pe_str (pa_cons pe_str pa_nil))) (nomark _)) (pss_cons (ps_if (pt_cmp (pc_din hu (pv 1) (pv 0))) (pss_one (ps_ret (pe_tup (pa_cons (pe_two (pe_ix ix_list (pv 0) (pv 1) (fun _ _ => rfl)) (pe_two (pe_ix ix_str (pv 0) (pv 1) (fun _ _ => rfl)) (pe_dget hu (pv 0) (pv 1) (fun _ _ => rfl)))) (pa_cons pe_non pa_nil))))) pss_nil) (pss_one (ps_ret (pe_tup (pa_cons pe_non (pa_cons pe_str pa_nil)))))) pss_nil) (pss_cons (ps_if (PW.pt (pw_or (pt_cmpR (op_eqP rfl hr.units) (pv 2) (pe_lst (pa_cons pe_str (pa_cons pe_str pa_nil))) (nomark _)) (pw_or1 (pt_cmpR (op_eqP rfl hr.units) (pv 2) (pe_lst (pa_cons pe_str (pa_cons pe_str pa_nil))) (nomark _))))) (pss_cons (ps_if (pt_chain op_le op_lt pe_int (pv 1) (pe_two (pe_callB call_len_seq (by rfl) T.z_len PySem.boot_len (pa_cons (pv 0) pa_nil)) (pe_callB call_len_str (by rfl) T.z_len PySem.boot_len (pa_cons (pv 0) pa_nil)))) (pss_one (ps_ret (pe_tup (pa_cons (pe_two (pe_ix ix_list (pv 0) (pv 1) (fun _ _ => rfl)) (pe_two (pe_ix ix_str (pv 0) (pv 1) (fun _ _ => rfl)) (pe_dget hu (pv 0) (pv 1) (fun _ _ => rfl)))) (pa_cons pe_non pa_nil))))) pss_nil) (pss_one (ps_ret (pe_tup (pa_cons pe_non (pa_cons pe_str pa_nil)))))) pss_nil) (pss_one (ps_ret (pe_tup (pa_cons pe_non (pa_cons pe_str pa_nil)))))))), ?_⟩
    refine ⟨_, rfl, v, d, rfl, hv.vr, _, rfl, u, e, rfl, hw.vr, by show 2 ≤ sizeLine; decide, fun l hl => ?_⟩
    have s1 := Sm.new (o := .lst [.str (kindN d), .str (kindN e)]) hl
    have hl1 : upd H l (.lst [.str (kindN d), .str (kindN e)]) l = some (.lst [.str (kindN d), .str (kindN e)]) := upd_same
    generalize upd H l (.lst [.str (kindN d), .str (kindN e)]) = H1 at s1 hl1 ⊢
    refine ⟨_, rfl, by show 2 ≤ sizeLine; decide, fun l2 hl2 => ?_⟩
    have s2 := Sm.new (o := .lst [.str "record", .str "text"]) hl2
    refine ⟨_, _, dp_strs2 (s2 _ _ hl1), dp_strs2 upd_same, plain_strs _, plain_strs _, by rw [depth_strs]; decide, ?_⟩
    rw [eqv_strs, k_rt]
    have hl2' := s2 _ _ hl1
    have s12 := Same.trans s1 s2
    generalize upd H1 l2 (.lst [.str "record", .str "text"]) = H2 at s12 hl2' ⊢
    have mk : ∀ (H9 : Hp), Same H H9 → ∀ (a b : V), ∀ t, H9 t = none → (∀ H', H' t = some (.tup [a, b]) → Same H H' → RTA H' (atV d e) t) → Q (.ref t) (upd H9 t (.tup [a, b])) := fun H9 s9 a b t ht k => q t _ (Same.trans s9 (Sm.new ht)) (k _ upd_same (Same.trans s9 (Sm.new ht)))
    cases h1 : (isD d && isS e) with
    | true =>
      obtain ⟨i1, i2⟩ := Bool.and_eq_true_iff.mp h1
      refine ⟨_, rfl, iteT' rfl ?_⟩
      cases d with
      | rc ks vs =>
        cases e with
        | txt x =>
          simp only [VH] at hv hw
          subst hw
          obtain ⟨a, kvs, rfl, g1, g2, g3, g4⟩ := hv
          have ga := s12 _ _ g1
          refine ⟨_, rfl, _, rfl, a, _, rfl, .inl ⟨kvs, .inr x, .inl ga, rfl, rfl⟩, _, rfl, ?_⟩
          cases lk : lookV ks vs x with
          | some e =>
            obtain ⟨w, l2, l3⟩ := sm_mem g2 g4 g3 lk
            refine iteT' (by rw [l2]; rfl) (.inr (.inr ⟨_, rfl, _, rfl, a, w, rfl, .inl ⟨kvs, .inr x, .inl ga, rfl, l2.symm⟩, by show 2 ≤ sizeLine; decide, fun t ht => mk _ s12 _ _ t ht fun H' e1 s' => ?_⟩))
            have : atV (.rc ks vs) (.txt x) = .ok e := by simp only [atV, lk]
            rw [this]
            exact ⟨w, e1, l3.same s'⟩
          | none =>
            have l2 := sm_none g2 g4 lk g3
            refine iteF' (by rw [l2]; rfl) ⟨by show 2 ≤ sizeLine; decide, fun t ht => mk _ s12 _ _ t ht fun H' e1 s' => ?_⟩
            have : atV (.rc ks vs) (.txt x) = .error "nothing there" := by simp only [atV, lk]
            rw [this]
            exact e1
        | _ => exact nomatch i2
      | _ => exact nomatch i1
    | false =>
      refine ⟨_, rfl, iteF' rfl ?_⟩
      refine ⟨_, rfl, by show 2 ≤ sizeLine; decide, fun l3 hl3 => ?_⟩
      have s3 := Sm.new (o := .lst [.str "list", .str "number"]) hl3
      refine ⟨_, _, dp_strs2 (s3 _ _ hl2'), dp_strs2 upd_same, plain_strs _, plain_strs _, by rw [depth_strs]; decide, ?_⟩
      rw [eqv_strs, k_ln]
      have hl3' := s3 _ _ hl2'
      have s13 := Same.trans s12 s3
      generalize upd H2 l3 (.lst [.str "list", .str "number"]) = H3 at s13 hl3' ⊢
      cases h2 : (isL d && isNm e) with
      | true =>
        obtain ⟨i1, i2⟩ := Bool.and_eq_true_iff.mp h2
        refine ⟨_, rfl, iteT' rfl ?_⟩
        cases d with
        | lst vs =>
          cases e with
          | num i =>
            simp only [VH] at hv hw
            subst hw
            obtain ⟨a, xs, rfl, g1, g2⟩ := hv
            have ga := s13 _ _ g1
            have xl := g2.len
            refine ⟨_, rfl, _, _, rfl, rfl, _, rfl, ite2 (fun c => .inl ⟨_, rfl, a, _, rfl, .inl (SqL.of ga), _, _, rfl, rfl, _, rfl, ?_⟩) (fun c => ⟨_, rfl, iteF' rfl ?_⟩)⟩
            · have c0 : 0 ≤ i := of_decide_eq_true c
              by_cases c2 : i < (xs.length : Int)
              · refine iteT' (decide_eq_true c2) ?_
                have hi : i.toNat < vs.length := by omega
                have he := List.getElem?_eq_getElem hi
                obtain ⟨x, hx, vx⟩ := g2.get' he
                refine .inl ⟨_, rfl, _, rfl, a, _, _, _, rfl, rfl, SqL.of ga, atI_nat c0 (by omega) hx, by show 2 ≤ sizeLine; decide, fun t ht => mk _ s13 _ _ t ht fun H' e1 s' => ?_⟩
                have : atV (.lst vs) (.num i) = .ok vs[i.toNat] := by
                  simp only [atV, he]
                  rw [if_pos c0]
                rw [this]
                exact ⟨x, e1, vx.same s'⟩
              · refine iteF' (decide_eq_false c2) ?_
                refine ⟨by show 2 ≤ sizeLine; decide, fun t ht => mk _ s13 _ _ t ht fun H' e1 s' => ?_⟩
                have : atV (.lst vs) (.num i) = .error "nothing there" := at_false od (by simp only [hpV]; simp; omega)
                rw [this]
                exact e1
            · have c0 : ¬ 0 ≤ i := fun z => c (decide_eq_true z)
              refine ⟨by show 2 ≤ sizeLine; decide, fun t ht => mk _ s13 _ _ t ht fun H' e1 s' => ?_⟩
              have : atV (.lst vs) (.num i) = .error "nothing there" := at_false od (by simp only [hpV]; simp; omega)
              rw [this]
              exact e1
          | _ => exact nomatch i2
        | _ => exact nomatch i1
      | false =>
        refine ⟨_, rfl, iteF' rfl ?_⟩
        refine ⟨_, rfl, by show 2 ≤ sizeLine; decide, fun l4 hl4 => ?_⟩
        have s4 := Sm.new (o := .lst [.str "text", .str "number"]) hl4
        refine ⟨_, _, dp_strs2 (s4 _ _ hl3'), dp_strs2 upd_same, plain_strs _, plain_strs _, by rw [depth_strs]; decide, ?_⟩
        rw [eqv_strs, k_tn]
        have s14 := Same.trans s13 s4
        generalize upd H3 l4 (.lst [.str "text", .str "number"]) = H4 at s14 ⊢
        cases h3 : (isS d && isNm e) with
        | true =>
          obtain ⟨i1, i2⟩ := Bool.and_eq_true_iff.mp h3
          refine ⟨_, rfl, iteT' rfl ?_⟩
          cases d with
          | txt x =>
            cases e with
            | num i =>
              simp only [VH] at hv hw
              subst hv hw
              have x5 : x.length ≤ 5 := by
                simp only [okV] at od
                exact od.2
              have e1 : x.length = x.cps.toList.length := by simp [Str.length]
              refine ⟨_, rfl, _, _, rfl, rfl, _, rfl, ite2 (fun c => .inr ⟨_, rfl, x, rfl, Nat.le_trans x5 (by decide), _, _, rfl, rfl, _, rfl, ?_⟩) (fun c => ⟨_, rfl, iteF' rfl ?_⟩)⟩
              · have c0 : 0 ≤ i := of_decide_eq_true c
                by_cases c2 : i < (x.length : Int)
                · refine iteT' (decide_eq_true c2) ?_
                  have hi : i.toNat < x.cps.toList.length := by omega
                  have he := List.getElem?_eq_getElem hi
                  refine .inr (.inl ⟨_, rfl, _, rfl, x, i, _, rfl, rfl, Nat.le_trans x5 (by decide), atI_natN c0 (by omega) he, by show 2 ≤ sizeLine; decide, fun t ht => mk _ s14 _ _ t ht fun H' e1 s' => ?_⟩)
                  have : atV (.txt x) (.num i) = .ok (.txt (TX [x.cps.toList[i.toNat]])) := by
                    simp only [atV, he]
                    rw [if_pos c0]
                  rw [this]
                  exact ⟨_, e1, by simp only [VH]⟩
                · refine iteF' (decide_eq_false c2) ?_
                  refine ⟨by show 2 ≤ sizeLine; decide, fun t ht => mk _ s14 _ _ t ht fun H' e1 s' => ?_⟩
                  have : atV (.txt x) (.num i) = .error "nothing there" := at_false od (by simp only [hpV]; simp; omega)
                  rw [this]
                  exact e1
              · have c0 : ¬ 0 ≤ i := fun z => c (decide_eq_true z)
                refine ⟨by show 2 ≤ sizeLine; decide, fun t ht => mk _ s14 _ _ t ht fun H' e1 s' => ?_⟩
                have : atV (.txt x) (.num i) = .error "nothing there" := at_false od (by simp only [hpV]; simp; omega)
                rw [this]
                exact e1
            | _ => exact nomatch i2
          | _ => exact nomatch i1
        | false =>
          refine ⟨_, rfl, iteF' rfl ⟨by show 2 ≤ sizeLine; decide, fun t ht => mk _ s14 _ _ t ht fun H' e1 s' => ?_⟩⟩
          have : atV d e = .error "not a place" := by
            cases d <;> cases e <;> first | rfl | (simp [isD, isS] at h1; done) | (simp [isL, isNm] at h2; done) | (simp [isS, isNm] at h3; done)
          rw [this]
          exact e1
end
end VL

set_option Elab.async false
set_option linter.all false
set_option pp.maxSteps 700
set_option maxRecDepth 100000
set_option maxHeartbeats 4000000
namespace VL
open PySem PySem.Spec PyProof.Rows L2
def spLaw (K : PySem.W.Frag) : Sp := fun vs H Q _ => ∃ (a : Addr) (ns : List Int), vs = [.ref a] ∧ SqL K H a (ns.map V.int) ∧ ns.length ≤ 63 ∧ ∀ H', Q (.bl true) H'
theorem sqlS {K : PySem.W.Frag} {H H' : Hp} {a : Addr} {xs : List V} (h : SqL K H a xs) (s : Same H H') : SqL K H' a xs := by
  rcases h with (h | ⟨o, h⟩) | h
  · exact .inl (.inl (s _ _ h))
  · exact .inl (.inr ⟨o, s _ _ h⟩)
  · exact .inr h
theorem pick {H : Hp} {ds : List Val} {xs : List V} {n : Nat} {k : Int} (h : VHs H ds xs) (o : okVs ds n) (h0 : 0 ≤ k) (h1 : k < (xs.length : Int)) : ∃ x d, atI xs k = some x ∧ VH H d x ∧ okV d n := by
  obtain ⟨x, hx, hm⟩ := atI_mem h0 h1
  obtain ⟨j, hj⟩ := List.getElem?_of_mem hm
  obtain ⟨d, hd, hv⟩ := h.get hj
  exact ⟨x, d, hx, hv, okVs_get o hd⟩
section
variable {P : Program} {w : World} {K : PySem.W.Frag} {mg : Str → Option Value} {base : Heap} {C : Ad}
theorem sc_law : FnScope ["script", "k", "state", "value", "place", "told", "name", "j"] ["script"] (defScope s_law) := ⟨rfl, rfl, rfl, by decide +kernel, rfl, by decide +kernel, by decide +kernel⟩
theorem ok_law {f : Addr} {fd : FuncData} (F : Fun K "law" "law" s_law f fd) (TE : TxtE P K w mg C) : FnOk P w K mg base CX0 60 f fd ["script"] (spLaw K) := by
  have T := TE.t
  have G_law_cell := ok_cell (P := P) (base := base) T
  have G_law_start := ok_start (P := P) (base := base) T
  have G_law_digit := ok_dig (P := P) (base := base) T
  have G_law_text := ok_ltext (P := P) (base := base) T
  have G_law_value2 := val_N (P := P) (base := base) T 2
  have G_law_value1 := val_N (P := P) (base := base) T 1
  have G_law_evaluated := ok_lev (w := w) (base := base) TE
  have G_law_right := ok_lright (P := P) (base := base) T
  have G_law_at := ok_lat (P := P) (base := base) T
  have G_law_field := ok_lfield (P := P) (base := base) T
  have G_law_same := ls_N (P := P) (base := base) T 10
  refine F.ok sc_law (fun vs H Q E h => ?_) (fun cdv A outer s H vs Q E hr h => ?_)
  · obtain ⟨a, ns, rfl, _⟩ := h
    rfl
  · obtain ⟨sa, ns, rfl, hS, hlen, kq⟩ := h
    have big : 10000000 < sizeLine := by decide
    refine ⟨_, (pss_cons (ps_for PassesOwn.never rfl (pi_range1 (by rfl) T.z_range (pa_cons (pe_callB (call_min2 rfl) (by rfl) T.z_min (by decide +kernel) (pa_cons pe_int (pa_cons (pe_callB (call_max2 rfl) (by rfl) T.z_max (by decide +kernel) (pa_cons pe_int (pa_cons (pe_callB call_len_seq (by rfl) T.z_len PySem.boot_len (pa_cons (pv 0) pa_nil)) pa_nil))) pa_nil))) pa_nil)) (pg_name (i := 1) sc_law.nd rfl (Or.inl rfl)) (pss_cons (ps_set (i := 2) sc_law.nd rfl (Or.inr rfl) (pe_c G_law_start hr (by decide) (by rfl) (pa_cons (pe_c G_law_cell hr (by decide) (by rfl) (pa_cons (pv 0) (pa_cons (pv 1) pa_nil))) (pa_cons (pv 1) pa_nil)))) (pss_cons (ps_set (i := 3) sc_law.nd rfl (Or.inl rfl) (pe_c G_law_value2 hr (by decide) (by rfl) (pa_cons (pv 2) (pa_cons pe_int pa_nil)))) (pss_cons (ps_set (i := 4) sc_law.nd rfl (Or.inl rfl) (pe_c G_law_value1 hr (by decide) (by rfl) (pa_cons (pv 2) (pa_cons pe_int pa_nil)))) (C8.pss_cut (ps_if (pt_cmpR op_gt (pe_c G_law_digit hr (by decide) (by rfl) (pa_cons (pv 2) (pa_cons pe_int pa_nil))) pe_int (nomark _)) (pss_cons (ps_set (i := 3) sc_law.nd rfl (Or.inl rfl) (pe_lst (pa_cons (pe_c G_law_text hr (by decide) (by rfl) (pa_cons (pv 2) pa_nil)) (pa_cons (pe_lc (own := [("j", 7)]) (g := gName 7) (tt := tYes) rfl sc_law.nd (pi_range1 (by rfl) T.z_range (pa_cons pe_int pa_nil)) (blkOk_by (N := ["script", "k", "state", "value", "place", "told", "name", "j"]) (sc := (defScope s_law)) (by decide +kernel)) (fun _ _ _ _ _ => pg_name (i := 7) sc_law.nd rfl (Or.inl rfl)) (fun _ _ _ _ _ => pts_nil) (fun _ _ _ _ _ => (pe_c G_law_value1 hr (by decide) (by rfl) (pa_cons (pv 2) (pa_cons pe_int pa_nil))))) (pa_cons (pe_disp (pps_cons pe_str pe_int (pps_cons pe_str (pe_lst (pa_cons pe_int pa_nil)) (pps_cons pe_str pe_non pps_nil))) (by rfl) (by rfl) (fun z => by cases z) (by decide)) pa_nil))))) (pss_one (ps_set (i := 3) sc_law.nd rfl (Or.inl rfl) (pe_ix ix_seq (pv 3) (pe_c G_law_digit hr (by decide) (by rfl) (pa_cons (pv 2) (pa_cons pe_int pa_nil))) (fun _ _ => rfl))))) pss_nil) (C8.pss_cut (ps_if (pt_cmpR op_gt (pe_c G_law_digit hr (by decide) (by rfl) (pa_cons (pv 2) (pa_cons pe_int pa_nil))) pe_int (nomark _)) (pss_cons (ps_set (i := 4) sc_law.nd rfl (Or.inl rfl) (pe_lst (pa_cons (pe_op op_sub (pe_c G_law_digit hr (by decide) (by rfl) (pa_cons (pv 2) (pa_cons pe_int pa_nil))) pe_int) (pa_cons (pe_ix ix_tup (pe_tup (pa_cons pe_str (pa_cons pe_str (pa_cons pe_str (pa_cons pe_str pa_nil))))) (pe_c G_law_digit hr (by decide) (by rfl) (pa_cons (pv 2) (pa_cons pe_int pa_nil))) (fun _ _ => rfl)) (pa_cons (pe_cmpR op_eq (pe_c G_law_digit hr (by decide) (by rfl) (pa_cons (pv 2) (pa_cons pe_int pa_nil))) pe_int (nomark _)) pa_nil))))) (pss_one (ps_set (i := 4) sc_law.nd rfl (Or.inl rfl) (pe_ix ix_seq (pv 4) (pe_c G_law_digit hr (by decide) (by rfl) (pa_cons (pv 2) (pa_cons pe_int pa_nil))) (fun _ _ => rfl))))) pss_nil) (pss_cons (ps_set (i := 5) sc_law.nd rfl (Or.inl rfl) (pe_c G_law_evaluated hr (by decide) (by rfl) (pa_cons (pe_tup (pa_cons pe_str (pa_cons (pe_tup (pa_cons pe_str (pa_cons pe_str pa_nil))) (pa_cons (pe_tup (pa_cons pe_str (pa_cons pe_str pa_nil))) pa_nil)))) (pa_cons (pe_disp (pps_cons pe_str (pv 3) (pps_cons pe_str (pv 4) pps_nil)) (by rfl) (by rfl) (fun z => by cases z) (by decide)) (pa_cons pe_int pa_nil))))) (pss_cons (ps_if (pt_not (pt_val (pe_c G_law_right hr (by decide) (by rfl) (pa_cons (pv 5) (pa_cons (pe_c G_law_at hr (by decide) (by rfl) (pa_cons (pv 3) (pa_cons (pv 4) pa_nil))) pa_nil))))) (pss_one (ps_ret pe_bl)) pss_nil) (pss_cons (ps_set (i := 6) sc_law.nd rfl (Or.inl rfl) (pe_ix ix_tup (pe_tup (pa_cons pe_str (pa_cons pe_str (pa_cons pe_str pa_nil)))) (pe_c G_law_digit hr (by decide) (by rfl) (pa_cons (pv 2) (pa_cons pe_int pa_nil))) (fun _ _ => rfl))) (pss_cons (ps_set (i := 5) sc_law.nd rfl (Or.inl rfl) (pe_c G_law_evaluated hr (by decide) (by rfl) (pa_cons (pe_tup (pa_cons pe_str (pa_cons (pe_tup (pa_cons pe_str (pa_cons pe_str pa_nil))) (pa_cons (pv 6) pa_nil)))) (pa_cons (pe_disp (pps_cons pe_str (pv 3) pps_nil) (by rfl) (by rfl) (fun z => by cases z) (by decide)) (pa_cons pe_int pa_nil))))) (pss_cons (ps_if (pt_not (pt_val (pe_c G_law_right hr (by decide) (by rfl) (pa_cons (pv 5) (pa_cons (pe_c G_law_field hr (by decide) (by rfl) (pa_cons (pv 3) (pa_cons (pv 6) pa_nil))) pa_nil))))) (pss_one (ps_ret pe_bl)) pss_nil) (pss_cons (ps_set (i := 5) sc_law.nd rfl (Or.inl rfl) (pe_c G_law_evaluated hr (by decide) (by rfl) (pa_cons (pe_tup (pa_cons pe_str (pa_cons (pe_tup (pa_cons pe_str (pa_cons pe_str pa_nil))) pa_nil))) (pa_cons (pe_disp (pps_cons pe_str (pv 3) pps_nil) (by rfl) (by rfl) (fun z => by cases z) (by decide)) (pa_cons pe_int pa_nil))))) (pss_one (ps_if (pt_val (pe_callB call_isi (by rfl) T.z_isinstance (by decide +kernel) (pa_cons (pv 3) (pa_cons (pe_bltn (v := .ty "bool") (by rfl) T.z_bool (by decide +kernel) rfl) pa_nil)))) (pss_one (ps_if (PW.pt (pw_or (pt_cmp (pc_notN (pe_ix ix_tup (pv 5) pe_int (fun _ _ => rfl)))) (pw_or1 (pt_not (pt_val (pe_c G_law_same hr (by decide) (by rfl) (pa_cons (pe_ix ix_tup (pv 5) pe_int (fun _ _ => rfl)) (pa_cons (pe_not (pv 3)) pa_nil)))))))) (pss_one (ps_ret pe_bl)) pss_nil)) (pss_one (ps_if (pt_cmpR op_ne (pe_ix ix_tup (pv 5) pe_int (fun _ _ => rfl)) pe_str (nomark _)) (pss_one (ps_ret pe_bl)) pss_nil)))))))))))))))) (pss_one (ps_ret pe_bl))), ?_⟩
    refine ⟨_, rfl, sa, _, rfl, .inl hS, _, _, rfl, _, _, rfl, ?_⟩
    have hl2 : (ns.map V.int).length = ns.length := List.length_map _
    refine ⟨_, rfl, ?_, ?_, ?_⟩
    · show -2 ^ 62 ≤ (if _ < _ then _ else _ : Int)
      repeat' split
      all_goals omega
    · show (if _ < _ then _ else _ : Int) < 2 ^ 62
      repeat' split
      all_goals omega
    refine for_range (lo := 0) (n := _) (fun i σ H' => ∃ y1 y2 y3 y4 y5 y6 y7 : Option V, Same H H' ∧ σ = [some (.ref sa), y1, y2, y3, y4, y5, y6, y7]) ⟨_, _, _, _, _, _, _, Same.refl _, rfl⟩ ?_ ?_
    · rintro ii σ Ha hi ⟨y1, y2, y3, y4, y5, y6, y7, sH, rfl⟩
      have hSa := sqlS hS sH
      refine ⟨_, rfl, _, rfl, sa, ns, ii, by rw [Int.zero_add]; rfl, hSa, fun c => ⟨_, rfl, c, _, rfl, fun sp s hsp => ?_⟩⟩
      have S1 : Sb Ha (upd Ha sp (.lst [.int s])) [(sp, .lst [.int s])] := Sb.nil.add hsp
      refine ⟨_, rfl, sp, s, Ha, [], rfl, S1, fun v d s2 G2 H2 S2 g2 hv hok => ?_⟩
      refine ⟨_, rfl, sp, s2, G2, [], rfl, S2, fun u e s3 G3 H3 S3 g3 hw hok2 => ?_⟩
      have s03 : Same H G3 := Same.trans sH (Same.trans g2 g3)
      refine ⟨fun σ' H' => ∃ (v : V) (d : Val) (s : Int) (G : Hp) (y8 : Option V), Sb G H' [(sp, .lst [.int s])] ∧ Same G3 G ∧ VH G d v ∧ okV d 5 ∧ σ' = [some (.ref sa), some (.int (0 + (ii : Int))), some (.ref sp), some v, some u, y5, y6, y8], ?_, ?_⟩
      · refine ⟨_, rfl, sp, s3, 4, rfl, S3.hd, by decide, by decide, fun z s4 z0 z1 => ?_⟩
        have S4 := S3.put (u := .lst [.int s4])
        refine ⟨_, _, rfl, rfl, _, rfl, ite2 (fun c => ?_) (fun c => ?_)⟩
        · refine ⟨_, rfl, sp, s4, G3, [], rfl, S4, fun x s5 G5 H5 S5 g5 hx => ?_⟩
          refine ⟨_, rfl, by decide, by decide, fun D hD => ?_⟩
          have S6 := S5.add (o := .lst []) hD
          refine lc_it (walk_range (lo := 0) (n := 4)) (fun i H' => ∃ (s' : Int) (ys : List V) (es : List Val) (G : Hp), Sb G H' ((D, .lst ys) :: (sp, .lst [.int s']) :: []) ∧ Same G5 G ∧ VHs G es ys ∧ okVs es 1 ∧ es.length = i) ⟨s5, [], [], G5, S6, Same.refl _, .nil, by simp only [okVs], rfl⟩ (fun _ _ _ _ => trivial) ?_ ?_
          · rintro i x' H7 H8 hi ⟨s', ys, es, G, S7, g7, hvs, hoks, hl⟩ ⟨rfl, rfl⟩
            have yl := hvs.len
            refine ⟨rfl, _, rfl, sp, s', G, (D, .lst ys) :: [], rfl, S7.swap, fun v' d' s8 G8 H8 S8 g8 hv8 hd8 => ⟨ys, S8.hd2, by omega, s8, ys ++ [v'], es ++ [d'], G8, S8.put2.swap, Same.trans g7 g8, (hvs.same g8).snoc hv8, okVs_app.mpr ⟨hoks, by simp only [okVs]; exact ⟨hd8, trivial⟩⟩, by rw [List.length_append, hl]; rfl⟩⟩
          · rintro H7 ⟨s', ys, es, G, S7, g7, hvs, hoks, hl⟩
            obtain ⟨S8, g8⟩ := S7.drop
            have hDG := upd_same (H := G) (a := D) (o := HO.lst ys)
            have hvs8 := hvs.same g8
            have g58 := Same.trans g7 g8
            generalize upd G D (.lst ys) = G8 at S8 g8 hDG hvs8 g58
            refine fun dd hdd => ⟨by show 1 ≤ sizeLine; decide, fun l2 hl2 => ?_⟩
            have S9 := S8.add (o := .dK []) hdd
            have S10 := S9.alloc (o := .lst [.int 2]) hl2
            have g10 := S9.grow (o := .lst [.int 2]) hl2
            refine ⟨S10.hd, [(.inr "x", .int 1), (.inr "", .ref l2), (.inr "zz", .non)], rfl, by show 3 ≤ 15; decide, ?_⟩
            have S11 := S10.put (u := .dK [(.inr "x", .int 1), (.inr "", .ref l2), (.inr "zz", .non)])
            have e2 : mergeK [] [(.inr "x", .int 1), (.inr "", .ref l2), (.inr "zz", .non)] = ([(.inr "x", .int 1), (.inr "", .ref l2), (.inr "zz", .non)] : List (Key × V)) := rfl
            rw [e2]
            obtain ⟨S12, g12⟩ := S11.drop
            have hdd12 := upd_same (H := upd G8 l2 (.lst [.int 2])) (a := dd) (o := HO.dK [(.inr "x", .int 1), (.inr "", .ref l2), (.inr "zz", .non)])
            have hl12 := g12 _ _ (upd_same (H := G8) (a := l2) (o := HO.lst [.int 2]))
            generalize upd (upd G8 l2 (.lst [.int 2])) dd (.dK [(.inr "x", .int 1), (.inr "", .ref l2), (.inr "zz", .non)]) = G12 at S12 g12 hdd12 hl12
            refine ⟨by show 3 ≤ sizeLine; decide, fun L hL => ?_⟩
            have S13 := S12.alloc (o := .lst [.str x, .ref D, .ref dd]) hL
            have g13 := S12.grow (o := .lst [.str x, .ref D, .ref dd]) hL
            refine ⟨_, rfl, _, rfl, sp, s', 3, rfl, S13.hd, by decide, by decide, fun z s9 z0 z1 => ?_⟩
            have S14 := S13.put (u := .lst [.int s9])
            have all : VHs (upd G12 L (.lst [.str x, .ref D, .ref dd])) [.txt x, .lst es, .rc ["x", "", "zz"] [.num 1, .lst [.num 2], .nul]] [.str x, .ref D, .ref dd] := by
              refine .cons (by simp only [VH]) (.cons ?_ (.cons ?_ .nil))
              · simp only [VH]
                exact ⟨D, ys, rfl, g13 _ _ (g12 _ _ (g10 _ _ hDG)), hvs8.same (Same.trans g10 (Same.trans g12 g13))⟩
              · simp only [VH]
                refine ⟨dd, _, rfl, g13 _ _ hdd12, rfl, by decide, .cons (by simp only [VH]) (.cons ?_ (.cons (by simp only [VH]) .nil))⟩
                simp only [VH]
                exact ⟨l2, [.int 2], rfl, g13 _ _ hl12, .cons (by simp only [VH]) .nil⟩
            have oks : okVs [.txt x, .lst es, .rc ["x", "", "zz"] [.num 1, .lst [.num 2], .nul]] 5 := by
              have n1 : ∀ n, okV (.num 1) n := fun n => ok_num (by decide) (by decide)
              have n2 : ∀ n, okV (.num 2) n := fun n => ok_num (by decide) (by decide)
              simp only [okVs]
              refine ⟨okV_mono _ (Nat.zero_le _) hx, ?_, ?_, trivial⟩
              · simp only [okV]
                exact ⟨4, rfl, by omega, okVs_mono es (by decide) hoks⟩
              · simp only [okV]
                refine ⟨4, rfl, by decide, rfl, by decide, fun k hk => wordS k ?_, ?_⟩
                · simp only [List.mem_cons, List.not_mem_nil, or_false] at hk ⊢
                  rcases hk with rfl | rfl | rfl <;> simp
                · simp only [okVs]
                  refine ⟨n1 _, ?_, by simp only [okV], trivial⟩
                  simp only [okV]
                  exact ⟨3, rfl, by decide, by simp only [okVs]; exact ⟨n2 _, trivial⟩⟩
            obtain ⟨c, dc, hc, vc, oc⟩ := pick all oks z0 z1
            refine .inl ⟨L, _, _, c, rfl, rfl, SqL.of (S14.s _ _ upd_same), hc, ?_⟩
            exact ⟨c, dc, s9, _, _, S14, Same.trans g5 (Same.trans g58 (Same.trans g10 (Same.trans g12 g13))), vc, oc, rfl⟩
        · exact ⟨v, d, s4, G3, y7, S4, Same.refl _, hv.same g3, okV_mono d (by decide) hok, rfl⟩
      rintro σ' Hb ⟨v1, d1, s1, G4, y8, S4, g4, hv1, hok1, rfl⟩
      have hw4 := hw.same g4
      have s04 := Same.trans s03 g4
      clear hv hok S3 hw S1 S2
      refine ⟨fun σ' H' => ∃ (u : V) (e : Val) (s : Int) (G : Hp), Sb G H' [(sp, .lst [.int s])] ∧ Same G4 G ∧ VH G e u ∧ okV e 5 ∧ σ' = [some (.ref sa), some (.int (0 + (ii : Int))), some (.ref sp), some v1, some u, y5, y6, y8], ?_, ?_⟩
      · refine ⟨_, rfl, sp, s1, 4, rfl, S4.hd, by decide, by decide, fun z s4 z0 z1 => ?_⟩
        have S5 := S4.put (u := .lst [.int s4])
        refine ⟨_, _, rfl, rfl, _, rfl, ite2 (fun c => ?_) (fun c => ?_)⟩
        · refine ⟨_, rfl, sp, s4, 6, rfl, S5.hd, by decide, by decide, fun a1 s5 a10 a11 => ⟨_, _, rfl, rfl, ?_⟩⟩
          have S6 := S5.put (u := .lst [.int s5])
          refine ⟨by show 4 ≤ sizeLine; decide, fun t ht => ?_⟩
          have S7 := S6.alloc (o := .tup [V.str "x", .str "", .str "zz", .str "y"]) ht
          have g7 := S6.grow (o := .tup [V.str "x", .str "", .str "zz", .str "y"]) ht
          refine ⟨_, rfl, sp, s5, 4, rfl, S7.hd, by decide, by decide, fun a2 s6 a20 a21 => ?_⟩
          have S8 := S7.put (u := .lst [.int s6])
          have ht2 := S8.s t _ (upd_same (o := HO.tup [V.str "x", .str "", .str "zz", .str "y"]))
          obtain ⟨c, hc, hm⟩ := atI_mem (xs := [V.str "x", .str "", .str "zz", .str "y"]) a20 a21
          obtain ⟨x, rfl, hx⟩ : ∃ x, c = V.str x ∧ x ∈ (["x", "y", "zz", ""] : List Str) := by
            simp only [List.mem_cons, List.not_mem_nil, or_false] at hm
            rcases hm with rfl | rfl | rfl | rfl <;> exact ⟨_, rfl, by decide⟩
          refine ⟨t, _, _, _, rfl, rfl, SqT.of ht2, hc, ?_⟩
          refine ⟨_, rfl, sp, s6, 2, rfl, S8.hd, by decide, by decide, fun a3 s7 a30 a31 => ⟨rfl, ?_⟩⟩
          have S9 := S8.put (u := .lst [.int s7])
          refine ⟨by show 3 ≤ sizeLine; decide, fun L hL => ?_⟩
          have S10 := S9.alloc (o := .lst [.int (a1 - 1), .str x, .bl (decide (V.int a3 = V.int 1))]) hL
          have g10 := S9.grow (o := .lst [.int (a1 - 1), .str x, .bl (decide (V.int a3 = V.int 1))]) hL
          refine ⟨_, rfl, _, rfl, sp, s7, 3, rfl, S10.hd, by decide, by decide, fun z s9 z0 z1 => ?_⟩
          have S11 := S10.put (u := .lst [.int s9])
          have all : VHs (upd (upd G4 t (.tup [V.str "x", .str "", .str "zz", .str "y"])) L (.lst [.int (a1 - 1), .str x, .bl (decide (V.int a3 = V.int 1))])) [.num (a1 - 1), .txt x, .bl (decide (V.int a3 = V.int 1))] [.int (a1 - 1), .str x, .bl (decide (V.int a3 = V.int 1))] := .cons (by simp only [VH]) (.cons (by simp only [VH]) (.cons (by simp only [VH]) .nil))
          have oks : okVs [.num (a1 - 1), .txt x, .bl (decide (V.int a3 = V.int 1))] 5 := by
            simp only [okVs]
            refine ⟨ok_num (by omega) (by omega), ?_, by simp only [okV], trivial⟩
            simp only [okV]
            exact wordS x hx
          obtain ⟨c, dc, hc, vc, oc⟩ := pick all oks z0 z1
          refine .inl ⟨L, _, _, c, rfl, rfl, SqL.of (S11.s _ _ upd_same), hc, ?_⟩
          exact ⟨c, dc, s9, _, S11, Same.trans g7 g10, vc, oc, rfl⟩
        · exact ⟨u, e, s4, G4, S5, Same.refl _, hw4, okV_mono e (by decide) hok2, rfl⟩
      rintro σ' Hc ⟨u1, e1, s5, G5, S5, g5, hw5, hok5, rfl⟩
      have hv5 := hv1.same g5
      have s05 := Same.trans s04 g5
      clear hw4 hv1 S4 hok2
      -- an item
      refine ⟨by show 2 ≤ sizeLine; decide, fun t1 ht1 => ?_⟩
      have A1 := S5.alloc (o := .tup [.str "name", .str "p"]) ht1
      have a1 := S5.grow (o := .tup [.str "name", .str "p"]) ht1
      have k1 : upd G5 t1 (.tup [.str "name", .str "p"]) t1 = some (.tup [.str "name", .str "p"]) := upd_same
      generalize upd G5 t1 (.tup [.str "name", .str "p"]) = Ga at A1 a1 k1
      refine ⟨by show 2 ≤ sizeLine; decide, fun t2 ht2 => ?_⟩
      have A2 := A1.alloc (o := .tup [.str "name", .str "q"]) ht2
      have a2 := A1.grow (o := .tup [.str "name", .str "q"]) ht2
      have k2 : upd Ga t2 (.tup [.str "name", .str "q"]) t2 = some (.tup [.str "name", .str "q"]) := upd_same
      generalize upd Ga t2 (.tup [.str "name", .str "q"]) = Gb at A2 a2 k2
      refine ⟨by show 3 ≤ sizeLine; decide, fun t ht => ?_⟩
      have A3 := A2.alloc (o := .tup [.str "item", .ref t1, .ref t2]) ht
      have a3 := A2.grow (o := .tup [.str "item", .ref t1, .ref t2]) ht
      have k3 : upd Gb t (.tup [.str "item", .ref t1, .ref t2]) t = some (.tup [.str "item", .ref t1, .ref t2]) := upd_same
      generalize upd Gb t (.tup [.str "item", .ref t1, .ref t2]) = Gc at A3 a3 k3
      refine fun env henv => ?_
      have A4 := A3.add (o := .dK []) henv
      refine ⟨_, rfl, _, rfl, A4.hd, [(.inr "p", v1), (.inr "q", u1)], rfl, by show 2 ≤ 15; decide, ?_⟩
      have em : mergeK [] [(.inr "p", v1), (.inr "q", u1)] = ([(.inr "p", v1), (.inr "q", u1)] : List (Key × V)) := rfl
      rw [em]
      obtain ⟨A5, a5⟩ := (A4.put (u := .dK [(.inr "p", v1), (.inr "q", u1)])).drop
      have k5 : upd Gc env (.dK [(.inr "p", v1), (.inr "q", u1)]) env = some (.dK [(.inr "p", v1), (.inr "q", u1)]) := upd_same
      generalize upd Gc env (.dK [(.inr "p", v1), (.inr "q", u1)]) = Gd at A5 a5 k5
      have aA := Same.trans a1 (Same.trans a2 (Same.trans a3 a5))
      refine ⟨.item, t, env, .int 1, _, v1, u1, d1, e1, rfl, ⟨t1, t2, A5.s _ _ (a5 _ _ k3), A5.s _ _ (a5 _ _ (a3 _ _ (a2 _ _ k1))), A5.s _ _ (a5 _ _ (a3 _ _ k2))⟩, A5.s _ _ k5, rfl, (hv5.same aA).same A5.s, hok1, (fun _ => ⟨rfl, (hw5.same aA).same A5.s, hok5⟩), (fun x z => nomatch z), fun p6 Hp6 sp6 rt6 => ?_⟩
      obtain ⟨Ge, S6, g6⟩ := A5.more sp6
      have hv6 := hv5.same (Same.trans aA g6)
      have hw6 := hw5.same (Same.trans aA g6)
      have s06 := Same.trans s05 (Same.trans aA g6)
      clear A1 a1 k1 A3 a3 k3 A4 em A5 a5 k5 aA
      clear A2 a2 k2
      refine ⟨_, rfl, _, rfl, _, rfl, v1, u1, d1, e1, rfl, hv6.same S6.s, hw6.same S6.s, hok1, hok5, fun q6 Hq6 sq6 rq6 => ?_⟩
      refine ⟨p6, q6, _, rfl, rt6.same sq6, rq6, fun r z => res_ok (e := .item) hok1 z, fun Hr6 sr6 => ⟨_, rfl, iteF' rfl ?_⟩⟩
      obtain ⟨G7, S7, g7⟩ := S6.more (Same.trans sq6 sr6)
      have hv7 := hv6.same g7
      have s07 := Same.trans s06 g7
      -- a field
      refine ⟨by show 3 ≤ sizeLine; decide, fun tn htn => ?_⟩
      have S8 := S7.alloc (o := .tup [V.str "x", .str "y", .str "zz"]) htn
      have g8 := S7.grow (o := .tup [V.str "x", .str "y", .str "zz"]) htn
      refine ⟨_, rfl, sp, s5, 3, rfl, S8.hd, by decide, by decide, fun z s9 z0 z1 => ?_⟩
      have S9 := S8.put (u := .lst [.int s9])
      have htn2 := S9.s tn _ (upd_same (o := HO.tup [V.str "x", .str "y", .str "zz"]))
      obtain ⟨c, hc, hm⟩ := atI_mem (xs := [V.str "x", .str "y", .str "zz"]) z0 z1
      obtain ⟨nm, rfl, hx⟩ : ∃ x, c = V.str x ∧ x ∈ (["x", "y", "zz", ""] : List Str) := by
        simp only [List.mem_cons, List.not_mem_nil, or_false] at hm
        rcases hm with rfl | rfl | rfl <;> exact ⟨_, rfl, by decide⟩
      have nm5 := (wordS nm hx).2
      refine ⟨tn, _, _, _, rfl, rfl, SqT.of htn2, hc, ?_⟩
      have hv9 := hv7.same g8
      have s09 := Same.trans s07 g8
      generalize upd G7 tn (.tup [V.str "x", .str "y", .str "zz"]) = G9 at S9 hv9 s09
      refine ⟨by show 2 ≤ sizeLine; decide, fun t1 ht1 => ?_⟩
      have A1 := S9.alloc (o := .tup [.str "name", .str "p"]) ht1
      have a1 := S9.grow (o := .tup [.str "name", .str "p"]) ht1
      have k1 : upd G9 t1 (.tup [.str "name", .str "p"]) t1 = some (.tup [.str "name", .str "p"]) := upd_same
      generalize upd G9 t1 (.tup [.str "name", .str "p"]) = Ga at A1 a1 k1
      refine ⟨_, rfl, by show 3 ≤ sizeLine; decide, fun t ht => ?_⟩
      have A3 := A1.alloc (o := .tup [.str "field", .ref t1, .str nm]) ht
      have a3 := A1.grow (o := .tup [.str "field", .ref t1, .str nm]) ht
      have k3 : upd Ga t (.tup [.str "field", .ref t1, .str nm]) t = some (.tup [.str "field", .ref t1, .str nm]) := upd_same
      generalize upd Ga t (.tup [.str "field", .ref t1, .str nm]) = Gc at A3 a3 k3
      refine fun env henv => ?_
      have A4 := A3.add (o := .dK []) henv
      refine ⟨_, rfl, A4.hd, [(.inr "p", v1)], rfl, by show 1 ≤ 15; decide, ?_⟩
      have em : mergeK [] [(.inr "p", v1)] = ([(.inr "p", v1)] : List (Key × V)) := rfl
      rw [em]
      obtain ⟨A5, a5⟩ := (A4.put (u := .dK [(.inr "p", v1)])).drop
      have k5 : upd Gc env (.dK [(.inr "p", v1)]) env = some (.dK [(.inr "p", v1)]) := upd_same
      generalize upd Gc env (.dK [(.inr "p", v1)]) = Gd at A5 a5 k5
      have aA := Same.trans a1 (Same.trans a3 a5)
      refine ⟨(.field nm), t, env, .int 1, _, v1, v1, d1, d1, rfl, ⟨t1, A5.s _ _ (a5 _ _ k3), A5.s _ _ (a5 _ _ (a3 _ _ k1))⟩, A5.s _ _ k5, rfl, (hv9.same aA).same A5.s, hok1, (fun z => nomatch z), (fun x z => by cases z; exact nm5), fun p10 Hp10 sp10 rt10 => ?_⟩
      obtain ⟨Ge, S10, g10⟩ := A5.more sp10
      have hv10 := hv9.same (Same.trans aA g10)
      have s010 := Same.trans s09 (Same.trans aA g10)
      clear A1 a1 k1 A3 a3 k3 A4 em A5 a5 k5 aA
      refine ⟨_, rfl, _, rfl, _, rfl, v1, d1, nm, rfl, hv10.same S10.s, hok1, nm5, fun q6 Hq6 sq6 rq6 => ?_⟩
      refine ⟨p10, q6, _, rfl, rt10.same sq6, rq6, fun r z => res_ok (e := .field nm) (d2 := d1) hok1 z, fun Hr6 sr6 => ⟨_, rfl, iteF' rfl ?_⟩⟩
      obtain ⟨G11, S11, g11⟩ := S10.more (Same.trans sq6 sr6)
      have hv11 := hv10.same g11
      have s011 := Same.trans s010 g11
      refine ⟨by show 2 ≤ sizeLine; decide, fun t1 ht1 => ?_⟩
      have A1 := S11.alloc (o := .tup [.str "name", .str "p"]) ht1
      have a1 := S11.grow (o := .tup [.str "name", .str "p"]) ht1
      have k1 : upd G11 t1 (.tup [.str "name", .str "p"]) t1 = some (.tup [.str "name", .str "p"]) := upd_same
      generalize upd G11 t1 (.tup [.str "name", .str "p"]) = Ga at A1 a1 k1
      refine ⟨by show 2 ≤ sizeLine; decide, fun t ht => ?_⟩
      have A3 := A1.alloc (o := .tup [.str "not", .ref t1]) ht
      have a3 := A1.grow (o := .tup [.str "not", .ref t1]) ht
      have k3 : upd Ga t (.tup [.str "not", .ref t1]) t = some (.tup [.str "not", .ref t1]) := upd_same
      generalize upd Ga t (.tup [.str "not", .ref t1]) = Gc at A3 a3 k3
      refine fun env henv => ?_
      have A4 := A3.add (o := .dK []) henv
      refine ⟨_, rfl, A4.hd, [(.inr "p", v1)], rfl, by show 1 ≤ 15; decide, ?_⟩
      have em : mergeK [] [(.inr "p", v1)] = ([(.inr "p", v1)] : List (Key × V)) := rfl
      rw [em]
      obtain ⟨A5, a5⟩ := (A4.put (u := .dK [(.inr "p", v1)])).drop
      have k5 : upd Gc env (.dK [(.inr "p", v1)]) env = some (.dK [(.inr "p", v1)]) := upd_same
      generalize upd Gc env (.dK [(.inr "p", v1)]) = Gd at A5 a5 k5
      have aA := Same.trans a1 (Same.trans a3 a5)
      refine ⟨.neg, t, env, .int 1, _, v1, v1, d1, d1, rfl, ⟨t1, A5.s _ _ (a5 _ _ k3), A5.s _ _ (a5 _ _ (a3 _ _ k1))⟩, A5.s _ _ k5, rfl, (hv11.same aA).same A5.s, hok1, (fun z => nomatch z), (fun x z => nomatch z), fun p12 Hp12 sp12 rt12 => ?_⟩
      obtain ⟨Ge, S12, g12⟩ := A5.more sp12
      have hv12 := hv11.same (Same.trans aA g12)
      have s012 := Same.trans s011 (Same.trans aA g12)
      clear A1 a1 k1 A3 a3 k3 A4 em A5 a5 k5 aA
      have ty := ty_V (K := K) (hv12.same S12.s)
      have sF := Same.trans s012 S12.s
      refine ⟨_, rfl, v1, .ty "bool", _, _, isB d1, rfl, .ty _, ty, kit_ty (kB d1), isB d1, rfl, ?_⟩
      cases d1 with
      | bl b =>
        obtain ⟨x, hx, vx⟩ := rt12
        simp only [VH] at hv12 vx
        subst hv12 vx
        refine iteT' rfl ⟨_, rfl, p12, _, _, _, rfl, rfl, SqT.of hx, at_1, _, rfl, iteF' rfl ?_⟩
        refine ⟨_, rfl, p12, _, _, _, rfl, rfl, SqT.of hx, at_0, _, rfl, b, rfl, .bl (!b), .bl (!b), .bl (!b), .bl (!b), rfl, by simp only [VH], by simp only [VR], .inl (by simp only [okV]), .inl (by simp only [okV]), by simp [cst], fun H' s' => ⟨_, rfl, ?_⟩⟩
        have : sameV (.bl (!b)) (.bl (!b)) = true := by simp [sameV]
        rw [this]
        exact iteF' rfl ⟨_, _, _, _, _, _, _, Same.trans sF s', rfl⟩
      | _ =>
        have hx : Hp12 p12 = some (.tup [.non, .str "not true or false"]) := rt12
        exact iteF' rfl ⟨_, rfl, p12, _, _, _, rfl, rfl, SqT.of hx, at_1, rfl, _, rfl, iteF' (by simp) ⟨_, _, _, _, _, _, _, sF, rfl⟩⟩
    · rintro σ H' _
      exact kq H'
end
end VL

set_option Elab.async false
set_option linter.all false
set_option maxRecDepth 100000
set_option maxHeartbeats 4000000
namespace VL
open PySem PySem.Spec PyProof.Rows L2
theorem all_mk {l : PySem.W.OpenLaw} {w : World} {K : PySem.W.Frag} {h : Heap} {mg : Str → Option Value} {fa aT_ACTIONS_evaluating aFault fI_Fault cc_Fault cda_Fault ND_Fault aViewError f1 f2 f3 f4 f5 f6 f7 f8 f9 f10 f11 f12 f13 f14 f15 f16 f17 f18 f19 f20 f21 f22 f23 f24 f25 f26 f27 f28 f29 : Addr} (X : K.In h) (G : h.Ns mainGlobals mg) (hfa : mg "law" = some (.ref fa))
    {odI_Fault anI_Fault odC_Fault odD_Fault ddD_Fault od1 an1 od2 an2 od3 an3 od4 an4 od5 an5 od6 an6 od7 an7 od8 an8 od9 an9 od10 an10 od11 an11 od12 an12 od13 an13 od14 an14 od15 an15 od16 an16 od17 an17 od18 an18 od19 an19 od20 an20 od21 an21 od22 an22 od23 an23 od24 an24 od25 an25 od26 an26 od27 an27 od28 an28 od29 an29 : Option Addr} {slI_Fault slC_Fault slD_Fault sl1 sl2 sl3 sl4 sl5 sl6 sl7 sl8 sl9 sl10 sl11 sl12 sl13 sl14 sl15 sl16 sl17 sl18 sl19 sl20 sl21 sl22 sl23 sl24 sl25 sl26 sl27 sl28 sl29 : Array (Option Value)} {ocI_Fault kVI_Fault dcI_Fault pmI_Fault ctI_Fault ocC_Fault ocD_Fault oc1 kV1 dc1 pm1 cd1 ct1 oc2 kV2 dc2 pm2 cd2 ct2 oc3 kV3 dc3 pm3 cd3 ct3 oc4 kV4 dc4 pm4 cd4 ct4 oc5 kV5 dc5 pm5 cd5 ct5 oc6 kV6 dc6 pm6 cd6 ct6 oc7 kV7 dc7 pm7 cd7 ct7 oc8 kV8 dc8 pm8 cd8 ct8 oc9 kV9 dc9 pm9 cd9 ct9 oc10 kV10 dc10 pm10 cd10 ct10 oc11 kV11 dc11 pm11 cd11 ct11 oc12 kV12 dc12 pm12 cd12 ct12 oc13 kV13 dc13 pm13 cd13 ct13 oc14 kV14 dc14 pm14 cd14 ct14 oc15 kV15 dc15 pm15 cd15 ct15 oc16 kV16 dc16 pm16 cd16 ct16 oc17 kV17 dc17 pm17 cd17 ct17 oc18 kV18 dc18 pm18 cd18 ct18 oc19 kV19 dc19 pm19 cd19 ct19 oc20 kV20 dc20 pm20 cd20 ct20 oc21 kV21 dc21 pm21 cd21 ct21 oc22 kV22 dc22 pm22 cd22 ct22 oc23 kV23 dc23 pm23 cd23 ct23 oc24 kV24 dc24 pm24 cd24 ct24 oc25 kV25 dc25 pm25 cd25 ct25 oc26 kV26 dc26 pm26 cd26 ct26 oc27 kV27 dc27 pm27 cd27 ct27 oc28 kV28 dc28 pm28 cd28 ct28 oc29 kV29 dc29 pm29 cd29 ct29 : Value} {vsD_Fault : Array Value} {nT_ACTIONS_evaluating : Nat} {bsD_Fault bmD_Fault subD_Fault : List Value} {es_ACTIONS_evaluating : Array DictEntry} {file_Fault nmD_Fault qD_Fault : Str} {tf_Fault : Tok} {cdD_Fault : ClassData} {snD_Fault : List Str} {abD_Fault : Bool} {colD_Fault : Option Bool} {e0_Fault e1_Fault e2_Fault e3_Fault e5_Fault : Option Value}
    (z_abs : PySem.W.nsIn K mainGlobals "abs" = some none)
    (z_bool : PySem.W.nsIn K mainGlobals "bool" = some none)
    (z_dict : PySem.W.nsIn K mainGlobals "dict" = some none)
    (z_int : PySem.W.nsIn K mainGlobals "int" = some none)
    (z_isinstance : PySem.W.nsIn K mainGlobals "isinstance" = some none)
    (z_len : PySem.W.nsIn K mainGlobals "len" = some none)
    (z_list : PySem.W.nsIn K mainGlobals "list" = some none)
    (z_max : PySem.W.nsIn K mainGlobals "max" = some none)
    (z_min : PySem.W.nsIn K mainGlobals "min" = some none)
    (z_range : PySem.W.nsIn K mainGlobals "range" = some none)
    (z_sorted : PySem.W.nsIn K mainGlobals "sorted" = some none)
    (z_str : PySem.W.nsIn K mainGlobals "str" = some none)
    (z_tuple : PySem.W.nsIn K mainGlobals "tuple" = some none)
    (gT_ACTIONS_evaluating : PySem.W.nsIn K mainGlobals "ACTIONS_evaluating" = some (some (.ref aT_ACTIONS_evaluating)))
    (lT_ACTIONS_evaluating : K.lookup aT_ACTIONS_evaluating = some ⟨.type "dict", none, .dict es_ACTIONS_evaluating nT_ACTIONS_evaluating, #[]⟩)
    (tT_ACTIONS_evaluating : PySem.W.KeysLit w.params es_ACTIONS_evaluating.toList)
    (eT_ACTIONS_evaluating_0 : PySem.W.nsIn K aT_ACTIONS_evaluating "name" = some (some (.ref f13)))
    (eT_ACTIONS_evaluating_1 : PySem.W.nsIn K aT_ACTIONS_evaluating "item" = some (some (.ref f15)))
    (eT_ACTIONS_evaluating_2 : PySem.W.nsIn K aT_ACTIONS_evaluating "field" = some (some (.ref f14)))
    (eT_ACTIONS_evaluating_3 : PySem.W.nsIn K aT_ACTIONS_evaluating "not" = some (some (.ref f16)))
    (z_super : PySem.W.nsIn K mainGlobals "super" = some none)
    (q_Fault : PySem.W.nsIn K mainGlobals "Fault" = some (some (.ref aFault)))
    (iI_Fault : PySem.W.findIn K (.ref aFault) "__init__" = some (some (.ref fI_Fault)))
    (tI_Fault : PySem.W.typeIn K (.ref fI_Fault) = some (.type "function"))
    (lI_Fault : K.lookup fI_Fault = some ⟨ocI_Fault, odI_Fault, .func (exFd "Fault.__init__" s_Fault___init__ cc_Fault cda_Fault kVI_Fault dcI_Fault pmI_Fault anI_Fault ctI_Fault), slI_Fault⟩)
    (cI_Fault : PySem.W.codeIn K (.ref cda_Fault) "Fault.__init__" = true)
    (ceI_Fault : K.lookup cc_Fault = some ⟨ocC_Fault, odC_Fault, .cell (some (.ref aFault)), slC_Fault⟩)
    (coI_Fault : K.lookup cda_Fault = some ⟨ocD_Fault, odD_Fault, .fields vsD_Fault, slD_Fault⟩)
    (vsI_Fault : vsD_Fault[2]? = some (.str file_Fault tf_Fault))
    (fiI_Fault : ((l.prog.main.file : Str) == file_Fault) = true)
    (clI_Fault : PySem.W.clsIn K aFault = some cdD_Fault)
    (sbI_Fault : PySem.W.mroIn K aFault (.ref aFault) = some true)
    (opI_Fault : PySem.W.nsIn K cStatics "thirdparty.any" = some none)
    (alI_Fault : PySem.W.ks_superIn K aFault aFault "__init__" = some (some (.builtin "ValueError.__init__")))
    (svI_Fault : PySem.W.subIn K (.ref aFault) (.type "ValueError") = some true)
    (tpI_Fault : (l.prog.main.scope.names.lookup ("super" : Str)).isSome = false)
    (lD_Fault : K.lookup aFault = some (excClassObj nmD_Fault qD_Fault aFault ND_Fault bsD_Fault bmD_Fault true snD_Fault subD_Fault abD_Fault colD_Fault ddD_Fault e0_Fault e1_Fault e2_Fault e3_Fault e5_Fault "ValueError.__new__"))
    (bmR_Fault : PySem.HandSPX.refsVE bmD_Fault = true)
    (saD_Fault : PySem.W.findIn K (.ref aFault) "__setattr__" = some (some (.builtin "object.__setattr__")))
    (exD_Fault : PySem.W.subIn K (.ref aFault) (.type "BaseException") = some true)
    (tyD_Fault : PySem.W.typeIn K (.ref aFault) = some (.type "type"))
    (kD_Fault : PySem.W.keepIn K (.ref aFault) = true)
    (m_Fault_message : PySem.W.findIn K (.ref aFault) "message" = some none)
    (ssD_Fault : PySem.W.subIn K (.ref aFault) (.ref aFault) = some true)
    (gaD_Fault : PySem.W.findIn K (.ref aFault) "__getattribute__" = some (some (.builtin "BaseException.__getattribute__")))
    (ggD_Fault : PySem.W.findIn K (.ref aFault) "__getattr__" = some none)
    (hdD_Fault : PySem.W.hasDictIn K aFault = true)
    (caD_Fault : PySem.W.findIn K (.ref aFault) "__class__" = some (some (.builtin "object.__class__")))
    (spD_Fault : PySem.W.specialIn K (.builtin "object.__class__") "__get__" = some (some (.builtin "getset_descriptor.__get__")))
    (tkD_Fault : PySem.W.takesIn K (.builtin "object.__class__") = some true)
    (mrD_Fault : PySem.W.mroIn K aFault (.type "object") = some true)
    (q_ViewError : PySem.W.nsIn K mainGlobals "ViewError" = some (some (.ref aViewError)))
    (ki_Fault_ViewError : PySem.W.kitOne K (.ref aFault) (.ref aViewError) = some true)
    (ki_Fault_Fault : PySem.W.kitOne K (.ref aFault) (.ref aFault) = some true)
    (vb_ViewError : PySem.W.subIn K (.ref aViewError) (.type "BaseException") = some true)
    (vd_ViewError : PySem.W.hasDictIn K aViewError = true)
    (vt_ViewError : PySem.W.typeIn K (.ref aViewError) = some (.type "type"))
    (vs_Fault_ViewError : PySem.W.subIn K (.ref aFault) (.ref aViewError) = some true)
    (a1 : PySem.W.nsIn K mainGlobals "is_truth" = some (some (.ref f1)))
    (l1 : K.lookup f1 = some ⟨oc1, od1, .func (PySem.W.fnOf "is_truth" "is_truth" (defArgs s_is_truth) (defBody s_is_truth) (defScope s_is_truth) .none kV1 dc1 pm1 an1 cd1 ct1), sl1⟩)
    (c1 : PySem.W.codeIn K cd1 "is_truth" = true)
    (k1 : PySem.W.keepIn K (.ref f1) = true)
    (a2 : PySem.W.nsIn K mainGlobals "is_number" = some (some (.ref f2)))
    (l2 : K.lookup f2 = some ⟨oc2, od2, .func (PySem.W.fnOf "is_number" "is_number" (defArgs s_is_number) (defBody s_is_number) (defScope s_is_number) .none kV2 dc2 pm2 an2 cd2 ct2), sl2⟩)
    (c2 : PySem.W.codeIn K cd2 "is_number" = true)
    (k2 : PySem.W.keepIn K (.ref f2) = true)
    (a3 : PySem.W.nsIn K mainGlobals "is_text" = some (some (.ref f3)))
    (l3 : K.lookup f3 = some ⟨oc3, od3, .func (PySem.W.fnOf "is_text" "is_text" (defArgs s_is_text) (defBody s_is_text) (defScope s_is_text) .none kV3 dc3 pm3 an3 cd3 ct3), sl3⟩)
    (c3 : PySem.W.codeIn K cd3 "is_text" = true)
    (k3 : PySem.W.keepIn K (.ref f3) = true)
    (a4 : PySem.W.nsIn K mainGlobals "is_list" = some (some (.ref f4)))
    (l4 : K.lookup f4 = some ⟨oc4, od4, .func (PySem.W.fnOf "is_list" "is_list" (defArgs s_is_list) (defBody s_is_list) (defScope s_is_list) .none kV4 dc4 pm4 an4 cd4 ct4), sl4⟩)
    (c4 : PySem.W.codeIn K cd4 "is_list" = true)
    (k4 : PySem.W.keepIn K (.ref f4) = true)
    (a5 : PySem.W.nsIn K mainGlobals "is_record" = some (some (.ref f5)))
    (l5 : K.lookup f5 = some ⟨oc5, od5, .func (PySem.W.fnOf "is_record" "is_record" (defArgs s_is_record) (defBody s_is_record) (defScope s_is_record) .none kV5 dc5 pm5 an5 cd5 ct5), sl5⟩)
    (c5 : PySem.W.codeIn K cd5 "is_record" = true)
    (k5 : PySem.W.keepIn K (.ref f5) = true)
    (a6 : PySem.W.nsIn K mainGlobals "copied" = some (some (.ref f6)))
    (l6 : K.lookup f6 = some ⟨oc6, od6, .func (PySem.W.fnOf "copied" "copied" (defArgs s_copied) (defBody s_copied) (defScope s_copied) .none kV6 dc6 pm6 an6 cd6 ct6), sl6⟩)
    (c6 : PySem.W.codeIn K cd6 "copied" = true)
    (k6 : PySem.W.keepIn K (.ref f6) = true)
    (a7 : PySem.W.nsIn K mainGlobals "copy_of" = some (some (.ref f7)))
    (l7 : K.lookup f7 = some ⟨oc7, od7, .func (PySem.W.fnOf "copy_of" "copy_of" (defArgs s_copy_of) (defBody s_copy_of) (defScope s_copy_of) .none kV7 dc7 pm7 an7 cd7 ct7), sl7⟩)
    (c7 : PySem.W.codeIn K cd7 "copy_of" = true)
    (k7 : PySem.W.keepIn K (.ref f7) = true)
    (a8 : PySem.W.nsIn K mainGlobals "need_truth" = some (some (.ref f8)))
    (l8 : K.lookup f8 = some ⟨oc8, od8, .func (PySem.W.fnOf "need_truth" "need_truth" (defArgs s_need_truth) (defBody s_need_truth) (defScope s_need_truth) .none kV8 dc8 pm8 an8 cd8 ct8), sl8⟩)
    (c8 : PySem.W.codeIn K cd8 "need_truth" = true)
    (k8 : PySem.W.keepIn K (.ref f8) = true)
    (a9 : PySem.W.nsIn K mainGlobals "need_record" = some (some (.ref f9)))
    (l9 : K.lookup f9 = some ⟨oc9, od9, .func (PySem.W.fnOf "need_record" "need_record" (defArgs s_need_record) (defBody s_need_record) (defScope s_need_record) .none kV9 dc9 pm9 an9 cd9 ct9), sl9⟩)
    (c9 : PySem.W.codeIn K cd9 "need_record" = true)
    (k9 : PySem.W.keepIn K (.ref f9) = true)
    (a10 : PySem.W.nsIn K mainGlobals "has_place" = some (some (.ref f10)))
    (l10 : K.lookup f10 = some ⟨oc10, od10, .func (PySem.W.fnOf "has_place" "has_place" (defArgs s_has_place) (defBody s_has_place) (defScope s_has_place) .none kV10 dc10 pm10 an10 cd10 ct10), sl10⟩)
    (c10 : PySem.W.codeIn K cd10 "has_place" = true)
    (k10 : PySem.W.keepIn K (.ref f10) = true)
    (a11 : PySem.W.nsIn K mainGlobals "evaluate" = some (some (.ref f11)))
    (l11 : K.lookup f11 = some ⟨oc11, od11, .func (PySem.W.fnOf "evaluate" "evaluate" (defArgs s_evaluate) (defBody s_evaluate) (defScope s_evaluate) .none kV11 dc11 pm11 an11 cd11 ct11), sl11⟩)
    (c11 : PySem.W.codeIn K cd11 "evaluate" = true)
    (k11 : PySem.W.keepIn K (.ref f11) = true)
    (a12 : PySem.W.nsIn K mainGlobals "value_of" = some (some (.ref f12)))
    (l12 : K.lookup f12 = some ⟨oc12, od12, .func (PySem.W.fnOf "value_of" "value_of" (defArgs s_value_of) (defBody s_value_of) (defScope s_value_of) .none kV12 dc12 pm12 an12 cd12 ct12), sl12⟩)
    (c12 : PySem.W.codeIn K cd12 "value_of" = true)
    (k12 : PySem.W.keepIn K (.ref f12) = true)
    (a13 : PySem.W.nsIn K mainGlobals "name_value" = some (some (.ref f13)))
    (l13 : K.lookup f13 = some ⟨oc13, od13, .func (PySem.W.fnOf "name_value" "name_value" (defArgs s_name_value) (defBody s_name_value) (defScope s_name_value) .none kV13 dc13 pm13 an13 cd13 ct13), sl13⟩)
    (c13 : PySem.W.codeIn K cd13 "name_value" = true)
    (k13 : PySem.W.keepIn K (.ref f13) = true)
    (a14 : PySem.W.nsIn K mainGlobals "field_value" = some (some (.ref f14)))
    (l14 : K.lookup f14 = some ⟨oc14, od14, .func (PySem.W.fnOf "field_value" "field_value" (defArgs s_field_value) (defBody s_field_value) (defScope s_field_value) .none kV14 dc14 pm14 an14 cd14 ct14), sl14⟩)
    (c14 : PySem.W.codeIn K cd14 "field_value" = true)
    (k14 : PySem.W.keepIn K (.ref f14) = true)
    (a15 : PySem.W.nsIn K mainGlobals "item_value" = some (some (.ref f15)))
    (l15 : K.lookup f15 = some ⟨oc15, od15, .func (PySem.W.fnOf "item_value" "item_value" (defArgs s_item_value) (defBody s_item_value) (defScope s_item_value) .none kV15 dc15 pm15 an15 cd15 ct15), sl15⟩)
    (c15 : PySem.W.codeIn K cd15 "item_value" = true)
    (k15 : PySem.W.keepIn K (.ref f15) = true)
    (a16 : PySem.W.nsIn K mainGlobals "not_value" = some (some (.ref f16)))
    (l16 : K.lookup f16 = some ⟨oc16, od16, .func (PySem.W.fnOf "not_value" "not_value" (defArgs s_not_value) (defBody s_not_value) (defScope s_not_value) .none kV16 dc16 pm16 an16 cd16 ct16), sl16⟩)
    (c16 : PySem.W.codeIn K cd16 "not_value" = true)
    (k16 : PySem.W.keepIn K (.ref f16) = true)
    (a17 : PySem.W.nsIn K mainGlobals "_law_cell" = some (some (.ref f17)))
    (l17 : K.lookup f17 = some ⟨oc17, od17, .func (PySem.W.fnOf "_law_cell" "_law_cell" (defArgs s__law_cell) (defBody s__law_cell) (defScope s__law_cell) .none kV17 dc17 pm17 an17 cd17 ct17), sl17⟩)
    (c17 : PySem.W.codeIn K cd17 "_law_cell" = true)
    (k17 : PySem.W.keepIn K (.ref f17) = true)
    (a18 : PySem.W.nsIn K mainGlobals "_law_start" = some (some (.ref f18)))
    (l18 : K.lookup f18 = some ⟨oc18, od18, .func (PySem.W.fnOf "_law_start" "_law_start" (defArgs s__law_start) (defBody s__law_start) (defScope s__law_start) .none kV18 dc18 pm18 an18 cd18 ct18), sl18⟩)
    (c18 : PySem.W.codeIn K cd18 "_law_start" = true)
    (k18 : PySem.W.keepIn K (.ref f18) = true)
    (a19 : PySem.W.nsIn K mainGlobals "_law_digit" = some (some (.ref f19)))
    (l19 : K.lookup f19 = some ⟨oc19, od19, .func (PySem.W.fnOf "_law_digit" "_law_digit" (defArgs s__law_digit) (defBody s__law_digit) (defScope s__law_digit) .none kV19 dc19 pm19 an19 cd19 ct19), sl19⟩)
    (c19 : PySem.W.codeIn K cd19 "_law_digit" = true)
    (k19 : PySem.W.keepIn K (.ref f19) = true)
    (a20 : PySem.W.nsIn K mainGlobals "_law_text" = some (some (.ref f20)))
    (l20 : K.lookup f20 = some ⟨oc20, od20, .func (PySem.W.fnOf "_law_text" "_law_text" (defArgs s__law_text) (defBody s__law_text) (defScope s__law_text) .none kV20 dc20 pm20 an20 cd20 ct20), sl20⟩)
    (c20 : PySem.W.codeIn K cd20 "_law_text" = true)
    (k20 : PySem.W.keepIn K (.ref f20) = true)
    (a21 : PySem.W.nsIn K mainGlobals "_law_number" = some (some (.ref f21)))
    (l21 : K.lookup f21 = some ⟨oc21, od21, .func (PySem.W.fnOf "_law_number" "_law_number" (defArgs s__law_number) (defBody s__law_number) (defScope s__law_number) .none kV21 dc21 pm21 an21 cd21 ct21), sl21⟩)
    (c21 : PySem.W.codeIn K cd21 "_law_number" = true)
    (k21 : PySem.W.keepIn K (.ref f21) = true)
    (a22 : PySem.W.nsIn K mainGlobals "_law_value" = some (some (.ref f22)))
    (l22 : K.lookup f22 = some ⟨oc22, od22, .func (PySem.W.fnOf "_law_value" "_law_value" (defArgs s__law_value) (defBody s__law_value) (defScope s__law_value) .none kV22 dc22 pm22 an22 cd22 ct22), sl22⟩)
    (c22 : PySem.W.codeIn K cd22 "_law_value" = true)
    (k22 : PySem.W.keepIn K (.ref f22) = true)
    (a23 : PySem.W.nsIn K mainGlobals "_law_kind" = some (some (.ref f23)))
    (l23 : K.lookup f23 = some ⟨oc23, od23, .func (PySem.W.fnOf "_law_kind" "_law_kind" (defArgs s__law_kind) (defBody s__law_kind) (defScope s__law_kind) .none kV23 dc23 pm23 an23 cd23 ct23), sl23⟩)
    (c23 : PySem.W.codeIn K cd23 "_law_kind" = true)
    (k23 : PySem.W.keepIn K (.ref f23) = true)
    (a24 : PySem.W.nsIn K mainGlobals "_law_same" = some (some (.ref f24)))
    (l24 : K.lookup f24 = some ⟨oc24, od24, .func (PySem.W.fnOf "_law_same" "_law_same" (defArgs s__law_same) (defBody s__law_same) (defScope s__law_same) .none kV24 dc24 pm24 an24 cd24 ct24), sl24⟩)
    (c24 : PySem.W.codeIn K cd24 "_law_same" = true)
    (k24 : PySem.W.keepIn K (.ref f24) = true)
    (a25 : PySem.W.nsIn K mainGlobals "_law_at" = some (some (.ref f25)))
    (l25 : K.lookup f25 = some ⟨oc25, od25, .func (PySem.W.fnOf "_law_at" "_law_at" (defArgs s__law_at) (defBody s__law_at) (defScope s__law_at) .none kV25 dc25 pm25 an25 cd25 ct25), sl25⟩)
    (c25 : PySem.W.codeIn K cd25 "_law_at" = true)
    (k25 : PySem.W.keepIn K (.ref f25) = true)
    (a26 : PySem.W.nsIn K mainGlobals "_law_field" = some (some (.ref f26)))
    (l26 : K.lookup f26 = some ⟨oc26, od26, .func (PySem.W.fnOf "_law_field" "_law_field" (defArgs s__law_field) (defBody s__law_field) (defScope s__law_field) .none kV26 dc26 pm26 an26 cd26 ct26), sl26⟩)
    (c26 : PySem.W.codeIn K cd26 "_law_field" = true)
    (k26 : PySem.W.keepIn K (.ref f26) = true)
    (a27 : PySem.W.nsIn K mainGlobals "_law_evaluated" = some (some (.ref f27)))
    (l27 : K.lookup f27 = some ⟨oc27, od27, .func (PySem.W.fnOf "_law_evaluated" "_law_evaluated" (defArgs s__law_evaluated) (defBody s__law_evaluated) (defScope s__law_evaluated) .none kV27 dc27 pm27 an27 cd27 ct27), sl27⟩)
    (c27 : PySem.W.codeIn K cd27 "_law_evaluated" = true)
    (k27 : PySem.W.keepIn K (.ref f27) = true)
    (a28 : PySem.W.nsIn K mainGlobals "_law_right" = some (some (.ref f28)))
    (l28 : K.lookup f28 = some ⟨oc28, od28, .func (PySem.W.fnOf "_law_right" "_law_right" (defArgs s__law_right) (defBody s__law_right) (defScope s__law_right) .none kV28 dc28 pm28 an28 cd28 ct28), sl28⟩)
    (c28 : PySem.W.codeIn K cd28 "_law_right" = true)
    (k28 : PySem.W.keepIn K (.ref f28) = true)
    (a29 : PySem.W.nsIn K mainGlobals "law" = some (some (.ref f29)))
    (l29 : K.lookup f29 = some ⟨oc29, od29, .func (PySem.W.fnOf "law" "law" (defArgs s_law) (defBody s_law) (defScope s_law) .none kV29 dc29 pm29 an29 cd29 ct29), sl29⟩)
    (c29 : PySem.W.codeIn K cd29 "law" = true)
    (k29 : PySem.W.keepIn K (.ref f29) = true)
    : ∃ fd : FuncData, (∀ (s : Shared) (v : Value), BindsTo s fd ⟨[v], []⟩ [("script", v)]) ∧ ∀ base : Heap, K.In base → base.Ns mainGlobals mg → FnOk l.prog w K mg base CX0 60 fa fd ["script"] (spLaw K) := by
  have e := hfa.symm.trans (PySem.W.mg_of X G a29)
  cases e
  have F1 := fun_mk (st := s_is_truth) l1 c1 k1
  have b1 := F1.binds (ps := ["value"]) fun _ _ _ _ _ _ us hl => match us, hl with | [_], _ => rfl
  have F2 := fun_mk (st := s_is_number) l2 c2 k2
  have b2 := F2.binds (ps := ["value"]) fun _ _ _ _ _ _ us hl => match us, hl with | [_], _ => rfl
  have F3 := fun_mk (st := s_is_text) l3 c3 k3
  have b3 := F3.binds (ps := ["value"]) fun _ _ _ _ _ _ us hl => match us, hl with | [_], _ => rfl
  have F4 := fun_mk (st := s_is_list) l4 c4 k4
  have b4 := F4.binds (ps := ["value"]) fun _ _ _ _ _ _ us hl => match us, hl with | [_], _ => rfl
  have F5 := fun_mk (st := s_is_record) l5 c5 k5
  have b5 := F5.binds (ps := ["value"]) fun _ _ _ _ _ _ us hl => match us, hl with | [_], _ => rfl
  have F6 := fun_mk (st := s_copied) l6 c6 k6
  have b6 := F6.binds (ps := ["value"]) fun _ _ _ _ _ _ us hl => match us, hl with | [_], _ => rfl
  have F7 := fun_mk (st := s_copy_of) l7 c7 k7
  have b7 := F7.binds (ps := ["value"]) fun _ _ _ _ _ _ us hl => match us, hl with | [_], _ => rfl
  have F8 := fun_mk (st := s_need_truth) l8 c8 k8
  have b8 := F8.binds (ps := ["value"]) fun _ _ _ _ _ _ us hl => match us, hl with | [_], _ => rfl
  have F9 := fun_mk (st := s_need_record) l9 c9 k9
  have b9 := F9.binds (ps := ["value"]) fun _ _ _ _ _ _ us hl => match us, hl with | [_], _ => rfl
  have F10 := fun_mk (st := s_has_place) l10 c10 k10
  have b10 := F10.binds (ps := ["base", "index"]) fun _ _ _ _ _ _ us hl => match us, hl with | [_, _], _ => rfl
  have F11 := fun_mk (st := s_evaluate) l11 c11 k11
  have b11 := F11.binds (ps := ["expression", "environment", "owner"]) fun _ _ _ _ _ _ us hl => match us, hl with | [_, _, _], _ => rfl
  have F12 := fun_mk (st := s_value_of) l12 c12 k12
  have b12 := F12.binds (ps := ["expression", "environment", "owner"]) fun _ _ _ _ _ _ us hl => match us, hl with | [_, _, _], _ => rfl
  have F13 := fun_mk (st := s_name_value) l13 c13 k13
  have b13 := F13.binds (ps := ["expression", "environment", "owner"]) fun _ _ _ _ _ _ us hl => match us, hl with | [_, _, _], _ => rfl
  have F14 := fun_mk (st := s_field_value) l14 c14 k14
  have b14 := F14.binds (ps := ["expression", "environment", "owner"]) fun _ _ _ _ _ _ us hl => match us, hl with | [_, _, _], _ => rfl
  have F15 := fun_mk (st := s_item_value) l15 c15 k15
  have b15 := F15.binds (ps := ["expression", "environment", "owner"]) fun _ _ _ _ _ _ us hl => match us, hl with | [_, _, _], _ => rfl
  have F16 := fun_mk (st := s_not_value) l16 c16 k16
  have b16 := F16.binds (ps := ["expression", "environment", "owner"]) fun _ _ _ _ _ _ us hl => match us, hl with | [_, _, _], _ => rfl
  have F17 := fun_mk (st := s__law_cell) l17 c17 k17
  have b17 := F17.binds (ps := ["script", "k"]) fun _ _ _ _ _ _ us hl => match us, hl with | [_, _], _ => rfl
  have F18 := fun_mk (st := s__law_start) l18 c18 k18
  have b18 := F18.binds (ps := ["cell", "k"]) fun _ _ _ _ _ _ us hl => match us, hl with | [_, _], _ => rfl
  have F19 := fun_mk (st := s__law_digit) l19 c19 k19
  have b19 := F19.binds (ps := ["state", "many"]) fun _ _ _ _ _ _ us hl => match us, hl with | [_, _], _ => rfl
  have F20 := fun_mk (st := s__law_text) l20 c20 k20
  have b20 := F20.binds (ps := ["state"]) fun _ _ _ _ _ _ us hl => match us, hl with | [_], _ => rfl
  have F21 := fun_mk (st := s__law_number) l21 c21 k21
  have b21 := F21.binds (ps := ["state"]) fun _ _ _ _ _ _ us hl => match us, hl with | [_], _ => rfl
  have F22 := fun_mk (st := s__law_value) l22 c22 k22
  have b22 := F22.binds (ps := ["state", "levels"]) fun _ _ _ _ _ _ us hl => match us, hl with | [_, _], _ => rfl
  have F23 := fun_mk (st := s__law_kind) l23 c23 k23
  have b23 := F23.binds (ps := ["value"]) fun _ _ _ _ _ _ us hl => match us, hl with | [_], _ => rfl
  have F24 := fun_mk (st := s__law_same) l24 c24 k24
  have b24 := F24.binds (ps := ["first", "second"]) fun _ _ _ _ _ _ us hl => match us, hl with | [_, _], _ => rfl
  have F25 := fun_mk (st := s__law_at) l25 c25 k25
  have b25 := F25.binds (ps := ["value", "place"]) fun _ _ _ _ _ _ us hl => match us, hl with | [_, _], _ => rfl
  have F26 := fun_mk (st := s__law_field) l26 c26 k26
  have b26 := F26.binds (ps := ["value", "name"]) fun _ _ _ _ _ _ us hl => match us, hl with | [_, _], _ => rfl
  have F27 := fun_mk (st := s__law_evaluated) l27 c27 k27
  have b27 := F27.binds (ps := ["expression", "environment", "owner"]) fun _ _ _ _ _ _ us hl => match us, hl with | [_, _, _], _ => rfl
  have F28 := fun_mk (st := s__law_right) l28 c28 k28
  have b28 := F28.binds (ps := ["told", "due"]) fun _ _ _ _ _ _ us hl => match us, hl with | [_, _], _ => rfl
  have T : Txt K w mg ⟨(), aFault, aViewError⟩ := {
    z_abs := PySem.W.mg_none_of X G z_abs,
    z_bool := PySem.W.mg_none_of X G z_bool,
    z_dict := PySem.W.mg_none_of X G z_dict,
    z_int := PySem.W.mg_none_of X G z_int,
    z_isinstance := PySem.W.mg_none_of X G z_isinstance,
    z_len := PySem.W.mg_none_of X G z_len,
    z_list := PySem.W.mg_none_of X G z_list,
    z_max := PySem.W.mg_none_of X G z_max,
    z_min := PySem.W.mg_none_of X G z_min,
    z_range := PySem.W.mg_none_of X G z_range,
    z_sorted := PySem.W.mg_none_of X G z_sorted,
    z_str := PySem.W.mg_none_of X G z_str,
    z_tuple := PySem.W.mg_none_of X G z_tuple,
    tb_ACTIONS_evaluating := ⟨_, ⟨_, PySem.W.mg_of X G gT_ACTIONS_evaluating, rfl⟩, ⟨_, PySem.W.mg_of X G a13, _, _, _, lT_ACTIONS_evaluating, tT_ACTIONS_evaluating, eT_ACTIONS_evaluating_0, rfl⟩, ⟨_, PySem.W.mg_of X G a15, _, _, _, lT_ACTIONS_evaluating, tT_ACTIONS_evaluating, eT_ACTIONS_evaluating_1, rfl⟩, ⟨_, PySem.W.mg_of X G a14, _, _, _, lT_ACTIONS_evaluating, tT_ACTIONS_evaluating, eT_ACTIONS_evaluating_2, rfl⟩, ⟨_, PySem.W.mg_of X G a16, _, _, _, lT_ACTIONS_evaluating, tT_ACTIONS_evaluating, eT_ACTIONS_evaluating_3, rfl⟩⟩,
    gx_ViewError := ⟨_, PySem.W.mg_of X G q_ViewError, rfl⟩,
    k_Fault_ViewError := ki_Fault_ViewError,
    k_Fault_Fault := ki_Fault_Fault,
    gm_ViewError := PySem.W.mg_of X G q_ViewError,
    m_Fault_ViewError := PySem.W.exm_ref vb_ViewError vd_ViewError vt_ViewError vs_Fault_ViewError,
    d_is_truth := ⟨_, _, F1, PySem.W.mg_of X G a1, b1⟩,
    d_is_number := ⟨_, _, F2, PySem.W.mg_of X G a2, b2⟩,
    d_is_text := ⟨_, _, F3, PySem.W.mg_of X G a3, b3⟩,
    d_is_list := ⟨_, _, F4, PySem.W.mg_of X G a4, b4⟩,
    d_is_record := ⟨_, _, F5, PySem.W.mg_of X G a5, b5⟩,
    d_copied := ⟨_, _, F6, PySem.W.mg_of X G a6, b6⟩,
    d_copy_of := ⟨_, _, F7, PySem.W.mg_of X G a7, b7⟩,
    d_need_truth := ⟨_, _, F8, PySem.W.mg_of X G a8, b8⟩,
    d_need_record := ⟨_, _, F9, PySem.W.mg_of X G a9, b9⟩,
    d_has_place := ⟨_, _, F10, PySem.W.mg_of X G a10, b10⟩,
    d_evaluate := ⟨_, _, F11, PySem.W.mg_of X G a11, b11⟩,
    d_value_of := ⟨_, _, F12, PySem.W.mg_of X G a12, b12⟩,
    d_name_value := ⟨_, _, F13, PySem.W.mg_of X G a13, b13⟩,
    d_field_value := ⟨_, _, F14, PySem.W.mg_of X G a14, b14⟩,
    d_item_value := ⟨_, _, F15, PySem.W.mg_of X G a15, b15⟩,
    d_not_value := ⟨_, _, F16, PySem.W.mg_of X G a16, b16⟩,
    d__law_cell := ⟨_, _, F17, PySem.W.mg_of X G a17, b17⟩,
    d__law_start := ⟨_, _, F18, PySem.W.mg_of X G a18, b18⟩,
    d__law_digit := ⟨_, _, F19, PySem.W.mg_of X G a19, b19⟩,
    d__law_text := ⟨_, _, F20, PySem.W.mg_of X G a20, b20⟩,
    d__law_number := ⟨_, _, F21, PySem.W.mg_of X G a21, b21⟩,
    d__law_value := ⟨_, _, F22, PySem.W.mg_of X G a22, b22⟩,
    d__law_kind := ⟨_, _, F23, PySem.W.mg_of X G a23, b23⟩,
    d__law_same := ⟨_, _, F24, PySem.W.mg_of X G a24, b24⟩,
    d__law_at := ⟨_, _, F25, PySem.W.mg_of X G a25, b25⟩,
    d__law_field := ⟨_, _, F26, PySem.W.mg_of X G a26, b26⟩,
    d__law_evaluated := ⟨_, _, F27, PySem.W.mg_of X G a27, b27⟩,
    d__law_right := ⟨_, _, F28, PySem.W.mg_of X G a28, b28⟩ }
  have T : TxtE l.prog K w mg ⟨(), aFault, aViewError⟩ := { t := T, xi_Fault := ⟨⟨fI_Fault, cc_Fault, cda_Fault, kVI_Fault, dcI_Fault, pmI_Fault, ctI_Fault, anI_Fault, ⟨⟨_, _, _, lI_Fault⟩, cI_Fault, ⟨_, _, _, ceI_Fault⟩, ⟨_, _, _, _, _, _, coI_Fault, vsI_Fault, fiI_Fault⟩, ⟨_, clI_Fault⟩, sbI_Fault, PySem.W.mg_none_of X G z_super, opI_Fault, alI_Fault, svI_Fault, tpI_Fault⟩, iI_Fault, tI_Fault, .all fun us hl => match us, hl with | [_, _], _ => rfl⟩, ⟨⟨_, _, _, _, _, _, _, _, _, _, _, _, _, _, _, lD_Fault, bmR_Fault⟩, saD_Fault, exD_Fault, tyD_Fault, kD_Fault⟩, List.forall_mem_cons.mpr ⟨m_Fault_message, fun _ h => nomatch h⟩, PySem.W.mg_of X G q_Fault, PySem.W.exm_ref exD_Fault hdD_Fault tyD_Fault ssD_Fault, ⟨gaD_Fault, ggD_Fault, exD_Fault, hdD_Fault⟩, ⟨gaD_Fault, ggD_Fault, exD_Fault, hdD_Fault, caD_Fault, spD_Fault, tkD_Fault, mrD_Fault⟩⟩ }
  exact ⟨_, fun s v => .of_eq rfl, fun base _ _ => ok_law (fun_mk (st := s_law) l29 c29 k29) T⟩
theorem walk {l : PySem.W.OpenLaw} {q : Program} {loose : List Str} {XP : (Str → Option Value) → Heap → Prop} {YP : World → Heap → Prop} {d : DefRec} {K : Params → PySem.W.Frag} (hn : l.most = some 63) (hdf : d.params.defaults = [])
    (hY : ∀ (w : World) (h : Heap), YP w h → (K w.params).In h)
    (F : ∀ (w : World) (mg : Str → Option Value) (fa : Addr) (h : Heap), (K w.params).In h → h.Ns mainGlobals mg → mg d.name = some (.ref fa) →
      ∃ fd : FuncData, (∀ (s : Shared) (u : Value), BindsTo s fd ⟨[u], []⟩ [("script", u)]) ∧ ∀ base : Heap, (K w.params).In base → base.Ns mainGlobals mg → FnOk l.prog w (K w.params) mg base CX0 60 fa fd ["script"] (spLaw (K w.params))) :
    PySem.W.WalkO q loose XP YP l.row.toRowW d [] (fun f vs => PySem.call f vs) :=
  L2.walk_of (n := 63) (k := 60) (x := "script") (CX := fun _ => CX0) (sp := fun w => spLaw (K w.params)) hn (by decide) hdf ⟨rfl, by decide, by decide⟩ hY F (fun _ _ a ns hl _ hS => ⟨a, ns, rfl, hS, hl, fun _ => rfl⟩) fun _ _ _ _ _ z => z
end VL

open PySem PySem.W PyProof.Rows in
set_option maxRecDepth 100000 in
set_option maxHeartbeats 0 in
set_option pp.maxSteps 60 in
theorem PySem.Challenge.cw_viewloom_k15_places_holds : PySem.Challenge.rw_viewloom_k15_places.Holds := by
  w_on; o_law; k_head; (case hw => w_witness2)
  k_fill
  refine VL.walk (l := PySem.Challenge.rw_viewloom_k15_places) rfl rfl (fun w h Y => PySem.W.kIn_of Y) ?F
  case F =>
    intro w mg fa h KX G hmg
    refine' VL.all_mk KX G hmg ?z_abs ?z_bool ?z_dict ?z_int ?z_isinstance ?z_len ?z_list ?z_max ?z_min ?z_range ?z_sorted ?z_str ?z_tuple ?gT_ACTIONS_evaluating ?lT_ACTIONS_evaluating ?tT_ACTIONS_evaluating ?eT_ACTIONS_evaluating_0 ?eT_ACTIONS_evaluating_1 ?eT_ACTIONS_evaluating_2 ?eT_ACTIONS_evaluating_3 ?z_super ?q_Fault ?iI_Fault ?tI_Fault ?lI_Fault ?cI_Fault ?ceI_Fault ?coI_Fault ?vsI_Fault ?fiI_Fault ?clI_Fault ?sbI_Fault ?opI_Fault ?alI_Fault ?svI_Fault ?tpI_Fault ?lD_Fault ?bmR_Fault ?saD_Fault ?exD_Fault ?tyD_Fault ?kD_Fault ?m_Fault_message ?ssD_Fault ?gaD_Fault ?ggD_Fault ?hdD_Fault ?caD_Fault ?spD_Fault ?tkD_Fault ?mrD_Fault ?q_ViewError ?ki_Fault_ViewError ?ki_Fault_Fault ?vb_ViewError ?vd_ViewError ?vt_ViewError ?vs_Fault_ViewError ?a1 ?l1 ?c1 ?k1 ?a2 ?l2 ?c2 ?k2 ?a3 ?l3 ?c3 ?k3 ?a4 ?l4 ?c4 ?k4 ?a5 ?l5 ?c5 ?k5 ?a6 ?l6 ?c6 ?k6 ?a7 ?l7 ?c7 ?k7 ?a8 ?l8 ?c8 ?k8 ?a9 ?l9 ?c9 ?k9 ?a10 ?l10 ?c10 ?k10 ?a11 ?l11 ?c11 ?k11 ?a12 ?l12 ?c12 ?k12 ?a13 ?l13 ?c13 ?k13 ?a14 ?l14 ?c14 ?k14 ?a15 ?l15 ?c15 ?k15 ?a16 ?l16 ?c16 ?k16 ?a17 ?l17 ?c17 ?k17 ?a18 ?l18 ?c18 ?k18 ?a19 ?l19 ?c19 ?k19 ?a20 ?l20 ?c20 ?k20 ?a21 ?l21 ?c21 ?k21 ?a22 ?l22 ?c22 ?k22 ?a23 ?l23 ?c23 ?k23 ?a24 ?l24 ?c24 ?k24 ?a25 ?l25 ?c25 ?k25 ?a26 ?l26 ?c26 ?k26 ?a27 ?l27 ?c27 ?k27 ?a28 ?l28 ?c28 ?k28 ?a29 ?l29 ?c29 ?k29
    (case z_abs => k_is)
    (case z_bool => k_is)
    (case z_dict => k_is)
    (case z_int => k_is)
    (case z_isinstance => k_is)
    (case z_len => k_is)
    (case z_list => k_is)
    (case z_max => k_is)
    (case z_min => k_is)
    (case z_range => k_is)
    (case z_sorted => k_is)
    (case z_str => k_is)
    (case z_tuple => k_is)
    (case gT_ACTIONS_evaluating => k_is)
    (case lT_ACTIONS_evaluating => k_is)
    (case tT_ACTIONS_evaluating => k_keys)
    (case eT_ACTIONS_evaluating_0 => k_is)
    (case eT_ACTIONS_evaluating_1 => k_is)
    (case eT_ACTIONS_evaluating_2 => k_is)
    (case eT_ACTIONS_evaluating_3 => k_is)
    (case z_super => k_is)
    (case q_Fault => k_is)
    (case iI_Fault => k_is)
    (case tI_Fault => k_is)
    (case lI_Fault => k_is)
    (case cI_Fault => k_is)
    (case ceI_Fault => k_is)
    (case coI_Fault => k_is)
    (case vsI_Fault => rfl)
    (case fiI_Fault => first | rfl | decide +kernel)
    (case clI_Fault => k_is)
    (case sbI_Fault => k_is)
    (case opI_Fault => k_is)
    (case alI_Fault => ks_is)
    (case svI_Fault => k_is)
    (case tpI_Fault => first | rfl | decide +kernel)
    (case lD_Fault => k_is)
    (case bmR_Fault => first | rfl | decide +kernel)
    (case saD_Fault => k_is)
    (case exD_Fault => k_is)
    (case tyD_Fault => k_is)
    (case kD_Fault => k_is)
    (case m_Fault_message => k_is)
    (case ssD_Fault => first | rfl | k_is)
    (case gaD_Fault => k_is)
    (case ggD_Fault => k_is)
    (case hdD_Fault => k_is)
    (case caD_Fault => k_is)
    (case spD_Fault => k_is)
    (case tkD_Fault => k_is)
    (case mrD_Fault => k_is)
    (case q_ViewError => k_is)
    (case ki_Fault_ViewError => kit_is)
    (case ki_Fault_Fault => kit_is)
    (case vb_ViewError => k_is)
    (case vd_ViewError => k_is)
    (case vt_ViewError => k_is)
    (case vs_Fault_ViewError => first | rfl | k_is)
    (case a1 => k_is)
    (case l1 => k_is)
    (case c1 => k_is)
    (case k1 => k_is)
    (case a2 => k_is)
    (case l2 => k_is)
    (case c2 => k_is)
    (case k2 => k_is)
    (case a3 => k_is)
    (case l3 => k_is)
    (case c3 => k_is)
    (case k3 => k_is)
    (case a4 => k_is)
    (case l4 => k_is)
    (case c4 => k_is)
    (case k4 => k_is)
    (case a5 => k_is)
    (case l5 => k_is)
    (case c5 => k_is)
    (case k5 => k_is)
    (case a6 => k_is)
    (case l6 => k_is)
    (case c6 => k_is)
    (case k6 => k_is)
    (case a7 => k_is)
    (case l7 => k_is)
    (case c7 => k_is)
    (case k7 => k_is)
    (case a8 => k_is)
    (case l8 => k_is)
    (case c8 => k_is)
    (case k8 => k_is)
    (case a9 => k_is)
    (case l9 => k_is)
    (case c9 => k_is)
    (case k9 => k_is)
    (case a10 => k_is)
    (case l10 => k_is)
    (case c10 => k_is)
    (case k10 => k_is)
    (case a11 => k_is)
    (case l11 => k_is)
    (case c11 => k_is)
    (case k11 => k_is)
    (case a12 => k_is)
    (case l12 => k_is)
    (case c12 => k_is)
    (case k12 => k_is)
    (case a13 => k_is)
    (case l13 => k_is)
    (case c13 => k_is)
    (case k13 => k_is)
    (case a14 => k_is)
    (case l14 => k_is)
    (case c14 => k_is)
    (case k14 => k_is)
    (case a15 => k_is)
    (case l15 => k_is)
    (case c15 => k_is)
    (case k15 => k_is)
    (case a16 => k_is)
    (case l16 => k_is)
    (case c16 => k_is)
    (case k16 => k_is)
    (case a17 => k_is)
    (case l17 => k_is)
    (case c17 => k_is)
    (case k17 => k_is)
    (case a18 => k_is)
    (case l18 => k_is)
    (case c18 => k_is)
    (case k18 => k_is)
    (case a19 => k_is)
    (case l19 => k_is)
    (case c19 => k_is)
    (case k19 => k_is)
    (case a20 => k_is)
    (case l20 => k_is)
    (case c20 => k_is)
    (case k20 => k_is)
    (case a21 => k_is)
    (case l21 => k_is)
    (case c21 => k_is)
    (case k21 => k_is)
    (case a22 => k_is)
    (case l22 => k_is)
    (case c22 => k_is)
    (case k22 => k_is)
    (case a23 => k_is)
    (case l23 => k_is)
    (case c23 => k_is)
    (case k23 => k_is)
    (case a24 => k_is)
    (case l24 => k_is)
    (case c24 => k_is)
    (case k24 => k_is)
    (case a25 => k_is)
    (case l25 => k_is)
    (case c25 => k_is)
    (case k25 => k_is)
    (case a26 => k_is)
    (case l26 => k_is)
    (case c26 => k_is)
    (case k26 => k_is)
    (case a27 => k_is)
    (case l27 => k_is)
    (case c27 => k_is)
    (case k27 => k_is)
    (case a28 => k_is)
    (case l28 => k_is)
    (case c28 => k_is)
    (case k28 => k_is)
    (case a29 => k_is)
    (case l29 => k_is)
    (case c29 => k_is)
    (case k29 => k_is)
#print axioms PySem.Challenge.cw_viewloom_k15_places_holds
