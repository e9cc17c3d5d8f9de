import PyProof.Rows.All
import Wide.All
import OpenK.AllK
import Wide.FinOn
import HandS.ForMost
import HandS.More
import HandS.Codes
import HandS.StrMore
import HandS.Defaults
import HandS.Property
import HandS.ClsMeth
import HandS.ExcIs
import HandS.RaiseMore
import HandS.ForExc
import HandS.IsInst
import HandS.DeepEq
import HandS.Deep
import HandS.SortRule
import KE.KEqDict
import HandS.Nested
import HandS.ExcInit
import KE.KSuper
import KE.KExcSuper
import HandS.ExcField
import HandS.FStr
import KE.KExcIs
import HandS.OwnEq
import HandS.TupLe
import HandS.Wide
import KE.KOwnIter
import KE.KDictIter
import HandS.ListItems
import HandS.DictComp
import HandS.SetKeys
import HandS.SortInts
import HandS.Walk
import HandS.Ends
import PyProof.ReprRoads
import PyProof.ReprReads
import PyProof.RowDictHeap
import PyProof.DictUpdate
import PyProof.DictDisplay
import PyProof.InstEq
import KE.DataEq
import KE.KEqNest
import HandS.SetFor
import HandS.Steps
import PySem.Challenge.RW_viewloom_k45_timers
set_option Elab.async false
set_option linter.all false
set_option maxRecDepth 100000
set_option maxHeartbeats 4000000
namespace VL
open PySem PySem.Spec PyProof.Rows L2

/-! ### defs, methods, classes, as callers see them -/
structure Cal (P : Program) (w : World) (K : PySem.W.Frag) (mg : Str → Option Value) (base : Heap) (k : Nat) (x : Str) (sp : Sp) : Prop where
  ex : ∃ (f : Addr) (fd : FuncData) (ps : List Str), FnOk P w K mg base CX0 k f fd ps sp ∧ mg x = some (.ref f) ∧ PySem.W.keepIn K (.ref f) = true ∧ Binds K fd ps []
structure Met (P : Program) (w : World) (K : PySem.W.Frag) (mg : Str → Option Value) (base : Heap) (k : Nat) (C : Addr) (m : Str) (sp : Sp) : Prop where
  ex : ∃ (f : Addr) (fd : FuncData) (ps : List Str), Cls K C ∧ Meth K C m f ∧ FnOk P w K mg base CX0 k f fd ps sp ∧ Binds K fd ps []
structure Mak (P : Program) (w : World) (K : PySem.W.Frag) (mg : Str → Option Value) (base : Heap) (k : Nat) (x : Str) (C : Addr) (sp : Sp) : Prop where
  ex : ∃ (f : Addr) (fd : FuncData) (ps : List Str), Mk K C f ∧ FnOk P w K mg base CX0 k f fd ps sp ∧ mg x = some (.ref C) ∧ Binds K fd ps []
section
variable {X : Cx} {k j : Nat} {C : Addr} {x m : Str} {sp : Sp} {p pos apos : Pos} {e o : Expr} {es : List Expr} {ta : TE} {t : TA}
theorem pe_c (c : Cal X.prog X.w X.K X.mg X.base k x sp) (hr : Room j X.A) (hk : k ≤ j) (hg : Gl X x) (ha : PA X (e :: es) t)
    (hdb : (x == ("__debug__" : Str)) = false := by decide) (he : starEach (e :: es) X.env = (false, eval e X.env) :: starEach es X.env := by rfl) (hpl : (backTo pos (starEach es X.env)).any (·.1) = false := by rfl) :
    PE X (.Call (.Name x p) (e :: es) [] pos) (tCall sp [] E0 t) := by
  obtain ⟨f, fd, ps, F, hm, kp, b⟩ := c.ex
  exact pe_call F (hr.mono hk) hg hm kp b .nil pass0 ha hdb he hpl
theorem pe_mk (c : Mak X.prog X.w X.K X.mg X.base k x C sp) (hr : Room j X.A) (hk : k + 1 ≤ j) (hg : Gl X x) (ha : PA X (e :: es) t)
    (hdb : (x == ("__debug__" : Str)) = false := by decide) (he : starEach (e :: es) X.env = (false, eval e X.env) :: starEach es X.env := by rfl) (hpl : (backTo pos (starEach es X.env)).any (·.1) = false := by rfl) :
    PE X (.Call (.Name x p) (e :: es) [] pos) (tMake C sp [] E0 t) := by
  obtain ⟨f, fd, ps, M, F, hm, b⟩ := c.ex
  exact pe_make M F (hr.mono hk) hg hm b .nil pass0 ha hdb he hpl
theorem pe_mk0 (c : Mak X.prog X.w X.K X.mg X.base k x C sp) (hr : Room j X.A) (hk : k + 1 ≤ j) (hg : Gl X x) (hdb : (x == ("__debug__" : Str)) = false := by decide) :
    PE X (.Call (.Name x p) [] [] pos) (tMake C sp [] E0 tNil) := by
  obtain ⟨f, fd, ps, M, F, hm, b⟩ := c.ex
  exact pe_make0 M F (hr.mono hk) hg hm b .nil pass0 hdb
theorem pe_mt {pl : Sem Bool} (c : Met X.prog X.w X.K X.mg X.base k C m sp) (hr : Room j X.A) (hk : k ≤ j) (he : PE X o ta) (ha : PA X (e :: es) t)
    (hst : starEach (e :: es) X.env = (false, eval e X.env) :: starEach es X.env := by rfl) (hpl : (backTo pos (starEach es X.env)).any (·.1) = false := by rfl)
    (ht : eval (.Call (.Attribute o m apos) (e :: es) [] pos) X.env = (do
      let ov ← eval o X.env
      standAt apos.atName
      let (f, first) ← holding [ov] (getMethod ov m pl)
      callWith pos f first (backTo pos (starEach (e :: es) X.env)) (backToKw pos (keywordEach [] X.env))) := by rfl) :
    PE X (.Call (.Attribute o m apos) (e :: es) [] pos) (tMeth C m sp [] E0 ta t) := by
  obtain ⟨f, fd, ps, hc, hm, F, b⟩ := c.ex
  exact pe_meth (pl := pl) he hc hm F (hr.mono hk) b .nil pass0 ha hst hpl ht
theorem pe_mt0 {pl : Sem Bool} (c : Met X.prog X.w X.K X.mg X.base k C m sp) (hr : Room j X.A) (hk : k ≤ j) (he : PE X o ta)
    (ht : eval (.Call (.Attribute o m apos) [] [] pos) X.env = (do
      let ov ← eval o X.env
      standAt apos.atName
      let (f, first) ← holding [ov] (getMethod ov m pl)
      callWith pos f first (backTo pos (starEach [] X.env)) (backToKw pos (keywordEach [] X.env))) := by rfl) :
    PE X (.Call (.Attribute o m apos) [] [] pos) (tMeth C m sp [] E0 ta tNil) := by
  obtain ⟨f, fd, ps, hc, hm, F, b⟩ := c.ex
  exact pe_meth0 (pl := pl) he hc hm F (hr.mono hk) b .nil pass0 ht
end

/-! ### what the text has -/
def DefE (K : PySem.W.Frag) (mg : Str → Option Value) (x : Str) (st : Stmt) (ps : List Str) : Prop := ∃ (f : Addr) (fd : FuncData), Fun K x x st f fd ∧ mg x = some (.ref f) ∧ Binds K fd ps []
def MethE (K : PySem.W.Frag) (C : Addr) (x qual : Str) (st : Stmt) (ps : List Str) : Prop := ∃ (f : Addr) (fd : FuncData), Fun K x qual st f fd ∧ Meth K C x f ∧ Binds K fd ps []
def InitE (K : PySem.W.Frag) (mg : Str → Option Value) (cn : Str) (C : Addr) (qual : Str) (st : Stmt) (ps : List Str) : Prop := ∃ (f : Addr) (fd : FuncData), Fun K "__init__" qual st f fd ∧ Mk K C f ∧ mg cn = some (.ref C) ∧ Binds K fd ps []
/-- a global name of the module has the value v -/
abbrev GV (mg : Str → Option Value) (x : Str) (v : V) : Prop := ∃ u, mg x = some u ∧ RelV v u
section
variable {P : Program} {w : World} {K : PySem.W.Frag} {mg : Str → Option Value} {base : Heap}
theorem cal_of {x : Str} {st : Stmt} {ps N : List Str} {k : Nat} {sp : Sp} (D : DefE K mg x st ps) (S : FnScope N ps (defScope st)) (len : ∀ vs H Q E, sp vs H Q E → vs.length = ps.length)
    (hbody : ∀ (f : Addr) (cdv : Value) (A : Around) (outer : List Env) (s : Shared) (H : Hp) (vs : List V) (Q : VK) (E : XK), Room k (A.deeper (envOfC x (defScope st) s.heap.objs.size f cdv)) → sp vs H Q E →
      ∃ t, PSs (cxOf CX0 P w K mg base N x (defScope st) f cdv A outer s H E).nox (defBody st) t ∧ t { nx := fun _ H' => Q .non H', rt := Q } (start N vs) H) : Cal P w K mg base (k + 1) x sp := by
  obtain ⟨f, fd, F, hm, b⟩ := D
  exact ⟨f, fd, ps, F.ok S len (hbody f), hm, F.kp, b⟩
theorem met_of {C : Addr} {x qual : Str} {st : Stmt} {ps N : List Str} {k : Nat} {sp : Sp} (D : MethE K C x qual st ps) (c : Cls K C) (S : FnScope N ps (defScope st)) (len : ∀ vs H Q E, sp vs H Q E → vs.length = ps.length)
    (hbody : ∀ (f : Addr) (cdv : Value) (A : Around) (outer : List Env) (s : Shared) (H : Hp) (vs : List V) (Q : VK) (E : XK), Room k (A.deeper (envOfC qual (defScope st) s.heap.objs.size f cdv)) → sp vs H Q E →
      ∃ t, PSs (cxOf CX0 P w K mg base N qual (defScope st) f cdv A outer s H E).nox (defBody st) t ∧ t { nx := fun _ H' => Q .non H', rt := Q } (start N vs) H) : Met P w K mg base (k + 1) C x sp := by
  obtain ⟨f, fd, F, hm, b⟩ := D
  exact ⟨f, fd, ps, c, hm, F.ok S len (hbody f), b⟩
theorem mak_of {C : Addr} {cn qual : Str} {st : Stmt} {ps N : List Str} {k : Nat} {sp : Sp} (D : InitE K mg cn C qual st ps) (S : FnScope N ps (defScope st)) (len : ∀ vs H Q E, sp vs H Q E → vs.length = ps.length)
    (hbody : ∀ (f : Addr) (cdv : Value) (A : Around) (outer : List Env) (s : Shared) (H : Hp) (vs : List V) (Q : VK) (E : XK), Room k (A.deeper (envOfC qual (defScope st) s.heap.objs.size f cdv)) → sp vs H Q E →
      ∃ t, PSs (cxOf CX0 P w K mg base N qual (defScope st) f cdv A outer s H E).nox (defBody st) t ∧ t { nx := fun _ H' => Q .non H', rt := Q } (start N vs) H) : Mak P w K mg base (k + 1) cn C sp := by
  obtain ⟨f, fd, F, M, hm, b⟩ := D
  exact ⟨f, fd, ps, M, F.ok S len (hbody f), hm, b⟩
end
theorem ps_str_loc : True := trivial
end VL

set_option Elab.async false
set_option linter.all false
set_option maxRecDepth 100000
set_option maxHeartbeats 4000000
namespace VL
open PySem PySem.Spec PyProof.Rows L2

/-! ### texts as lists of signs -/
abbrev TX (l : List Nat) : Str := ⟨l.toArray⟩
theorem TX_tl (l : List Nat) : (TX l).cps.toList = l := by simp
theorem TX_len (l : List Nat) : (TX l).length = l.length := by simp [Str.length]
theorem TX_cat (a b : List Nat) : TX a ++ TX b = TX (a ++ b) := SX.S_cat a b
theorem TX_inj {a b : List Nat} (h : TX a = TX b) : a = b := SX.S_inj h
theorem vstr_TX {a b : List Nat} : decide (V.str (TX a) = V.str (TX b)) = decide (a = b) := by
  by_cases e : a = b
  · subst e; simp
  · have : ¬ V.str (TX a) = V.str (TX b) := fun q => e (TX_inj (V.str.inj q))
    rw [decide_eq_false this, decide_eq_false e]
theorem one_eq {c d : Nat} : decide (V.str (TX [c]) = V.str (TX [d])) = decide (c = d) := by
  rw [vstr_TX]
  by_cases e : c = d
  · subst e; simp
  · simp [e]
/-- the sign at a place -/
theorem at_mid {pre r : List Nat} {c : Nat} {i : Int} (hi : i = (pre.length : Int)) : atI (TX (pre ++ c :: r)).cps.toList i = some c := by
  subst hi
  rw [TX_tl]
  unfold atI ixN
  rw [if_pos (by omega), if_pos (by simp; omega)]
  show (pre ++ c :: r)[(pre.length : Int).toNat]? = _
  rw [Int.toNat_natCast]
  simp
theorem getD_TX (l : List Nat) (v : Nat) : (TX l).cps.getD v 0 = l.getD v 0 := by
  simp only [Array.getD, List.getD_eq_getElem?_getD]
  by_cases h : v < l.length
  · rw [dif_pos (by simpa using h)]
    simp [h]
  · rw [dif_neg (by simpa using h), List.getElem?_eq_none (by omega)]
    rfl
theorem lt_one {c d : Nat} : ([c] < [d]) ↔ c < d := by
  constructor
  · intro h
    cases h with
    | rel h => exact h
    | cons h => cases h
  · intro h
    exact .rel h
/-- s.startswith(y, i) -/
theorem starts_at {pre R y : List Nat} {i : Int} (hi : i = (pre.length : Int)) : Txt.startswith3 (TX (pre ++ R)) (TX y) i = (R.take y.length == y) := by
  subst hi
  have e : fromIndex (TX (pre ++ R)).length (pre.length : Int) = pre.length := by
    unfold fromIndex
    rw [if_neg (by omega)]
    omega
  unfold Txt.startswith3
  rw [e, StrLaws.subAt_eq]
  have h1 : (TX (pre ++ R)).cps.toList.drop pre.length = R := by simp
  rw [h1, TX_len, TX_len]
  show (decide (pre.length + y.length ≤ (pre ++ R).length) && (R.take y.length == (TX y).cps.toList)) = _
  rw [TX_tl, List.length_append]
  by_cases h : y.length ≤ R.length
  · rw [decide_eq_true (by omega)]
    rfl
  · rw [decide_eq_false (by omega)]
    have : (R.take y.length == y) = false := by
      refine beq_eq_false_iff_ne.mpr fun q => h ?_
      have := congrArg List.length q
      rw [List.length_take] at this
      omega
    rw [this]
    rfl
/-- s.find("\n", i) -/
theorem find_nl {pre c r : List Nat} {d : Nat} {i : Int} (hi : i = (pre.length : Int)) (hc : d ∉ c) : Txt.find3 (TX (pre ++ (c ++ d :: r))) (TX [d]) i = ((pre.length + c.length : Nat) : Int) := by
  subst hi
  have e : fromIndex (TX (pre ++ (c ++ d :: r))).length (pre.length : Int) = pre.length := by
    unfold fromIndex
    rw [if_neg (by omega)]
    omega
  have hg : ∀ v, v < (pre ++ (c ++ d :: r)).length → (TX (pre ++ (c ++ d :: r))).cps.getD v 0 = (pre ++ (c ++ d :: r)).getD v 0 := fun v _ => getD_TX _ v
  have hat : (pre ++ (c ++ d :: r)).getD (pre.length + c.length) 0 = d := by simp [List.getD_eq_getElem?_getD]
  have hlt : pre.length + c.length < (pre ++ (c ++ d :: r)).length := by rw [List.length_append, List.length_append, List.length_cons]; omega
  rcases StrLaws.find3_spec (TX (pre ++ (c ++ d :: r))) d (pre.length : Int) with ⟨_, h2⟩ | ⟨k, h1, h2, h3, h4, h5⟩
  · rw [e, TX_len] at h2
    exact absurd (by rw [hg _ hlt]; exact hat) (h2 (pre.length + c.length) (by omega) hlt)
  · rw [e] at h2 h5
    rw [TX_len] at h3
    rw [h1]
    have hk : k = pre.length + c.length := by
      rcases Nat.lt_trichotomy k (pre.length + c.length) with q | q | q
      · exfalso
        rw [hg k h3] at h4
        have e3 : (pre ++ (c ++ d :: r)).getD k 0 = c.getD (k - pre.length) 0 := by
          rw [List.getD_eq_getElem?_getD, List.getD_eq_getElem?_getD, List.getElem?_append_right h2, List.getElem?_append_left (by omega)]
        rw [e3] at h4
        apply hc
        have hlt2 : k - pre.length < c.length := by omega
        rw [List.getD_eq_getElem?_getD, List.getElem?_eq_getElem hlt2] at h4
        have h4 : c[k - pre.length] = d := h4
        rw [← h4]
        exact List.getElem_mem hlt2
      · exact q
      · exfalso
        exact h5 (pre.length + c.length) (by omega) q (by rw [hg _ hlt]; exact hat)
    rw [hk]
/-- s[i:j] -/
theorem cut_mid {pre m r : List Nat} {i j : Int} (hi : i = (pre.length : Int)) (hj : j = ((pre.length + m.length : Nat) : Int)) : cutS (TX (pre ++ (m ++ r))) (some i) (some j) = TX m := by
  subst hi hj
  unfold cutS
  rw [TX_len, HT.sIx_nat, HT.sIx_nat, TX_tl]
  have e1 : min pre.length (pre ++ (m ++ r)).length = pre.length := by simp
  have e2 : min (pre.length + m.length) (pre ++ (m ++ r)).length = pre.length + m.length := by simp
  rw [e1, e2]
  refine congrArg TX ?_
  rw [List.drop_left, Nat.add_sub_cancel_left, List.take_left]

/-! ### rows -/
def rws : List Nat → List Nat → List (List Nat)
  | acc, [] => [acc]
  | acc, c :: r => if c = 10 then acc :: rws [] r else rws (acc ++ [c]) r
theorem spl_rws : ∀ (l acc : List Nat), TL.spl [10] 0 acc l = rws acc l
  | [], acc => by rw [TL.spl_nil]; rfl
  | c :: r, acc => by
    unfold rws
    by_cases h : c = 10
    · subst h
      rw [if_pos rfl, TL.spl_hit (by rfl)]
      exact congrArg (acc :: ·) (spl_rws r [])
    · rw [if_neg h, TL.spl_miss (by
        show TL.pre [10] (c :: r) = false
        unfold TL.pre
        simp [h])]
      exact spl_rws r _
theorem rws_ne : ∀ (l acc : List Nat), rws acc l ≠ []
  | [], acc => by unfold rws; simp
  | c :: r, acc => by
    unfold rws
    split
    · simp
    · exact rws_ne r _
def lnOf (l : List Nat) : Nat := (rws [] l).length
def clOf (l : List Nat) : Nat := ((rws [] l).getLast (rws_ne _ _)).length
theorem rws_plain : ∀ (l acc m : List Nat), 10 ∉ m → ∃ fr la, rws acc l = fr ++ [la] ∧ rws acc (l ++ m) = fr ++ [la ++ m]
  | [], acc, m, h => by
    refine ⟨[], acc, rfl, ?_⟩
    show rws acc m = [acc ++ m]
    induction m generalizing acc with
    | nil => rw [List.append_nil]; rfl
    | cons c m ih =>
      have hc : c ≠ 10 := fun e => h (by rw [e]; exact List.mem_cons_self)
      unfold rws
      rw [if_neg hc, ih _ fun e => h (List.mem_cons_of_mem _ e), List.append_assoc]
      rfl
  | c :: r, acc, m, h => by
    rw [List.cons_append]
    unfold rws
    by_cases hc : c = 10
    · rw [if_pos hc, if_pos hc]
      obtain ⟨fr, la, e1, e2⟩ := rws_plain r [] m h
      exact ⟨acc :: fr, la, by rw [e1]; rfl, by rw [e2]; rfl⟩
    · rw [if_neg hc, if_neg hc]
      exact rws_plain r _ m h
theorem rws_nl : ∀ (l acc : List Nat), rws acc (l ++ [10]) = rws acc l ++ [[]]
  | [], acc => by
    show rws acc [10] = [acc] ++ [[]]
    unfold rws
    rw [if_pos rfl]
    rfl
  | c :: r, acc => by
    rw [List.cons_append]
    unfold rws
    split
    · rw [rws_nl r []]; rfl
    · exact rws_nl r _
theorem getLast_of {α : Type} {l fr : List α} {la : α} (h : l ≠ []) (e : l = fr ++ [la]) : l.getLast h = la := by
  subst e
  simp
theorem ln_plain (l m : List Nat) (h : 10 ∉ m) : lnOf (l ++ m) = lnOf l := by
  obtain ⟨fr, la, e1, e2⟩ := rws_plain l [] m h
  unfold lnOf
  rw [e1, e2]
  simp
theorem cl_plain (l m : List Nat) (h : 10 ∉ m) : clOf (l ++ m) = clOf l + m.length := by
  obtain ⟨fr, la, e1, e2⟩ := rws_plain l [] m h
  unfold clOf
  rw [getLast_of _ e1, getLast_of _ e2, List.length_append]
theorem ln_nl (l : List Nat) : lnOf (l ++ [10]) = lnOf l + 1 := by
  unfold lnOf
  rw [rws_nl]
  simp
theorem cl_nl (l : List Nat) : clOf (l ++ [10]) = 0 := by
  unfold clOf
  rw [getLast_of _ (rws_nl l [])]
  rfl
theorem cl_le : ∀ l : List Nat, clOf l ≤ l.length := by
  intro l
  have : ∀ (l acc : List Nat), ((rws acc l).getLast (rws_ne _ _)).length ≤ acc.length + l.length := by
    intro l
    induction l with
    | nil => intro acc; simp [rws]
    | cons c r ih =>
      intro acc
      by_cases hc : c = 10
      · have e : rws acc (c :: r) = acc :: rws [] r := by
          show (if c = 10 then _ else _) = _
          rw [if_pos hc]
        have e2 : (rws acc (c :: r)).getLast (rws_ne _ _) = (rws [] r).getLast (rws_ne _ _) := by
          simp only [e]
          exact List.getLast_cons (rws_ne _ _)
        rw [e2]
        have := ih []
        simp at this ⊢
        omega
      · have e : rws acc (c :: r) = rws (acc ++ [c]) r := by
          show (if c = 10 then _ else _) = _
          rw [if_neg hc]
        have e2 : (rws acc (c :: r)).getLast (rws_ne _ _) = (rws (acc ++ [c]) r).getLast (rws_ne _ _) := by simp only [e]
        rw [e2]
        have := ih (acc ++ [c])
        simp at this ⊢
        omega
  have := this l []
  simpa [clOf] using this
/-- row = source.split("\n"): how many, and the last one's length -/
theorem split_rows (l : List Nat) : Txt.split (TX l) (TX [10]) = (rws [] l).map TX := by
  have := SX.split_S (a := l) (b := [10]) (by simp) (by decide)
  rw [spl_rws] at this
  exact this
theorem rows_last (l : List Nat) : ∃ la : List Nat, atI ((rws [] l).map fun r => V.str (TX r)) (-1) = some (.str (TX la)) ∧ la.length = clOf l := by
  refine ⟨(rws [] l).getLast (rws_ne _ _), ?_, rfl⟩
  have hp : 0 < (rws [] l).length := List.length_pos_iff.mpr (rws_ne _ _)
  unfold atI ixN
  rw [if_neg (by decide), if_pos (by rw [List.length_map]; omega)]
  show ((rws [] l).map fun r => V.str (TX r))[_]? = _
  have e : (-1 + (((rws [] l).map fun r => V.str (TX r)).length : Int)).toNat = (rws [] l).length - 1 := by rw [List.length_map]; omega
  rw [e, List.getElem?_map, List.getElem?_eq_getElem (by omega), List.getLast_eq_getElem]
  rfl

/-! ### signs -/
def isLet (c : Nat) : Bool := (decide (97 ≤ c) && decide (c ≤ 122)) || (decide (65 ≤ c) && decide (c ≤ 90))
def isDig (c : Nat) : Bool := decide (48 ≤ c) && decide (c ≤ 57)
def isWs (c : Nat) : Bool := isLet c || isDig c || decide (c = 95)
end VL

set_option Elab.async false
set_option linter.all false
set_option maxRecDepth 100000
set_option maxHeartbeats 4000000
namespace VL
open PySem PySem.Spec PyProof.Rows L2

/-! ### what the text has: methods with keyword-only parameters, properties, written tuples, own exceptions without a text of their own -/
def WrT (K : PySem.W.Frag) (a : Addr) (xs : List V) : Prop := ∃ (o : Obj) (its : Array Value) (n : Nat), K.lookup a = some o ∧ o.cls = .type "tuple" ∧ o.data = .seq its n ∧ its.size ≤ sizeLine ∧ Vals xs its.toList ∧ o.dict = none
abbrev catG {α : Type} (us ws : List α) : List α := us ++ ws
def MethKE (K : PySem.W.Frag) (C : Addr) (x qual : Str) (st : Stmt) (ps : List Str) (n : Nat) (ks : List Str) : Prop :=
  ∃ (f : Addr) (fd : FuncData), Fun K x qual st f fd ∧ Meth K C x f ∧ KBn K fd ps n ks catG catG
def PropE (K : PySem.W.Frag) (C : Addr) (x qual : Str) (st : Stmt) : Prop := ∃ (p g : Addr) (fd : FuncData), PropOf K C x p g ∧ Fun K x qual st g fd ∧ Binds K fd ["self"] []
structure ExT (K : PySem.W.Frag) (mg : Str → Option Value) (x : Str) (D : Addr) : Prop where
  g : mg x = some (.ref D)
  xx : PySem.W.excIn K D [.type "ValueError", .type "Exception", .type "BaseException", .type "object"] "ValueError.__new__" = true
  kp : PySem.W.keepIn K (.ref D) = true
  bP : PySem.W.subIn K (.ref D) (.type "BaseException") = some true
  tP : PySem.W.typeIn K (.ref D) = some (.type "type")
  em : PySem.W.exmOne K (.ref D) (.ref D) = some true
  ec : ExcC K D
theorem fun_kbn {K : PySem.W.Frag} {x qual : Str} {st : Stmt} {f : Addr} {fd : FuncData} {ps : List Str} (F : Fun K x qual st f fd) (n : Nat) (ks : List Str)
    (h : ∀ (kV doc pm : Value) (an : Option Addr) (cdv ct : Value) (us ws : List Value), us.length = n → ws.length = ks.length → bindArgs (PySem.W.fnOf x qual (defArgs st) (defBody st) (defScope st) .none kV doc pm an cdv ct) ⟨us, ks.zip ws⟩ = pure (ps.zip (us ++ ws))) :
    KBn K fd ps n ks catG catG := by
  obtain ⟨oc, od, kV, doc, pm, an, cdv, ct, osl, rfl, lk, hcd⟩ := F.ex
  exact ⟨fun s us ws X l1 l2 => .of_eq (h kV doc pm an cdv ct us ws l1 l2), fun r1 r2 => r1.append r2⟩
/-! ### as callers see them -/
structure MetK (P : Program) (w : World) (K : PySem.W.Frag) (mg : Str → Option Value) (base : Heap) (k : Nat) (C : Addr) (m : Str) (sp : Sp) (n : Nat) (ks : List Str) (gV : List V → List V → List V) : Prop where
  ex : ∃ (f : Addr) (fd : FuncData) (ps : List Str) (g : List Value → List Value → List Value), Cls K C ∧ Meth K C m f ∧ FnOk P w K mg base CX0 k f fd ps sp ∧ KBn K fd ps n ks g gV
structure Pro (P : Program) (w : World) (K : PySem.W.Frag) (mg : Str → Option Value) (base : Heap) (k : Nat) (C : Addr) (x : Str) (sp : Sp) : Prop where
  ex : ∃ (p g : Addr) (fd : FuncData), Cls K C ∧ PropOf K C x p g ∧ FnOk P w K mg base CX0 k g fd ["self"] sp ∧ Binds K fd ["self"] []
/-- o.m(.., k = v, ..): n is one more than the values written -/
def tMethK (C : Addr) (m : Str) (sp : Sp) (n kn : Nat) (gV : List V → List V → List V) (ta : TE) (t tk : TA) : TE := fun σ H Q => ta σ H fun x H1 => ∃ a dx fs, x = .ref a ∧ H1 a = some (.ins C dx fs) ∧ fs.lookup m = none ∧ t σ H1 fun vs H2 => tk σ H2 fun zs H3 => vs.length + 1 = n ∧ zs.length = kn ∧ sp (gV (.ref a :: vs) zs) H3 Q E0
section
variable {X : Cx} {k j n : Nat} {C : Addr} {m x : Str} {ks : List Str} {sp : Sp} {pos apos : Pos} {e o : Expr} {es : List Expr} {kws : List Keyword} {ta : TE} {t tk : TA} {gV : List V → List V → List V}
theorem pe_mtK {pl : Sem Bool} (c : MetK X.prog X.w X.K X.mg X.base k C m sp n ks gV) (hr : Room j X.A) (hk : k ≤ j) (he : PE X o ta) (ha : PA X (e :: es) t) (hkw : PK X kws tk)
    (hall : (backToKw pos (keywordEach kws X.env)).all (·.1.isSome) = true := by rfl) (hks : (backToKw pos (keywordEach kws X.env)).filterMap (·.1) = ks := by rfl)
    (hst : starEach (e :: es) X.env = (false, eval e X.env) :: starEach es X.env := by rfl)
    (hpl : ((backTo pos (starEach (e :: es) X.env)).any (·.1) || (backToKw pos (keywordEach kws X.env)).any (·.1.isNone)) = false := by rfl)
    (ht : eval (.Call (.Attribute o m apos) (e :: es) kws pos) X.env = (do
      let ov ← eval o X.env
      standAt apos.atName
      let (f, first) ← holding [ov] (getMethod ov m pl)
      callWith pos f first (backTo pos (starEach (e :: es) X.env)) (backToKw pos (keywordEach kws X.env))) := by rfl) :
    PE X (.Call (.Attribute o m apos) (e :: es) kws pos) (tMethK C m sp n ks.length gV ta t tk) := by
  obtain ⟨f, fd, ps, g, hc, hm, F, b⟩ := c.ex
  refine ⟨fun pins s σ H Q I h => ?_⟩
  refine PySem.W.methodCall_KW (pl := pl) (thn (he.run pins s σ H _ I h) fun u s1 ⟨x, H1, I1, rx, a, dx, fs, ex, ea, l, q⟩ => ?_) ht
  subst ex
  obtain rfl : u = Value.ref a := rx
  refine getmeth_ok I1 ea hc hm l ?_
  refine PySem.W.callWith_KW (first := [.ref a]) (h₀ := X.base) I.ok.mod.kin hm.kp hall (thn (ha.run pos pins s1 σ H1 _ I1 q) fun us s2 ⟨vs, H2, I2, r, q2⟩ => ?_) hpl hst
  refine thn (hkw.run pos pins s2 σ H2 _ I2 q2) fun ws s3 ⟨zs, H3, I3, rz, l1, l2, q3⟩ => ⟨I3.kIn, ?_⟩
  rw [hks]
  exact run_fnN (us := .ref a :: us) (vs := .ref a :: vs) F (hr.mono hk) b pass0 I3 (.cons rfl r) rz l1 l2 q3
theorem pe_mtK0 {pl : Sem Bool} (c : MetK X.prog X.w X.K X.mg X.base k C m sp n ks gV) (hr : Room j X.A) (hk : k ≤ j) (he : PE X o ta) (hkw : PK X kws tk)
    (hall : (backToKw pos (keywordEach kws X.env)).all (·.1.isSome) = true := by rfl) (hks : (backToKw pos (keywordEach kws X.env)).filterMap (·.1) = ks := by rfl)
    (hpl : ((backTo pos (starEach [] X.env)).any (·.1) || (backToKw pos (keywordEach kws X.env)).any (·.1.isNone)) = false := by rfl)
    (ht : eval (.Call (.Attribute o m apos) [] kws pos) X.env = (do
      let ov ← eval o X.env
      standAt apos.atName
      let (f, first) ← holding [ov] (getMethod ov m pl)
      callWith pos f first (backTo pos (starEach [] X.env)) (backToKw pos (keywordEach kws X.env))) := by rfl) :
    PE X (.Call (.Attribute o m apos) [] kws pos) (tMethK C m sp n ks.length gV ta tNil tk) := by
  obtain ⟨f, fd, ps, g, hc, hm, F, b⟩ := c.ex
  refine ⟨fun pins s σ H Q I h => ?_⟩
  refine PySem.W.methodCall_KW (pl := pl) (thn (he.run pins s σ H _ I h) fun u s1 ⟨x, H1, I1, rx, a, dx, fs, ex, ea, l, q⟩ => ?_) ht
  subst ex
  obtain rfl : u = Value.ref a := rx
  refine getmeth_ok I1 ea hc hm l ?_
  refine PySem.W.callWith_KW0 (first := [.ref a]) (h₀ := X.base) I.ok.mod.kin hm.kp hall ?_ hpl
  refine thn (hkw.run pos pins s1 σ H1 _ I1 q) fun ws s3 ⟨zs, H3, I3, rz, l1, l2, q3⟩ => ⟨I3.kIn, ?_⟩
  rw [hks]
  exact run_fnN (us := [.ref a]) (vs := [.ref a]) F (hr.mono hk) b pass0 I3 (.cons rfl .nil) rz l1 l2 q3
theorem pe_pr (c : Pro X.prog X.w X.K X.mg X.base k C x sp) (hr : Room j X.A) (hk : k + 1 ≤ j) (he : PE X e ta) (hab : attributeBase e x X.env (eval e X.env) = eval e X.env := by rfl) : PE X (.Attribute e x pos) (tProp C sp [] E0 ta) := by
  obtain ⟨p, g, fd, hc, hp, F, b⟩ := c.ex
  exact pe_prop he hc hp F (hr.mono hk) b .nil pass0 hab
end
section
variable {P : Program} {w : World} {K : PySem.W.Frag} {mg : Str → Option Value} {base : Heap}
theorem metK_of {C : Addr} {x qual : Str} {st : Stmt} {ps ks N : List Str} {k n : Nat} {sp : Sp} (D : MethKE K C x qual st ps n ks) (c : Cls K C) (S : FnScope N ps (defScope st)) (len : ∀ vs H Q E, sp vs H Q E → vs.length = ps.length)
    (hbody : ∀ (f : Addr) (cdv : Value) (A : Around) (outer : List Env) (s : Shared) (H : Hp) (vs : List V) (Q : VK) (E : XK), Room k (A.deeper (envOfC qual (defScope st) s.heap.objs.size f cdv)) → sp vs H Q E →
      ∃ t, PSs (cxOf CX0 P w K mg base N qual (defScope st) f cdv A outer s H E).nox (defBody st) t ∧ t { nx := fun _ H' => Q .non H', rt := Q } (start N vs) H) : MetK P w K mg base (k + 1) C x sp n ks catG := by
  obtain ⟨f, fd, F, hm, b⟩ := D
  exact ⟨f, fd, ps, _, c, hm, F.ok S len (hbody f), b⟩
theorem pro_of {C : Addr} {x qual : Str} {st : Stmt} {N : List Str} {k : Nat} {sp : Sp} (D : PropE K C x qual st) (c : Cls K C) (S : FnScope N ["self"] (defScope st)) (len : ∀ vs H Q E, sp vs H Q E → vs.length = 1)
    (hbody : ∀ (f : Addr) (cdv : Value) (A : Around) (outer : List Env) (s : Shared) (H : Hp) (vs : List V) (Q : VK) (E : XK), Room k (A.deeper (envOfC qual (defScope st) s.heap.objs.size f cdv)) → sp vs H Q E →
      ∃ t, PSs (cxOf CX0 P w K mg base N qual (defScope st) f cdv A outer s H E).nox (defBody st) t ∧ t { nx := fun _ H' => Q .non H', rt := Q } (start N vs) H) : Pro P w K mg base (k + 1) C x sp := by
  obtain ⟨p, g, fd, hp, F, b⟩ := D
  exact ⟨p, g, fd, c, hp, F.ok S len (hbody g), b⟩
end
end VL

set_option Elab.async false
set_option linter.all false
set_option maxRecDepth 100000
set_option maxHeartbeats 4000000
namespace VL
open PySem PySem.Spec PyProof.Rows L2
/-! ### rules whose readings speak of K, with K told: within comprehensions and except suites -/
theorem u65 {A : Around} {k : Nat} (r : Room k A) : A.units + 65 < cLine := by have := r.un; omega
section
variable {X : Cx} {K : PySem.W.Frag} {e o : Expr} {f : Str} {pos : Pos} {ta : TE}
theorem pe_fldS (hK : X.K = K) (he : PE X e ta) (hb : attributeBase e f X.env (eval e X.env) = eval e X.env) : PE X (.Attribute e f pos) (tFld K ta f) := by subst hK; exact pe_fld he hb
theorem pe_conS (hK : X.K = K) (he : PE X e ta) (hb : attributeBase e f X.env (eval e X.env) = eval e X.env) : PE X (.Attribute e f pos) (tCon K ta f) := by subst hK; exact pe_con he hb
theorem pe_cvalS (hK : X.K = K) (he : PE X e ta) (hb : attributeBase e f X.env (eval e X.env) = eval e X.env := by rfl) : PE X (.Attribute e f pos) (ClX.tCVal K ta f) := by subst hK; exact ClX.pe_cval he hb
theorem ix_listS (hK : X.K = K) : IxR X (rIxL K) := by subst hK; exact ix_list
theorem ix_tupS (hK : X.K = K) : IxR X (rIxT K) := by subst hK; exact ix_tup
theorem sl_listS (hK : X.K = K) : SlR X (rSlL K) := by subst hK; exact sl_list
theorem sl_tupS (hK : X.K = K) : SlR X (rSlT K) := by subst hK; exact sl_tup
theorem op_in_seqS (hK : X.K = K) : OpR X (compareOp .In) (rIn K false) := by subst hK; exact op_in_seq
theorem op_notIn_seqS (hK : X.K = K) : OpR X (compareOp .NotIn) (rIn K true) := by subst hK; exact op_notIn_seq
theorem call_len_seqS (hK : X.K = K) : CallR X (.builtin "len") (fun xs H Q => ∃ p ys, xs = [.ref p] ∧ (SqL K H p ys ∨ SqT K H p ys) ∧ Q (.int ys.length) H) := by subst hK; exact call_len_seq
theorem call_list_ofS (hK : X.K = K) : CallR X (.type "list") (fun xs H Q => ∃ p ys, xs = [.ref p] ∧ (SqL K H p ys ∨ SqT K H p ys) ∧ ∀ l, H l = none → Q (.ref l) (upd H l (.lst ys))) := by subst hK; exact call_list_of
theorem call_isiS (hK : X.K = K) : CallR X (.builtin "isinstance") (rIsi K) := by subst hK; exact call_isi
theorem op_eqDS (hK : X.K = K) (hu : X.A.units + 64 < cLine) : OpR X (compareOp .Eq) (rEqD K) := by subst hK; exact op_eqD hu
theorem op_neDS (hK : X.K = K) (hu : X.A.units + 64 < cLine) : OpR X (compareOp .NotEq) (rNeD K) := by subst hK; exact op_neD hu
theorem cr_maxS (hK : X.K = K) (hc : X.calm = true) : CallR X (.builtin "max") (rMax K) := by subst hK; exact cr_max hc
theorem cr_minS (hK : X.K = K) (hc : X.calm = true) : CallR X (.builtin "min") (rMin K) := by subst hK; exact cr_min hc
theorem op_inDS (hK : X.K = K) (hu : X.A.units + 65 < cLine) : OpR X (compareOp .In) (rInD K) := by subst hK; exact op_inD hu
theorem pt_truthS (hK : X.K = K) (ha : PE X e ta) (he : ∀ whole, isTrue e X.env whole = (do let v ← whole; standAt e.pos; holding [v] (truthy v))) :
    PT X e (fun σ H Q => ta σ H fun x H' => ∃ k, TruV K x H' k ∧ Q k H') := by subst hK; exact pt_truth ha he
theorem pi_listS {tg : Expr} (hK : X.K = K) (hl : PE X e ta) : PI X tg e (iList K ta) := by subst hK; exact pi_list hl
theorem pi_tupS {tg : Expr} (hK : X.K = K) (hl : PE X e ta) : PI X tg e (iTup K ta) := by subst hK; exact pi_tup hl
theorem pg_tupS {es : List Expr} {k : Nat} {t : TGs} {n : Nat} (hK : X.K = K) (hc : X.calm = true) (h : PGs X es t)
    (hn : (assignEach es X.env).length = n := by rfl) (hst : (assignEach es X.env).findIdx? (·.1) = none := by rfl) : PG X (.Tuple es k pos) (gTup K n t) := by subst hK; exact pg_tup hc h hn hst
end
end VL

set_option Elab.async false
set_option linter.all false
set_option maxRecDepth 100000
set_option maxHeartbeats 4000000
/-! sorted of tuples (int, int, int) -/
namespace SI3
open PySem PyProof.Rows Srt SrtO
abbrev Trip := Int × Int × Int
def ltT (p q : Trip) : Bool := if p.1 = q.1 then (if p.2.1 = q.2.1 then decide (p.2.2 < q.2.2) else decide (p.2.1 < q.2.1)) else decide (p.1 < q.1)
theorem ltT_iff {p q : Trip} : ltT p q = true ↔ p.1 < q.1 ∨ (p.1 = q.1 ∧ (p.2.1 < q.2.1 ∨ (p.2.1 = q.2.1 ∧ p.2.2 < q.2.2))) := by
  unfold ltT
  by_cases e : p.1 = q.1
  · rw [if_pos e]
    by_cases e2 : p.2.1 = q.2.1
    · rw [if_pos e2, decide_eq_true_eq]
      omega
    · rw [if_neg e2, decide_eq_true_eq]
      omega
  · rw [if_neg e, decide_eq_true_eq]
    omega
theorem ltT_no {p q : Trip} : ltT p q = false ↔ ¬ (p.1 < q.1 ∨ (p.1 = q.1 ∧ (p.2.1 < q.2.1 ∨ (p.2.1 = q.2.1 ∧ p.2.2 < q.2.2)))) := by
  rw [← ltT_iff]
  cases ltT p q <;> simp
theorem swo_T {α : Type} (k : α → Trip) : Swo fun v u => ltT (k v) (k u) := by
  refine ⟨fun x y h => ?_, fun x y z h1 h2 => ?_⟩
  · have a := ltT_iff.mp h
    refine ltT_no.mpr ?_
    omega
  · have a := ltT_no.mp h1
    have b := ltT_no.mp h2
    refine ltT_no.mpr ?_
    omega
def IsTrip (h : Heap) (v : Value) (k : Trip) : Prop := ∃ a o t u w n, v = .ref a ∧ h.get? a = some o ∧ o.cls = .type "tuple" ∧ o.data = .seq #[.int k.1 t, .int k.2.1 u, .int k.2.2 w] n
theorem IsTrip.keeps {h h' : Heap} {v : Value} {k : Trip} (p : IsTrip h v k) (kp : ∀ b o, h.get? b = some o → o.cls = .type "tuple" → h'.get? b = some o) : IsTrip h' v k := by
  obtain ⟨a, o, t, u, w, n, e, ho, hc, hd⟩ := p
  exact ⟨a, o, t, u, w, n, e, kp _ _ ho hc, hc, hd⟩
section
variable {prog : Program} {w : World} {A : Around} {E : Value → Shared → Prop} {s : Shared}
theorem trip_cmp {vs : List Value} {k : Value → Trip} (hp : ∀ v ∈ vs, IsTrip s.heap v (k v)) : Cmp prog w A s (tuples' true) (fun p => p.1 ∈ vs) (lt2 fun v u => ltT (k v) (k u)) := by
  intro p q hm hm'
  have h1 := hp _ hm
  have h2 := hp _ hm'
  show wpAny (model prog w) A (keyLt' (tuples' true) p.1 q.1) (fun r s' => s' = s ∧ r = ltT (k p.1) (k q.1)) (fun _ _ => False) s
  unfold ltT
  generalize k p.1 = K1 at h1 ⊢
  generalize k q.1 = K2 at h2 ⊢
  obtain ⟨x, y, z⟩ := K1
  obtain ⟨x', y', z'⟩ := K2
  obtain ⟨a, o, t, u, r, n, e, ho, hc, hd⟩ := h1
  obtain ⟨a', o', t', u', r', n', e', ho', hc', hd'⟩ := h2
  rw [e, e']
  refine PySem.W.kat_lt ho hd ho' hd' ?_
  show PySem.W.KatLex prog w A true (decide (3 < 3)) _ [(.int x t, .int x' t'), (.int y u, .int y' u'), (.int z r, .int z' r')] 0 s
  dsimp only
  refine PySem.W.kat_cons (SeqAt.EqAt.int_int x t x' t' prog w _ _ ?_)
  refine PySem.W.kat_go (fun e1 => ?_) (fun e1 => ?_)
  · have ex : x = x' := by simpa using e1
    rw [if_pos ex]
    refine PySem.W.kat_yes (PySem.W.kat_cons (SeqAt.EqAt.int_int y u y' u' prog w _ _ ?_))
    refine PySem.W.kat_go (fun e2 => ?_) (fun e2 => ?_)
    · have ey : y = y' := by simpa using e2
      rw [if_pos ey]
      refine PySem.W.kat_yes (PySem.W.kat_cons (SeqAt.EqAt.int_int z r z' r' prog w _ _ ?_))
      refine PySem.W.kat_go (fun e3 => ?_) (fun e3 => ?_)
      · have ez : z = z' := by simpa using e3
        refine PySem.W.kat_yes (PySem.W.kat_nil ?_)
        exact ⟨rfl, by rw [ez]; exact (decide_eq_false (Int.lt_irrefl _)).symm⟩
      · refine PySem.W.kat_no (PySem.W.kat_one _ _ (PyProof.Rows.lt_int ?_))
        exact (show s = s ∧ decide (z < z') = decide (z < z') from ⟨rfl, rfl⟩)
    · have ey : ¬ y = y' := by simpa using e2
      rw [if_neg ey]
      refine PySem.W.kat_no (PySem.W.kat_one _ _ (PyProof.Rows.lt_int ?_))
      exact (show s = s ∧ decide (y < y') = decide (y < y') from ⟨rfl, rfl⟩)
  · have ex : ¬ x = x' := by simpa using e1
    rw [if_neg ex]
    exact PySem.W.kat_no (oneLt_int ⟨rfl, rfl⟩)
theorem firsts3 {h : Heap} : ∀ {vs : List Value}, (∀ v ∈ vs, ∃ k, IsTrip h v k) → ∃ fs : List Value, PySem.W.KatTups h vs fs ∧ fs.length = vs.length ∧ ∀ f ∈ fs, ∃ x t, f = Value.int x t
  | [], _ => ⟨[], PySem.W.KatTups.nil, rfl, fun _ hm => by simp at hm⟩
  | v :: vs, hp => by
    obtain ⟨fs, h1, h2, h3⟩ := firsts3 (vs := vs) fun v' hm => hp v' (List.mem_cons_of_mem _ hm)
    obtain ⟨k, a, o, t, u, r, n, e, ho, hc, hd⟩ := hp v (List.mem_cons_self ..)
    subst e
    refine ⟨.int k.1 t :: fs, PySem.W.KatTups.cons ho hc hd rfl h1, by rw [List.length_cons, List.length_cons, h2], fun f hm => ?_⟩
    rcases List.mem_cons.mp hm with rfl | hm
    · exact ⟨k.1, t, rfl⟩
    · exact h3 f hm
theorem trips_sortable {a : Addr} {vs : List Value} {k : Value → Trip} (h0 : 0 < vs.length) (hp : ∀ v ∈ vs, IsTrip s.heap v (k v)) (ha : ∀ o, s.heap.get? a = some o → o.cls ≠ .type "tuple") : SortableO prog w A s a vs fun v u => ltT (k v) (k u) := by
  intro h' keep
  have hp' : ∀ v ∈ vs, IsTrip h' v (k v) := fun v hm => (hp v hm).keeps fun b o e c => keep b o (fun z => by subst z; exact ha o e c) e
  obtain ⟨fs, h1, h2, h3⟩ := firsts3 fun v hm => ⟨_, hp' v hm⟩
  refine ⟨tuples' true, fun Q E hq => ?_, trip_cmp hp'⟩
  refine PySem.W.kat_kind (T := .type "int") h1 (by omega) (fun f hm => ?_) (by rfl) ?_
  · obtain ⟨x, t, rfl⟩ := h3 f hm
    exact PySem.W.Looks.now
  · have e : (Value.type "int" != Value.type "tuple") = true := by first | decide +kernel | rfl | decide
    rw [e]
    exact hq
theorem sorted_trips {l : Addr} {vs : List Value} {k : Value → Trip} {Q : Value → Shared → Prop} (hl : s.heap.IsList l vs.toArray) (hz : vs.length ≤ sizeLine) (hp : ∀ v ∈ vs, IsTrip s.heap v (k v))
    (h : ∀ (h' : Heap) (d : Addr) (out : List Value), Srtd (fun v u => ltT (k v) (k u)) out → Stb (fun v u => ltT (k v) (k u)) out vs → (∀ b o, s.heap.get? b = some o → h'.get? b = some o) → s.heap.objs.size ≤ d → (∃ n, h'.get? d = some (seqObj "list" out.toArray n)) → Q (.ref d) { s with heap := h' }) :
    wpAny (model prog w) A (call (.builtin "sorted") [.ref l]) Q E s := by
  refine sorted_ord (swo_T k) hl hz (fun h2 h₁ a ha kk => ?_) fun out hs hb => ?_
  · refine trips_sortable (s := { s with heap := h₁ }) (by omega) (fun v hm => (hp v hm).keeps fun b o e _ => (kk b o e).2) fun o e => ?_
    have e' : some o = some (seqObj "list" vs.toArray 0) := e.symm.trans ha
    cases e'
    intro c
    exact absurd (Value.type.inj c) (by decide)
  · exact h _ _ out hs hb (fun b o e => sortedAll_old e) (Nat.le_succ _) (sortedAll_at s.heap vs out.toArray)
end
end SI3
namespace VL
open PySem PySem.Spec PyProof.Rows L2 SI3
abbrev ltVI (k : V → Trip) (x y : V) : Bool := ltT (k x) (k y)
/-- sorted(xs), xs a list of tuples (int, int, int) -/
def rSortedI (K : PySem.W.Frag) : List V → Hp → VK → Prop := fun vs H Q => ∃ (a : Addr) (xs : List V) (k : V → Trip), vs = [V.ref a] ∧ SqL K H a xs ∧ (∀ x ∈ xs, ∃ t, x = V.ref t ∧ H t = some (.tup [.int (k x).1, .int (k x).2.1, .int (k x).2.2])) ∧
  ∀ ys p, SrtO.Srtd (ltVI k) ys → ys.Perm xs → H p = none → Q (.ref p) (upd H p (.lst ys))
section
variable {X : Cx}
theorem cr_sortedI : CallR X (.builtin "sorted") (rSortedI X.K) := by
  intro pins s σ H vs us Q I r h
  obtain ⟨a, xs, k, rfl, hs, hx, q⟩ := h
  obtain ⟨its, rv, hl, hz⟩ := I.list hs
  obtain ⟨u, rfl, ru⟩ := vals1 r
  obtain rfl : u = Value.ref a := ru
  obtain ⟨e1, e2⟩ := refs_back rv fun x m => by
    obtain ⟨t, e, _⟩ := hx x m
    exact ⟨t, e⟩
  refine sorted_trips (k := fun u => k (backV u)) hl.isList (by rw [← rv.length]; exact hz) (fun v hv => ?_) fun h' d out h1 h2 kp hd hn => ?_
  · obtain ⟨t, rfl⟩ := e2 v hv
    have hm : V.ref t ∈ xs := by rw [e1]; exact List.mem_map.mpr ⟨_, hv, rfl⟩
    obtain ⟨t', e, ht⟩ := hx _ hm
    cases e
    obtain ⟨_, its2, r2, o, ho, hc, n, hd⟩ := I.hok _ _ ht
    obtain ⟨u1, u2, u3, rfl, ri, rj, rb⟩ : ∃ u1 u2 u3, its2 = [u1, u2, u3] ∧ RelV (.int (k (.ref t)).1) u1 ∧ RelV (.int (k (.ref t)).2.1) u2 ∧ RelV (.int (k (.ref t)).2.2) u3 := by
      cases r2 with
      | cons r1 r2 => cases r2 with
        | cons r3 r4 => cases r4 with
          | cons r5 r6 => cases r6 with
            | nil => exact ⟨_, _, _, rfl, r1, r3, r5⟩
    obtain ⟨t1, rfl⟩ := ri
    obtain ⟨t2, rfl⟩ := rj
    obtain ⟨t3, rfl⟩ := rb
    exact ⟨t, o, t1, t2, t3, n, rfl, ho, hc, hd⟩
  · have h3 : ∀ u ∈ out, ∃ a, u = Value.ref a := fun u hu => e2 u (h2.perm.mem_iff.mp hu)
    obtain ⟨n, hn⟩ := hn
    have hb : (out.map backV).Perm xs := by
      rw [e1]
      exact h2.perm.map backV
    refine ⟨.ref d, upd H d (.lst (out.map backV)), I.laid (t' := s.toks) kp hd ⟨?_, out, n, vals_back h3, hn⟩, rfl, q _ d (SrtO.srtd_map h1) hb (I.hok.fresh hd)⟩
    rw [hb.length_eq]
    exact hz
end
end VL

set_option Elab.async false
set_option linter.all false
set_option maxRecDepth 100000
set_option maxHeartbeats 4000000
namespace VL
open PySem PySem.Spec PyProof.Rows L2 NdefX

/-! ### an own exception's __init__ that begins with super().__init__(..), over ValueError -/
abbrev supBody (p0 p1 p2 p3 p4 : Pos) (es : List Expr) (rest : List Stmt) : List Stmt := .Expr (.Call (.Attribute (.Call (.Name "super" p0) [] [] p1) "__init__" p2) es [] p3) p4 :: rest
section
variable {CX : CXT} {P : Program} {w : World} {K : PySem.W.Frag} {mg : Str → Option Value} {base : Heap} {k : Nat} {f D cc cda : Addr} {name qual : Str} {params : Arguments} {es : List Expr} {ar : Arg} {rest : List Stmt} {p0 p1 p2 p3 p4 : Pos} {scope : Scope}
  {dV kV doc pm ct oc cl ccl : Value} {od cld cdd an : Option Addr} {osl csl ccs : Array (Option Value)} {vsC : Array Value} {file : Str} {tf : Tok} {cdD : ClassData} {N ps : List Str} {sp : Sp}
/-- what the written part says of it -/
structure SupK (P : Program) (K : PySem.W.Frag) (mg : Str → Option Value) (f D cc cda : Addr) (fd : FuncData) (qual : Str) : Prop where
  lk : ∃ oc od osl, K.lookup f = some ⟨oc, od, .func fd, osl⟩
  cd : PySem.W.codeIn K (.ref cda) qual = true
  cell : ∃ cl cld csl, K.lookup cc = some ⟨cl, cld, .cell (some (.ref D)), csl⟩
  code : ∃ ccl cdd vsC ccs file tf, K.lookup cda = some ⟨ccl, cdd, .fields vsC, ccs⟩ ∧ vsC[2]? = some (.str file tf) ∧ ((P.main.file : Str) == file) = true
  cls : ∃ cdD, PySem.W.clsIn K D = some cdD
  sub : PySem.W.mroIn K D (.ref D) = some true
  zsuper : mg "super" = none
  ops : PySem.W.nsIn K cStatics "thirdparty.any" = some none
  along : PySem.W.ks_superIn K D D "__init__" = some (some (.builtin "ValueError.__init__"))
  subV : PySem.W.subIn K (.ref D) (.type "ValueError") = some true
  top : (P.main.scope.names.lookup ("super" : Str)).isSome = false
theorem fn_sup {fd : FuncData} (T : SupK P K mg f D cc cda fd qual) (O : OexC K D) (efd : fd = PySem.W.fnX name qual params (supBody p0 p1 p2 p3 p4 es rest) scope [("__class__", cc)] dV kV doc pm an (.ref cda) ct)
    (S : NScope N ps ["__class__"] scope) (har : (params.posonlyargs ++ params.args).head? = some ar) (hps : ps.head? = some ar.arg) (hks : scope.names.lookup ("super" : Str) = some .globalImplicit)
    (hsw : ∀ env : Env, swapsWith (.Call (.Attribute (.Call (.Name "super" p0) [] [] p1) "__init__" p2) es [] p3) none p4.line env = pure false)
    (hst : ∀ env : Env, (backTo p3 (starEach es env)).any (·.1) = false)
    (hee : ∀ env : Env, ∃ x r, backTo p3 (starEach es env) = (false, x) :: r)
    {pl : Sem Bool} (hev : ∀ env : Env, eval (.Call (.Attribute (.Call (.Name "super" p0) [] [] p1) "__init__" p2) es [] p3) env = (do
      let ov ← attributeBase (.Call (.Name "super" p0) [] [] p1) "__init__" env (eval (.Call (.Name "super" p0) [] [] p1) env)
      standAt p2.atName
      let (g, first) ← holding [ov] (getMethod ov "__init__" pl)
      callWith p3 g first (backTo p3 (starEach es env)) []))
    (len : ∀ vs H Q E, sp vs H Q E → vs.length = ps.length)
    (hbody : ∀ (A : Around) (outer : List Env) (s : Shared) (H : Hp) (vs : List V) (Q : VK) (E : XK), Room k (A.deeper (envF ⟨name, qual, params, supBody p0 p1 p2 p3 p4 es rest, scope, [("__class__", cc)], cda⟩ f s.heap.objs.size)) → sp vs H Q E →
      ∃ ta tr, PA (ncx CX P w K mg base N ⟨name, qual, params, supBody p0 p1 p2 p3 p4 es rest, scope, [("__class__", cc)], cda⟩ f A outer s H E) es ta ∧
        PSs (ncx CX P w K mg base N ⟨name, qual, params, supBody p0 p1 p2 p3 p4 es rest, scope, [("__class__", cc)], cda⟩ f A outer s H E) rest tr ∧
        ∃ (a : Addr) (vs' : List V), vs = .ref a :: vs' ∧ H a = some (exo a D none) ∧
          ta (startF N vs [some (.ref D)]) H fun ws H1 => ws.length ≤ 1000 ∧ H1 a = some (exo a D none) ∧ tr { nx := fun _ H' => Q .non H', rt := Q } (startF N vs [some (.ref D)]) H1) :
    FnOk P w K mg base CX (k + 1) f fd ps sp := by
  subst efd
  obtain ⟨oc, od, osl, lk⟩ := T.lk
  obtain ⟨cl, cld, csl, hcell⟩ := T.cell
  obtain ⟨ccl, cdd, vsC, ccs, file, tf, hcode, hvs, hfile⟩ := T.code
  obtain ⟨cdD, hD⟩ := T.cls
  refine ⟨len, fun A outer s H args us vs Q E hr e0 hb r hsp => ?_⟩
  have hl := len _ _ _ _ hsp
  have KX : K.In s.heap := e0.mod.kin.keeps fun b o q => (e0.bs b o q).1
  have lim : s.heap.NoLimit := e0.mod.nolimit.keeps fun b o e => (e0.bs b o e).1
  have C : CellsAt [("__class__", cc)] ["__class__"] [some (.ref D)] s.heap H := by
    have one : ∀ y c, [(("__class__" : Str), cc)].lookup y = some c → y = "__class__" ∧ c = cc := fun y c e => by
      by_cases h : y = ("__class__" : Str)
      · subst h
        have e2 : [(("__class__" : Str), cc)].lookup ("__class__" : Str) = some cc := by simp [List.lookup]
        rw [e2] at e
        exact ⟨rfl, (Option.some.inj e).symm⟩
      · have q : (y == ("__class__" : Str)) = false := by simpa using h
        simp [List.lookup, q] at e
    have hc : ∃ v, s.heap.IsCell cc v := ⟨_, _, KX _ _ hcell, rfl⟩
    have hcH : H cc = none := (e0.bs cc _ (e0.mod.kin _ _ hcell)).2
    refine ⟨rfl, fun y c e => ?_, fun x y c e1 e2 => ?_, fun i y e => ?_⟩
    · obtain ⟨_, rfl⟩ := one y c e
      exact ⟨hcH, hc⟩
    · rw [(one _ _ e1).1, (one _ _ e2).1]
    · cases i with
      | zero =>
        injection e with e
        subst e
        refine ⟨cc, by simp [List.lookup], fun v ev => ?_⟩
        injection ev with ev
        injection ev with ev
        subst ev
        exact ⟨_, rfl, _, KX _ _ hcell, rfl⟩
      | succ i => cases i <;> cases e
  refine PySem.ks_codeAny_call_defAt (body := supBody p0 p1 p2 p3 p4 es rest) hr.depth (KX _ _ lk) rfl lim (PySem.W.codeRec_of KX T.cd) rfl hb S.nocell (fun ⟨n, _⟩ hy => S.par n (List.of_mem_zip hy).1) (fun h₁ hns kp => ?_) S.co S.gen S.kind
  obtain ⟨ta, tr, hA, hR, a, vs', ev, ha0, hq⟩ := hbody A outer s H vs Q E (hr.deeper _) hsp
  generalize hF : (⟨name, qual, params, supBody p0 p1 p2 p3 p4 es rest, scope, [("__class__", cc)], cda⟩ : NF) = F at hA hR
  have I : Inv (ncx CX P w K mg base N F f A outer s H E) [] (startF N vs [some (.ref D)]) H { s with heap := h₁, toks := s.toks + (ps.zip us).length } := by
    subst hF
    exact inv_startN S hr.hd e0 hl r C hns kp
  have eenv : callEnv (PySem.W.fnX name qual params (supBody p0 p1 p2 p3 p4 es rest) scope [("__class__", cc)] dV kV doc pm an (.ref cda) ct) s.heap.objs.size f = envF F f s.heap.objs.size := by
    subst hF
    rfl
  rw [eenv]
  have fin : ∀ {σ' : L2.St} {H' : Hp} {v : V} {u : Value} {s' : Shared}, Inv (ncx CX P w K mg base N F f A outer s H E) [] σ' H' s' → L2.RelV v u → Q v H' → CE outer P w H s Q u s' :=
    fun {σ' H' v u s'} J rv q => ⟨v, H', J.os, J.bare, J.base, J.hok, rv, q⟩
  refine PySem.ks_wpAt_mono (Q := SP (ncx CX P w K mg base N F f A outer s H E) [] { nx := fun _ H' => Q .non H', rt := Q }) (E := (ncx CX P w K mg base N F f A outer s H E).xe) ?go (fun fl s' hs => ?en) (fun _ _ x => x)
  case en =>
    cases fl with
    | ret u =>
      obtain ⟨v, σ', H', J, rv, q⟩ := hs
      exact fin J rv q
    | next =>
      obtain ⟨σ', H', J, q⟩ := hs
      exact fin (v := V.non) (u := Value.none) J rfl q
    | brk =>
      obtain ⟨_, _, _, q⟩ := hs
      exact False.elim q
    | cont =>
      obtain ⟨_, _, _, q⟩ := hs
      exact False.elim q
  have ekind : ∀ x, (envF F f s.heap.objs.size).kindOf x = scope.names.lookup x := by
    subst hF
    intro x
    rfl
  refine PySem.ks_wpAt_execs_cons (PySem.ks_wpAt_Expr_any (PySem.ks_wpAt_MethodCall (pl := pl) ?_ (hev _)) I.quiet (hsw _))
  refine PySem.ks_wpAt_super_base (env := envF F f s.heap.objs.size) ((ekind _).trans hks) ((ekind _).trans (S.frk _ List.mem_cons_self)) rfl rfl (kp _ _ (KX _ _ lk)) rfl har (by subst hF; rfl) (kp _ _ (KX _ _ hcode)) rfl hvs hfile T.top ?_
  have escope : (envF F f s.heap.objs.size).scope = scope := by subst hF; rfl
  have ecells : (envF F f s.heap.objs.size).cells = [(("__class__" : Str), cc)] := by subst hF; rfl
  obtain ⟨mb, b1, b2⟩ := e0.mod.blt
  have kb : ∀ b o, base.get? b = some o → h₁.get? b = some o := fun b o q => kp b o (e0.bs b o q).1
  have X₁ : K.In h₁ := KX.keeps kp
  have hgl := e0.mod.glob.keeps kb
  have hbl := b1.keeps kb
  refine PySem.W.ks_loadName_global (by rw [escope]; exact S.kind) ((ekind _).trans hks) (Calls.loadGlobal_builtin hgl T.zsuper hbl ((b2 _ (by decide +kernel)).trans Boot.«super») ⟨rfl, ?_⟩)
  refine wpAny_loadName_free (by rw [escope]; exact S.kind) ((ekind _).trans (S.frk _ List.mem_cons_self)) (c := cc) (v := .ref D) (by rw [ecells]; simp [List.lookup]) ⟨_, X₁ _ _ hcell, rfl⟩ ?_
  have hself : (ps.zip us).reverse.lookup ar.arg = some (.ref a) := by
    subst ev
    cases ps with
    | nil => cases hps
    | cons p ps' =>
      injection hps with hps
      subst hps
      cases r with
      | @cons _ u0 _ ur ra rw' =>
        obtain rfl : u0 = Value.ref a := ra
        have nd : (ar.arg :: ps').Nodup := by
          have q := S.nd.sublist (List.take_sublist ((ar.arg :: ps').length + [("__class__" : Str)].length) N)
          rw [S.pre] at q
          exact (List.nodup_append.mp q).1
        exact zip_look (i := 0) nd rfl rfl
  have hpar : scope.names.lookup ar.arg = some .local := by
    refine S.par _ ?_
    cases ps with
    | nil => cases hps
    | cons p ps' =>
      injection hps with hps
      subst hps
      exact List.mem_cons_self
  refine wpAny_loadName_local (by rw [escope]; exact S.kind) ((ekind _).trans hpar) hns hself ?_
  obtain ⟨oD, hD1, hD2⟩ : ∃ oD, h₁.get? D = some oD ∧ oD.data = .cls cdD := by
    have z := hD
    unfold PySem.W.clsIn at z
    split at z
    · rename_i ho
      cases z
      exact ⟨_, X₁ _ _ ho, rfl⟩
    · cases z
  refine PySem.ks_wpAny_isType_cls hD1 hD2 ⟨rfl, ?_⟩
  obtain ⟨t1, hoa⟩ := exo_at I.hok ha0
  refine PySem.ks_wpAny_call_super hD1 hD2 hoa rfl (fun c e => by cases e) (PySem.W.looks_mroIn X₁ T.sub) (fun h₂ e2 k2 => ?_)
  have I2 := I.kept (t' := s.toks + (ps.zip us).length) k2
  have X₂ : K.In h₂ := X₁.keeps k2
  have IA : PySem.W.InstAt h₂ a { cls := .ref D, dict := none, data := .fields #[.ref t1, .none, .none, .none, .bool false, .none] } D none := ⟨k2 _ _ hoa, rfl, rfl, trivial⟩
  have hal := T.along
  unfold PySem.W.ks_superIn at hal
  rw [hD] at hal
  have hmro : PySem.W.Looks (model P w) h₂ (mroOf (.ref D)) cdD.mro := fun A Q E s k q => wpAny_bind ((PySem.W.looks_clsIn X₂ hD) A _ E s k (wpAny_pure q))
  refine PySem.W.kxs_getMethod PySem.W.kxs_ValueError e2 (PySem.W.looks_opaque X₂ T.ops) hmro rfl X₂ hal (IA.type.andThen (PySem.W.looks_subIn X₂ T.subV)) (PySem.W.ks_ne X₂ IA hD) rfl ?_
  have kmw : ∀ b o, h₂.get? b = some o → (h₂.push (PySem.W.kxs_mw "ValueError.__init__" a)).get? b = some o := fun b o q => Heap.get?_push_of_some _ q
  have I3 : Inv (ncx CX P w K mg base N F f A outer s H E) [(h₂.objs.size, PySem.W.kxs_mw "ValueError.__init__" a)] (startF N vs [some (.ref D)]) H { s with heap := h₂.push (PySem.W.kxs_mw "ValueError.__init__" a), toks := s.toks + (ps.zip us).length + 1 } := by
    refine (I2.kept (t' := s.toks + (ps.zip us).length + 1) kmw).pins_of fun p hp => ?_
    rw [List.mem_singleton.mp hp]
    exact ⟨Heap.get?_push_at rfl rfl, I2.hok.fresh (Nat.le_refl _), Nat.ne_of_gt I2.lt, I2.nofs (Nat.le_refl _), fun v e => by cases e⟩
  refine PySem.W.kxs_callWith (i := "ValueError.__init__") (x := a) (hst _) ?_
  obtain ⟨x0, r0, hx⟩ := hee (envF F f s.heap.objs.size)
  rw [hx]
  refine Calls.evalArgs_plain ?_
  rw [← hx]
  refine thn (hA.run p3 _ _ _ H _ I3 hq) (fun us1 s4 ⟨ws, H1, I4, r1, hz, ha1, hrest⟩ => ⟨(I4.pin (h₂.objs.size, PySem.W.kxs_mw "ValueError.__init__" a) (List.mem_append_right _ List.mem_cons_self)).1, ?_⟩)
  have hu := (I4.pin (h₂.objs.size, PySem.W.kxs_mw "ValueError.__init__" a) (List.mem_append_right _ List.mem_cons_self)).1
  have I5 : Inv (ncx CX P w K mg base N F f A outer s H E) [] (startF N vs [some (.ref D)]) H1 s4 := I4.pins_of fun p hp => by cases hp
  obtain ⟨nm, q, Nn, bs, bm, sn, sub, ab, col, dd, k0, k1, k2', k3, k5, hC, hbm⟩ := O.cls
  obtain ⟨t2, ho⟩ := exo_at I5.hok ha1
  have hus : us1.length ≤ sizeLine := by
    rw [← Paired.length r1]
    exact Nat.le_trans hz (by decide)
  have kin4 := I5.kIn
  obtain ⟨hp, g, d, tk, os⟩ := s4
  refine wpAny_call (codeAny_of_tree ?_)
  show wpAny _ (A.deeper (envF F f s.heap.objs.size)).in1 (callAny (.ref h₂.objs.size) ⟨us1, []⟩) _ _ _
  simp only [callAny]
  refine wpAny_bind (wpAny_load hu ?_)
  simp only [PySem.W.kxs_mw, show (Value.type "method-wrapper" == Value.type "method" || Value.type "method-wrapper" == Value.type "builtin_function_or_method" || Value.type "method-wrapper" == Value.type "method-wrapper") = true by decide, if_true]
  refine PySem.W.KFB.if_so (by decide) ?_
  refine wpAny_bind (PySem.W.check_bound_init PySem.F.excBase_ValueError.toExcCallFacts (kin4 _ _ hC) ho rfl ?_)
  refine wpAny_bind (wpAny_pure (wpAny_pure ?_))
  refine ⟨plainId_quiet PySem.F.excBase_ValueError.init.plain _, codeAny_builtin PySem.F.excBase_ValueError.initEntry ?_⟩
  refine PySem.W.exc_init_tree (cls := .ref D) (t0 := t2) (dv := none) (c2 := .none) (c3 := .none) (b4 := .bool false) ho hus fun h' kk e' _ => ?_
  have J := I5.write (t' := tk) (x := a) (e := a) (o := exo a D none) (by rw [ha1]; exact True.intro) (.inl rfl) kk ⟨_, e'⟩ (exo_ok e')
  have eu : upd H1 a (exo a D none) = H1 := by
    funext b
    by_cases hb : b = a
    · rw [hb, upd_same, ha1]
    · rw [upd_ne hb]
  rw [eu] at J
  exact wpAt_of_wpAny (hR.run [] _ _ H1 _ J hrest)
end
end VL

set_option Elab.async false
set_option linter.all false
set_option maxRecDepth 100000
set_option maxHeartbeats 4000000
namespace VL
open PySem PySem.Spec PyProof.Rows L2 NdefX

/-! ### isinstance of a caught error that has a dict -/
theorem call_isED {X : Cx} {a D : Addr} {oe : Obj} {cls : Value} {d : Option Addr} {pn : List (Addr × Obj)} (C : ExcC X.K D) (hz : Zc cls d oe) (hf : ∃ vs, oe.data = .fields vs) :
    CallR (X.suite a ((a, oe) :: pn)) (.builtin "isinstance") (fun xs H Q => cls = .ref D ∧ ∃ (dd : Addr) (fs : List (Str × V)) (c : V) (cv : Value) (b : Bool), d = some dd ∧ H dd = some (.xd fs) ∧ xs = [.ref a, c] ∧ (∀ u, RelV c u → u = cv) ∧ PySem.W.kitOne X.K (.ref D) cv = some b ∧ Q (.bl b) H) := by
  intro pins s σ H xs us Q I r h
  obtain ⟨ec, dd, fs, c, cv, b, ed, ea, ex, hcv, e, q⟩ := h
  subst ec ed ex
  cases r with
  | cons rx rr =>
    cases rr with
    | cons rt rr =>
      cases rr
      cases rx
      obtain rfl := hcv _ rt
      have hp := (I.pin (a, oe) (List.mem_append_left _ List.mem_cons_self)).1
      obtain ⟨vs, hv⟩ := hf
      have hx : ObjOk X.prog X.w H s.heap dd (.xd fs) := I.hok dd _ ea
      obtain ⟨mA, hns, _⟩ := hx
      obtain ⟨od, ho, _⟩ := lookIn_ns hns
      have J : PySem.W.InstAt s.heap a oe D (some od) := ⟨hp, hz.1, by unfold PySem.W.notCls; rw [hv] <;> rfl, by rw [hz.2]; exact ho⟩
      have hcl : (PySem.W.clsIn X.K D).isSome = true := by
        obtain ⟨cd, hc, _⟩ := PySem.W.any_some C.hd
        rw [hc]
        rfl
      exact PySem.W.kia_one (PySem.W.kitx_exc (ox := oe) (od := some od) hcl C.hg C.hk C.hs C.ha C.hn C.ht C.hm) I.kIn J e (fun z => nomatch z) fun tk => ⟨.bl b, H, I.kept (t' := tk) fun _ _ z => z, rfl, q⟩
end VL

set_option Elab.async false
set_option linter.all false
set_option maxRecDepth 100000
set_option maxHeartbeats 4000000
namespace VL
open PySem PySem.Spec PyProof.Rows L2

/-! ### defs and methods that may raise -/
structure CalX (P : Program) (w : World) (K : PySem.W.Frag) (mg : Str → Option Value) (base : Heap) (k : Nat) (x : Str) (sp : Sp) : Prop where
  ex : ∃ (f : Addr) (fd : FuncData) (ps : List Str), FnOk P w K mg base (L2.CX P w) k f fd ps sp ∧ mg x = some (.ref f) ∧ PySem.W.keepIn K (.ref f) = true ∧ Binds K fd ps []
structure MetX (P : Program) (w : World) (K : PySem.W.Frag) (mg : Str → Option Value) (base : Heap) (k : Nat) (C : Addr) (m : Str) (sp : Sp) : Prop where
  ex : ∃ (f : Addr) (fd : FuncData) (ps : List Str), Cls K C ∧ Meth K C m f ∧ FnOk P w K mg base (L2.CX P w) k f fd ps sp ∧ Binds K fd ps []
structure MakX (P : Program) (w : World) (K : PySem.W.Frag) (mg : Str → Option Value) (base : Heap) (k : Nat) (x : Str) (C : Addr) (sp : Sp) : Prop where
  ex : ∃ (f : Addr) (fd : FuncData) (ps : List Str), Mk K C f ∧ FnOk P w K mg base (L2.CX P w) k f fd ps sp ∧ mg x = some (.ref C) ∧ Binds K fd ps []
section
variable {X : Cx} {k j : Nat} {C : Addr} {x m : Str} {sp : Sp} {E : XK} {p pos apos : Pos} {e o : Expr} {es : List Expr} {ta : TE} {t : TA}
theorem pe_cX (hx : Passes (L2.CX X.prog X.w) X E) (c : CalX X.prog X.w X.K X.mg X.base k x sp) (hr : Room j X.A) (hk : k ≤ j) (hg : Gl X x) (ha : PA X (e :: es) t)
    (hdb : (x == ("__debug__" : Str)) = false := by decide) (he : starEach (e :: es) X.env = (false, eval e X.env) :: starEach es X.env := by rfl) (hpl : (backTo pos (starEach es X.env)).any (·.1) = false := by rfl) :
    PE X (.Call (.Name x p) (e :: es) [] pos) (tCall sp [] E t) := by
  obtain ⟨f, fd, ps, F, hm, kp, b⟩ := c.ex
  exact pe_call F (hr.mono hk) hg hm kp b .nil hx ha hdb he hpl
theorem pe_mkX (hx : Passes (L2.CX X.prog X.w) X E) (c : MakX X.prog X.w X.K X.mg X.base k x C sp) (hr : Room j X.A) (hk : k + 1 ≤ j) (hg : Gl X x) (ha : PA X (e :: es) t)
    (hdb : (x == ("__debug__" : Str)) = false := by decide) (he : starEach (e :: es) X.env = (false, eval e X.env) :: starEach es X.env := by rfl) (hpl : (backTo pos (starEach es X.env)).any (·.1) = false := by rfl) :
    PE X (.Call (.Name x p) (e :: es) [] pos) (tMake C sp [] E t) := by
  obtain ⟨f, fd, ps, M, F, hm, b⟩ := c.ex
  exact pe_make M F (hr.mono hk) hg hm b .nil hx ha hdb he hpl
theorem pe_mtX {pl : Sem Bool} (hx : Passes (L2.CX X.prog X.w) X E) (c : MetX X.prog X.w X.K X.mg X.base k C m sp) (hr : Room j X.A) (hk : k ≤ j) (he : PE X o ta) (ha : PA X (e :: es) t)
    (hst : starEach (e :: es) X.env = (false, eval e X.env) :: starEach es X.env := by rfl) (hpl : (backTo pos (starEach es X.env)).any (·.1) = false := by rfl)
    (ht : eval (.Call (.Attribute o m apos) (e :: es) [] pos) X.env = (do
      let ov ← eval o X.env
      standAt apos.atName
      let (f, first) ← holding [ov] (getMethod ov m pl)
      callWith pos f first (backTo pos (starEach (e :: es) X.env)) (backToKw pos (keywordEach [] X.env))) := by rfl) :
    PE X (.Call (.Attribute o m apos) (e :: es) [] pos) (tMeth C m sp [] E ta t) := by
  obtain ⟨f, fd, ps, hc, hm, F, b⟩ := c.ex
  exact pe_meth (pl := pl) he hc hm F (hr.mono hk) b .nil hx ha hst hpl ht
theorem pe_mtX0 {pl : Sem Bool} (hx : Passes (L2.CX X.prog X.w) X E) (c : MetX X.prog X.w X.K X.mg X.base k C m sp) (hr : Room j X.A) (hk : k ≤ j) (he : PE X o ta)
    (ht : eval (.Call (.Attribute o m apos) [] [] pos) X.env = (do
      let ov ← eval o X.env
      standAt apos.atName
      let (f, first) ← holding [ov] (getMethod ov m pl)
      callWith pos f first (backTo pos (starEach [] X.env)) (backToKw pos (keywordEach [] X.env))) := by rfl) :
    PE X (.Call (.Attribute o m apos) [] [] pos) (tMeth C m sp [] E ta tNil) := by
  obtain ⟨f, fd, ps, hc, hm, F, b⟩ := c.ex
  exact pe_meth0 (pl := pl) he hc hm F (hr.mono hk) b .nil hx ht
end
section
variable {P : Program} {w : World} {K : PySem.W.Frag} {mg : Str → Option Value} {base : Heap}
theorem okX_of {x qual : Str} {st : Stmt} {ps N : List Str} {f : Addr} {fd : FuncData} {k : Nat} {sp : Sp} (F : Fun K x qual st f fd) (S : FnScope N ps (defScope st)) (len : ∀ vs H Q E, sp vs H Q E → vs.length = ps.length)
    (hbody : ∀ (f : Addr) (cdv : Value) (A : Around) (outer : List Env) (s : Shared) (H : Hp) (vs : List V) (Q : VK) (E : XK), Room k (A.deeper (envOfC qual (defScope st) s.heap.objs.size f cdv)) → sp vs H Q E →
      ∃ t, PSs (cxOf (L2.CX P w) P w K mg base N qual (defScope st) f cdv A outer s H E) (defBody st) t ∧ t { nx := fun _ H' => Q .non H', rt := Q } (start N vs) H) : FnOk P w K mg base (L2.CX P w) (k + 1) f fd ps sp :=
  F.okX S len (hbody f)
theorem calX_of {x : Str} {st : Stmt} {ps N : List Str} {k : Nat} {sp : Sp} (D : DefE K mg x st ps) (S : FnScope N ps (defScope st)) (len : ∀ vs H Q E, sp vs H Q E → vs.length = ps.length)
    (hbody : ∀ (f : Addr) (cdv : Value) (A : Around) (outer : List Env) (s : Shared) (H : Hp) (vs : List V) (Q : VK) (E : XK), Room k (A.deeper (envOfC x (defScope st) s.heap.objs.size f cdv)) → sp vs H Q E →
      ∃ t, PSs (cxOf (L2.CX P w) P w K mg base N x (defScope st) f cdv A outer s H E) (defBody st) t ∧ t { nx := fun _ H' => Q .non H', rt := Q } (start N vs) H) : CalX P w K mg base (k + 1) x sp := by
  obtain ⟨f, fd, F, hm, b⟩ := D
  exact ⟨f, fd, ps, okX_of F S len hbody, hm, F.kp, b⟩
theorem metX_of {C : Addr} {x qual : Str} {st : Stmt} {ps N : List Str} {k : Nat} {sp : Sp} (D : MethE K C x qual st ps) (c : Cls K C) (S : FnScope N ps (defScope st)) (len : ∀ vs H Q E, sp vs H Q E → vs.length = ps.length)
    (hbody : ∀ (f : Addr) (cdv : Value) (A : Around) (outer : List Env) (s : Shared) (H : Hp) (vs : List V) (Q : VK) (E : XK), Room k (A.deeper (envOfC qual (defScope st) s.heap.objs.size f cdv)) → sp vs H Q E →
      ∃ t, PSs (cxOf (L2.CX P w) P w K mg base N qual (defScope st) f cdv A outer s H E) (defBody st) t ∧ t { nx := fun _ H' => Q .non H', rt := Q } (start N vs) H) : MetX P w K mg base (k + 1) C x sp := by
  obtain ⟨f, fd, F, hm, b⟩ := D
  exact ⟨f, fd, ps, c, hm, okX_of F S len hbody, b⟩
theorem makX_of {C : Addr} {cn qual : Str} {st : Stmt} {ps N : List Str} {k : Nat} {sp : Sp} (D : InitE K mg cn C qual st ps) (S : FnScope N ps (defScope st)) (len : ∀ vs H Q E, sp vs H Q E → vs.length = ps.length)
    (hbody : ∀ (f : Addr) (cdv : Value) (A : Around) (outer : List Env) (s : Shared) (H : Hp) (vs : List V) (Q : VK) (E : XK), Room k (A.deeper (envOfC qual (defScope st) s.heap.objs.size f cdv)) → sp vs H Q E →
      ∃ t, PSs (cxOf (L2.CX P w) P w K mg base N qual (defScope st) f cdv A outer s H E) (defBody st) t ∧ t { nx := fun _ H' => Q .non H', rt := Q } (start N vs) H) : MakX P w K mg base (k + 1) cn C sp := by
  obtain ⟨f, fd, F, M, hm, b⟩ := D
  exact ⟨f, fd, ps, M, okX_of F S len hbody, hm, b⟩
end
/-- what leaves a def that may raise -/
abbrev thruX {P : Program} {w : World} {K : PySem.W.Frag} {mg : Str → Option Value} {base : Heap} {N : List Str} {qual : Str} {scope : Scope} {f : Addr} {cdv : Value} {A : Around} {outer : List Env} {s : Shared} {H : Hp} {E : XK} :
    Passes (L2.CX P w) (cxOf (L2.CX P w) P w K mg base N qual scope f cdv A outer s H E) E := passes_call (W := fun cls d _ H => E cls d H) (takes_of rfl rfl rfl rfl) fun _ _ _ _ h => h
abbrev takeX {P : Program} {w : World} {K : PySem.W.Frag} {mg : Str → Option Value} {base : Heap} {N : List Str} {qual : Str} {scope : Scope} {f : Addr} {cdv : Value} {A : Around} {outer : List Env} {s : Shared} {H : Hp} {E : XK} :
    Takes (cxOf (L2.CX P w) P w K mg base N qual scope f cdv A outer s H E) (fun cls d _ H => E cls d H) := takes_of rfl rfl rfl rfl
end VL

set_option Elab.async false
set_option linter.all false
set_option maxRecDepth 100000
set_option maxHeartbeats 4000000
/-! sorted of tuples (int, int, bool) -/
namespace S3
open PySem PyProof.Rows Srt SrtO
abbrev Trip := Int × Int × Bool
def ltT (p q : Trip) : Bool := if p.1 = q.1 then (if p.2.1 = q.2.1 then decide (b2i p.2.2 < b2i q.2.2) else decide (p.2.1 < q.2.1)) else decide (p.1 < q.1)
theorem ltT_iff {p q : Trip} : ltT p q = true ↔ p.1 < q.1 ∨ (p.1 = q.1 ∧ (p.2.1 < q.2.1 ∨ (p.2.1 = q.2.1 ∧ b2i p.2.2 < b2i q.2.2))) := by
  unfold ltT
  by_cases e : p.1 = q.1
  · rw [if_pos e]
    by_cases e2 : p.2.1 = q.2.1
    · rw [if_pos e2, decide_eq_true_eq]
      omega
    · rw [if_neg e2, decide_eq_true_eq]
      omega
  · rw [if_neg e, decide_eq_true_eq]
    omega
theorem ltT_no {p q : Trip} : ltT p q = false ↔ ¬ (p.1 < q.1 ∨ (p.1 = q.1 ∧ (p.2.1 < q.2.1 ∨ (p.2.1 = q.2.1 ∧ b2i p.2.2 < b2i q.2.2)))) := by
  rw [← ltT_iff]
  cases ltT p q <;> simp
theorem swo_T {α : Type} (k : α → Trip) : Swo fun v u => ltT (k v) (k u) := by
  refine ⟨fun x y h => ?_, fun x y z h1 h2 => ?_⟩
  · have a := ltT_iff.mp h
    refine ltT_no.mpr ?_
    omega
  · have a := ltT_no.mp h1
    have b := ltT_no.mp h2
    refine ltT_no.mpr ?_
    omega
def IsTrip (h : Heap) (v : Value) (k : Trip) : Prop := ∃ a o t u n, v = .ref a ∧ h.get? a = some o ∧ o.cls = .type "tuple" ∧ o.data = .seq #[.int k.1 t, .int k.2.1 u, .bool k.2.2] n
theorem IsTrip.keeps {h h' : Heap} {v : Value} {k : Trip} (p : IsTrip h v k) (kp : ∀ b o, h.get? b = some o → o.cls = .type "tuple" → h'.get? b = some o) : IsTrip h' v k := by
  obtain ⟨a, o, t, u, n, e, ho, hc, hd⟩ := p
  exact ⟨a, o, t, u, n, e, kp _ _ ho hc, hc, hd⟩
section
variable {prog : Program} {w : World} {A : Around} {E : Value → Shared → Prop} {s : Shared}
theorem trip_cmp {vs : List Value} {k : Value → Trip} (hp : ∀ v ∈ vs, IsTrip s.heap v (k v)) : Cmp prog w A s (tuples' true) (fun p => p.1 ∈ vs) (lt2 fun v u => ltT (k v) (k u)) := by
  intro p q hm hm'
  have h1 := hp _ hm
  have h2 := hp _ hm'
  show wpAny (model prog w) A (keyLt' (tuples' true) p.1 q.1) (fun r s' => s' = s ∧ r = ltT (k p.1) (k q.1)) (fun _ _ => False) s
  unfold ltT
  generalize k p.1 = K1 at h1 ⊢
  generalize k q.1 = K2 at h2 ⊢
  obtain ⟨x, y, z⟩ := K1
  obtain ⟨x', y', z'⟩ := K2
  obtain ⟨a, o, t, u, n, e, ho, hc, hd⟩ := h1
  obtain ⟨a', o', t', u', n', e', ho', hc', hd'⟩ := h2
  rw [e, e']
  refine PySem.W.kat_lt ho hd ho' hd' ?_
  show PySem.W.KatLex prog w A true (decide (3 < 3)) _ [(.int x t, .int x' t'), (.int y u, .int y' u'), (.bool z, .bool z')] 0 s
  dsimp only
  refine PySem.W.kat_cons (SeqAt.EqAt.int_int x t x' t' prog w _ _ ?_)
  refine PySem.W.kat_go (fun e1 => ?_) (fun e1 => ?_)
  · have ex : x = x' := by simpa using e1
    rw [if_pos ex]
    refine PySem.W.kat_yes (PySem.W.kat_cons (SeqAt.EqAt.int_int y u y' u' prog w _ _ ?_))
    refine PySem.W.kat_go (fun e2 => ?_) (fun e2 => ?_)
    · have ey : y = y' := by simpa using e2
      rw [if_pos ey]
      refine PySem.W.kat_yes (PySem.W.kat_cons (SeqAt.EqAt.bool_bool z z' prog w _ _ ?_))
      refine PySem.W.kat_go (fun e3 => ?_) (fun e3 => ?_)
      · have ez : z = z' := by simpa using e3
        refine PySem.W.kat_yes (PySem.W.kat_nil ?_)
        exact ⟨rfl, by rw [ez]; exact (decide_eq_false (Int.lt_irrefl _)).symm⟩
      · refine PySem.W.kat_no (PySem.W.kat_one _ _ (lt_bool ?_))
        exact (show s = s ∧ decide (b2i z < b2i z') = decide (b2i z < b2i z') from ⟨rfl, rfl⟩)
    · have ey : ¬ y = y' := by simpa using e2
      rw [if_neg ey]
      refine PySem.W.kat_no (PySem.W.kat_one _ _ (PyProof.Rows.lt_int ?_))
      exact (show s = s ∧ decide (y < y') = decide (y < y') from ⟨rfl, rfl⟩)
  · have ex : ¬ x = x' := by simpa using e1
    rw [if_neg ex]
    exact PySem.W.kat_no (oneLt_int ⟨rfl, rfl⟩)
theorem firsts3 {h : Heap} : ∀ {vs : List Value}, (∀ v ∈ vs, ∃ k, IsTrip h v k) → ∃ fs : List Value, PySem.W.KatTups h vs fs ∧ fs.length = vs.length ∧ ∀ f ∈ fs, ∃ x t, f = Value.int x t
  | [], _ => ⟨[], PySem.W.KatTups.nil, rfl, fun _ hm => by simp at hm⟩
  | v :: vs, hp => by
    obtain ⟨fs, h1, h2, h3⟩ := firsts3 (vs := vs) fun v' hm => hp v' (List.mem_cons_of_mem _ hm)
    obtain ⟨k, a, o, t, u, n, e, ho, hc, hd⟩ := hp v (List.mem_cons_self ..)
    subst e
    refine ⟨.int k.1 t :: fs, PySem.W.KatTups.cons ho hc hd rfl h1, by rw [List.length_cons, List.length_cons, h2], fun f hm => ?_⟩
    rcases List.mem_cons.mp hm with rfl | hm
    · exact ⟨k.1, t, rfl⟩
    · exact h3 f hm
theorem trips_sortable {a : Addr} {vs : List Value} {k : Value → Trip} (h0 : 0 < vs.length) (hp : ∀ v ∈ vs, IsTrip s.heap v (k v)) (ha : ∀ o, s.heap.get? a = some o → o.cls ≠ .type "tuple") : SortableO prog w A s a vs fun v u => ltT (k v) (k u) := by
  intro h' keep
  have hp' : ∀ v ∈ vs, IsTrip h' v (k v) := fun v hm => (hp v hm).keeps fun b o e c => keep b o (fun z => by subst z; exact ha o e c) e
  obtain ⟨fs, h1, h2, h3⟩ := firsts3 fun v hm => ⟨_, hp' v hm⟩
  refine ⟨tuples' true, fun Q E hq => ?_, trip_cmp hp'⟩
  refine PySem.W.kat_kind (T := .type "int") h1 (by omega) (fun f hm => ?_) (by rfl) ?_
  · obtain ⟨x, t, rfl⟩ := h3 f hm
    exact PySem.W.Looks.now
  · have e : (Value.type "int" != Value.type "tuple") = true := by first | decide +kernel | rfl | decide
    rw [e]
    exact hq
theorem sorted_trips {l : Addr} {vs : List Value} {k : Value → Trip} {Q : Value → Shared → Prop} (hl : s.heap.IsList l vs.toArray) (hz : vs.length ≤ sizeLine) (hp : ∀ v ∈ vs, IsTrip s.heap v (k v))
    (h : ∀ (h' : Heap) (d : Addr) (out : List Value), Srtd (fun v u => ltT (k v) (k u)) out → Stb (fun v u => ltT (k v) (k u)) out vs → (∀ b o, s.heap.get? b = some o → h'.get? b = some o) → s.heap.objs.size ≤ d → (∃ n, h'.get? d = some (seqObj "list" out.toArray n)) → Q (.ref d) { s with heap := h' }) :
    wpAny (model prog w) A (call (.builtin "sorted") [.ref l]) Q E s := by
  refine sorted_ord (swo_T k) hl hz (fun h2 h₁ a ha kk => ?_) fun out hs hb => ?_
  · refine trips_sortable (s := { s with heap := h₁ }) (by omega) (fun v hm => (hp v hm).keeps fun b o e _ => (kk b o e).2) fun o e => ?_
    have e' : some o = some (seqObj "list" vs.toArray 0) := e.symm.trans ha
    cases e'
    intro c
    exact absurd (Value.type.inj c) (by decide)
  · exact h _ _ out hs hb (fun b o e => sortedAll_old e) (Nat.le_succ _) (sortedAll_at s.heap vs out.toArray)
end
end S3
namespace VL
open PySem PySem.Spec PyProof.Rows L2 S3
abbrev ltV (k : V → Trip) (x y : V) : Bool := ltT (k x) (k y)
/-- sorted(xs), xs a list of tuples (int, int, bool) -/
def rSortedB (K : PySem.W.Frag) : List V → Hp → VK → Prop := fun vs H Q => ∃ (a : Addr) (xs : List V) (k : V → Trip), vs = [V.ref a] ∧ SqL K H a xs ∧ (∀ x ∈ xs, ∃ t, x = V.ref t ∧ H t = some (.tup [.int (k x).1, .int (k x).2.1, .bl (k x).2.2])) ∧
  ∀ ys p, SrtO.Srtd (ltV k) ys → ys.Perm xs → H p = none → Q (.ref p) (upd H p (.lst ys))
section
variable {X : Cx}
theorem cr_sortedB : CallR X (.builtin "sorted") (rSortedB X.K) := by
  intro pins s σ H vs us Q I r h
  obtain ⟨a, xs, k, rfl, hs, hx, q⟩ := h
  obtain ⟨its, rv, hl, hz⟩ := I.list hs
  obtain ⟨u, rfl, ru⟩ := vals1 r
  obtain rfl : u = Value.ref a := ru
  obtain ⟨e1, e2⟩ := refs_back rv fun x m => by
    obtain ⟨t, e, _⟩ := hx x m
    exact ⟨t, e⟩
  refine sorted_trips (k := fun u => k (backV u)) hl.isList (by rw [← rv.length]; exact hz) (fun v hv => ?_) fun h' d out h1 h2 kp hd hn => ?_
  · obtain ⟨t, rfl⟩ := e2 v hv
    have hm : V.ref t ∈ xs := by rw [e1]; exact List.mem_map.mpr ⟨_, hv, rfl⟩
    obtain ⟨t', e, ht⟩ := hx _ hm
    cases e
    obtain ⟨_, its2, r2, o, ho, hc, n, hd⟩ := I.hok _ _ ht
    obtain ⟨u1, u2, u3, rfl, ri, rj, rb⟩ : ∃ u1 u2 u3, its2 = [u1, u2, u3] ∧ RelV (.int (k (.ref t)).1) u1 ∧ RelV (.int (k (.ref t)).2.1) u2 ∧ RelV (.bl (k (.ref t)).2.2) u3 := by
      cases r2 with
      | cons r1 r2 => cases r2 with
        | cons r3 r4 => cases r4 with
          | cons r5 r6 => cases r6 with
            | nil => exact ⟨_, _, _, rfl, r1, r3, r5⟩
    obtain ⟨t1, rfl⟩ := ri
    obtain ⟨t2, rfl⟩ := rj
    obtain rfl : u3 = Value.bool _ := rb
    exact ⟨t, o, t1, t2, n, rfl, ho, hc, hd⟩
  · have h3 : ∀ u ∈ out, ∃ a, u = Value.ref a := fun u hu => e2 u (h2.perm.mem_iff.mp hu)
    obtain ⟨n, hn⟩ := hn
    have hb : (out.map backV).Perm xs := by
      rw [e1]
      exact h2.perm.map backV
    refine ⟨.ref d, upd H d (.lst (out.map backV)), I.laid (t' := s.toks) kp hd ⟨?_, out, n, vals_back h3, hn⟩, rfl, q _ d (SrtO.srtd_map h1) hb (I.hok.fresh hd)⟩
    rw [hb.length_eq]
    exact hz
end
end VL

set_option Elab.async false
set_option linter.all false
set_option maxRecDepth 100000
set_option maxHeartbeats 4000000
namespace VL
open PySem PySem.Spec PyProof.Rows L2

section
variable {X : Cx} {CX : CXT} {k : Nat} {f : Addr} {fd : FuncData} {ps : List Str} {sp : Sp} {E : XK} {A1 : Around}
/-- a callee runs somewhere below the body -/
theorem run_at {pins : List (Addr × Obj)} {σ : L2.St} {H : Hp} {s : Shared} {Q : VK} {us : List Value} {vs : List V} (F : FnOk X.prog X.w X.K X.mg X.base CX k f fd ps sp) (sb : Sub X k A1) (hb : Binds X.K fd ps []) (hx : Passes CX X E)
    (I : Inv X pins σ H s) (r : Vals vs us) (h : sp vs H Q E) : wpAny (model X.prog X.w) A1 (call (.ref f) us) (EP X pins σ Q) X.xe s := by
  have e0 : Env0 X.prog X.w X.K X.mg X.base A1 X.stack s H := by
    have e := I.env0
    exact ⟨by rw [sb.fr]; exact e.frames, e.mod, e.bs, e.bsz, e.funs, e.frf, e.hok, e.bare⟩
  have hl := F.len _ _ _ _ h
  have hl2 : (us ++ ([] : List Value)).length = ps.length := by rw [List.append_nil, ← r.length]; exact hl
  refine wpAny_call (codeAny_mono (F.run A1 X.stack s H ⟨us, []⟩ us vs Q E sb.room e0 (by
    have q := hb s us I.kIn hl2
    rw [List.append_nil] at q
    exact q) r h) fun r s' hq => ?_)
  cases r with
  | error e => exact hx pins σ H s e s' I hq
  | ok fl =>
    cases fl with
    | ret w => exact I.after hq
    | next => exact False.elim hq
    | brk => exact False.elim hq
    | cont => exact False.elim hq

/-- x in o, o an instance with a __contains__ of the text -/
def rInOwn (C : Addr) (sp : Sp) (E : XK) : R2 := fun x y H Q => ∃ a dx fs, y = .ref a ∧ H a = some (.ins C dx fs) ∧ sp [.ref a, x] H (fun v H' => ∃ c, v = .bl c ∧ Q (.bl c) H') E
theorem op_in_own {C : Addr} (hs : PySem.W.findIn X.K (.ref C) "__contains__" = some (some (.ref f))) (hf : PySem.W.isFn X.K (.ref f) = true) (F : FnOk X.prog X.w X.K X.mg X.base CX k f fd ps sp) (hr : Room k X.A) (hb : Binds X.K fd ps []) (hx : Passes CX X E) :
    OpR X (compareOp .In) (rInOwn C sp E) := by
  intro pins s σ H x y v u Q I rx ry h
  obtain ⟨a, dx, fs, rfl, ha, q⟩ := h
  cases ry
  obtain ⟨mA, J, _⟩ := ins_get I.hok ha
  obtain ⟨od, J, _⟩ := J.look
  obtain ⟨m, hF⟩ := I.fr
  refine PySem.W.in_K hF I.ok.mod.kin J hs hf ?_
  refine wpAny_mono (run_at F ⟨hr, rfl⟩ hb hx I (.cons (show RelV (.ref a) (.ref a) from rfl) (.cons rx .nil)) q) (fun r s' hq => ?_) fun _ _ z => z
  obtain ⟨w', H', I', rw', c, rfl, q'⟩ := hq
  cases rw'
  exact wpAny_truthy_bool ⟨.bl c, H', I', rfl, q'⟩

def rNotInOwn (C : Addr) (sp : Sp) (E : XK) : R2 := fun x y H Q => ∃ a dx fs, y = .ref a ∧ H a = some (.ins C dx fs) ∧ sp [.ref a, x] H (fun v H' => ∃ c, v = .bl c ∧ Q (.bl (!c)) H') E
theorem op_notIn_own {C : Addr} (hs : PySem.W.findIn X.K (.ref C) "__contains__" = some (some (.ref f))) (hf : PySem.W.isFn X.K (.ref f) = true) (F : FnOk X.prog X.w X.K X.mg X.base CX k f fd ps sp) (hr : Room k X.A) (hb : Binds X.K fd ps []) (hx : Passes CX X E) :
    OpR X (compareOp .NotIn) (rNotInOwn C sp E) := by
  intro pins s σ H x y v u Q I rx ry h
  obtain ⟨a, dx, fs, rfl, ha, q⟩ := h
  cases ry
  obtain ⟨mA, J, _⟩ := ins_get I.hok ha
  obtain ⟨od, J, _⟩ := J.look
  obtain ⟨m, hF⟩ := I.fr
  refine PySem.W.notIn_K hF I.ok.mod.kin J hs hf ?_
  refine wpAny_mono (run_at F ⟨hr, rfl⟩ hb hx I (.cons (show RelV (.ref a) (.ref a) from rfl) (.cons rx .nil)) q) (fun r s' hq => ?_) fun _ _ z => z
  obtain ⟨w', H', I', rw', c, rfl, q'⟩ := hq
  cases rw'
  exact wpAny_truthy_bool ⟨.bl (!c), H', I', rfl, q'⟩

/-- len(o), o an instance with a __len__ of the text -/
def rLenOwn (C : Addr) (sp : Sp) (E : XK) : List V → Hp → VK → Prop := fun xs H Q => ∃ a dx fs, xs = [.ref a] ∧ H a = some (.ins C dx fs) ∧ sp [.ref a] H (fun v H' => ∃ n : Int, v = .int n ∧ 0 ≤ n ∧ n < 2 ^ 63 ∧ Q (.int n) H') E
theorem call_len_own {C : Addr} (hs : PySem.W.findIn X.K (.ref C) "__len__" = some (some (.ref f))) (hf : PySem.W.isFn X.K (.ref f) = true) (F : FnOk X.prog X.w X.K X.mg X.base CX k f fd ps sp) (hr : Room (k + 1) X.A) (hb : Binds X.K fd ps []) (hx : Passes CX X E) :
    CallR X (.builtin "len") (rLenOwn C sp E) := by
  intro pins s σ H xs us Q I rv h
  obtain ⟨a, dx, fs, rfl, ha, q⟩ := h
  obtain ⟨u, rfl, ru⟩ := rv.one
  cases ru
  obtain ⟨mA, J, _⟩ := ins_get I.hok ha
  obtain ⟨od, J, _⟩ := J.look
  have sb : Sub X k X.A.in1 := Sub.in1 (⟨hr, rfl⟩ : Sub X (k + 1) X.A)
  refine Calls.call_function_entry kind_len plain_len entry_len (args_len1 _) ?_
  unfold Builtin.«len»
  refine wpAny_bind (m := oneArg "len" _) (wpAny_pure ?_)
  refine wpAny_bind (m := callSpecial? (.ref a) (Str.ofString "__len__")) (PySem.W.special_fn I.kIn J hs (beq_iff_eq.mp hf) (wpAny_mono (run_at F sb hb hx I (.cons (show RelV (.ref a) (.ref a) from rfl) .nil) q) (fun r s' hr' => ?_) fun _ _ y => y))
  obtain ⟨v, H', I', r, n, rfl, h0, h1, hq⟩ := hr'
  obtain ⟨t, rfl⟩ := r
  refine wpAny_bind (wpAny_holding (wpAny_pure ?_))
  refine wpAny_bind (wpAny_letGo ?_)
  show wpAny _ _ (if n < 0 then _ else _) _ _ _
  rw [if_neg (by omega)]
  show wpAny _ _ (if n ≥ 2 ^ 63 then _ else _) _ _ _
  rw [if_neg (by omega)]
  exact wpAny_bind (wpAny_mkInt (wpAny_pure ⟨_, rfl, ⟨.int n, H', I'.tok _, ⟨_, rfl⟩, hq⟩⟩))
end
end VL

set_option Elab.async false
set_option linter.all false
set_option maxRecDepth 100000
set_option maxHeartbeats 4000000
namespace VL
open PySem PySem.Spec PyProof.Rows L2

/-! ### schedules: the mathematics -/
abbrev Sd := List (Nat × Int)
def look (L : Sd) (l : Nat) : Option Int := (L.find? fun e => decide (e.1 = l)).map (·.2)
structure OkD (L : Sd) : Prop where
  lt : ∀ e ∈ L, e.1 < 4
  nd : (L.map (·.1)).Nodup
def pat (l : Nat) : Int := if l = 0 then 0 else if l = 1 then 5000 else if l = 2 then 10000 else 60000
def overD (L : Sd) (now : Int) (l : Nat) : Bool := match look L l with | some t => decide (t + pat l ≤ now) | none => false
def lanesD (L : Sd) : List Nat := [0, 1, 2, 3].filter fun l => (look L l).isSome
def oversD (L : Sd) (now : Int) : List Nat := (lanesD L).filter (overD L now)
def passD (L : Sd) (now : Int) : List Nat := match (oversD L now).getLast? with | none => (lanesD L).take 1 | some m => (lanesD L).filter fun l => decide (l ≤ m)
def wholeD (L : Sd) (now : Int) : Bool := !(oversD L now).isEmpty
def wakeD (L : Sd) (l : Nat) (now : Int) : Sd := if (look L l).isSome then L else L ++ [(l, now)]
def wakeN (L : Sd) (l : Nat) (n : Int) : Int := if L.all (fun e => decide (l ≤ e.1)) then 0 else n
def endD (L : Sd) (P : List Nat) : Sd := L.filter fun e => !decide (e.1 ∈ P)
def pendD (L : Sd) : Sd := (lanesD L).map fun l => (l, (look L l).getD 0)
def kvsD (L : Sd) : List (Key × V) := L.map fun e => ((Sum.inl (e.1 : Int) : Key), V.int e.2)
theorem look_nil (l : Nat) : look [] l = none := rfl
theorem look_cons (e : Nat × Int) (L : Sd) (l : Nat) : look (e :: L) l = if e.1 = l then some e.2 else look L l := by
  unfold look
  rw [List.find?_cons]
  by_cases h : e.1 = l
  · simp [h]
  · simp [h]
theorem look_app (L : Sd) (e : Nat × Int) (l : Nat) : look (L ++ [e]) l = (look L l).or (if e.1 = l then some e.2 else none) := by
  induction L with
  | nil => rw [List.nil_append, look_cons, look_nil]; rfl
  | cons a L ih =>
    rw [List.cons_append, look_cons, look_cons, ih]
    by_cases h : a.1 = l
    · simp [h]
    · simp [h]
theorem look_mem {L : Sd} {l : Nat} {t : Int} (h : look L l = some t) : (l, t) ∈ L := by
  induction L with
  | nil => cases h
  | cons a L ih =>
    rw [look_cons] at h
    by_cases e : a.1 = l
    · rw [if_pos e] at h
      injection h with h
      have : a = (l, t) := by cases a; cases e; cases h; rfl
      rw [← this]
      exact List.mem_cons_self
    · rw [if_neg e] at h
      exact List.mem_cons_of_mem _ (ih h)
theorem look_of_mem {L : Sd} (nd : (L.map (·.1)).Nodup) {e : Nat × Int} (h : e ∈ L) : look L e.1 = some e.2 := by
  induction L with
  | nil => cases h
  | cons a L ih =>
    rw [look_cons]
    rw [List.map_cons, List.nodup_cons] at nd
    rcases List.mem_cons.mp h with rfl | h
    · rw [if_pos rfl]
    · rw [if_neg, ih nd.2 h]
      intro q
      exact nd.1 (List.mem_map.mpr ⟨e, h, q.symm⟩)
theorem look_none {L : Sd} {l : Nat} (h : look L l = none) : ∀ e ∈ L, e.1 ≠ l := by
  induction L with
  | nil => intro e he; cases he
  | cons a L ih =>
    rw [look_cons] at h
    by_cases e : a.1 = l
    · rw [if_pos e] at h; cases h
    · rw [if_neg e] at h
      intro x hx
      rcases List.mem_cons.mp hx with rfl | hx
      · exact e
      · exact ih h x hx
theorem look_some_lt {L : Sd} (O : OkD L) {l : Nat} (h : (look L l).isSome = true) : l < 4 := by
  cases e : look L l with
  | none => rw [e] at h; cases h
  | some t => exact O.lt _ (look_mem e)
theorem OkD.nil : OkD [] := ⟨fun e h => (by cases h), List.nodup_nil⟩
theorem OkD.wake {L : Sd} (O : OkD L) {l : Nat} (hl : l < 4) (now : Int) : OkD (wakeD L l now) := by
  unfold wakeD
  split
  · exact O
  · rename_i h
    have hn : look L l = none := by
      cases e : look L l with
      | none => rfl
      | some t => rw [e] at h; exact absurd rfl h
    refine ⟨fun e he => ?_, ?_⟩
    · rcases List.mem_append.mp he with he | he
      · exact O.lt _ he
      · rw [List.mem_singleton.mp he]; exact hl
    · rw [List.map_append, List.nodup_append]
      refine ⟨O.nd, by simp, fun a ha b hb => ?_⟩
      obtain ⟨e, he, rfl⟩ := List.mem_map.mp ha
      have : b = l := by simpa using hb
      rw [this]
      exact look_none hn e he
theorem look_wake {L : Sd} {l k : Nat} {now : Int} : look (wakeD L l now) k = if k = l then some ((look L l).getD now) else look L k := by
  unfold wakeD
  split
  · rename_i h
    split
    · rename_i e
      subst e
      cases q : look L k with
      | none => rw [q] at h; cases h
      | some t => rfl
    · rfl
  · rename_i h
    have hn : look L l = none := by
      cases e : look L l with
      | none => rfl
      | some t => rw [e] at h; exact absurd rfl h
    rw [look_app]
    by_cases e : k = l
    · subst e
      rw [if_pos rfl, hn, if_pos rfl]
      rfl
    · rw [if_neg e, if_neg fun q => e q.symm]
      cases look L k <;> rfl
theorem OkD.endd {L : Sd} (O : OkD L) (P : List Nat) : OkD (endD L P) :=
  ⟨fun e he => O.lt _ (List.mem_filter.mp he).1, O.nd.sublist (List.Sublist.map _ List.filter_sublist)⟩
theorem look_end {L : Sd} {P : List Nat} {k : Nat} : look (endD L P) k = if k ∈ P then none else look L k := by
  unfold endD
  induction L with
  | nil => rw [List.filter_nil, look_nil]; split <;> rfl
  | cons a L ih =>
    rw [List.filter_cons]
    by_cases h : a.1 ∈ P
    · rw [if_neg (by simp [h]), ih, look_cons]
      by_cases e : a.1 = k
      · rw [if_pos (by rw [← e]; exact h), if_pos (by rw [← e]; exact h)]
      · rw [if_neg e]
    · rw [if_pos (by simp [h]), look_cons, look_cons, ih]
      by_cases e : a.1 = k
      · rw [if_pos e, if_pos e, if_neg (by rw [← e]; exact h)]
      · rw [if_neg e, if_neg e]
theorem mem_lanes {L : Sd} (O : OkD L) {l : Nat} : l ∈ lanesD L ↔ (look L l).isSome = true := by
  unfold lanesD
  rw [List.mem_filter]
  refine ⟨fun h => h.2, fun h => ⟨?_, h⟩⟩
  have := look_some_lt O h
  simp
  omega
theorem lanes_sorted (L : Sd) : (lanesD L).Pairwise (· < ·) := List.Pairwise.sublist List.filter_sublist (by decide)
theorem eq_of_sorted : ∀ {a b : List Int}, a.Pairwise (· < ·) → b.Pairwise (· < ·) → (∀ x, x ∈ a ↔ x ∈ b) → a = b
  | [], [], _, _, _ => rfl
  | [], y :: b, _, _, h => absurd ((h y).mpr List.mem_cons_self) (by simp)
  | x :: a, [], _, _, h => absurd ((h x).mp List.mem_cons_self) (by simp)
  | x :: a, y :: b, ha, hb, h => by
    rw [List.pairwise_cons] at ha hb
    have e : x = y := by
      rcases Int.lt_trichotomy x y with q | q | q
      · rcases List.mem_cons.mp ((h x).mp List.mem_cons_self) with r | r
        · exact r
        · have := hb.1 _ r; omega
      · exact q
      · rcases List.mem_cons.mp ((h y).mpr List.mem_cons_self) with r | r
        · exact r.symm
        · have := ha.1 _ r; omega
    subst e
    rw [eq_of_sorted ha.2 hb.2 fun z => ⟨fun m => ?_, fun m => ?_⟩]
    · rcases List.mem_cons.mp ((h z).mp (List.mem_cons_of_mem _ m)) with r | r
      · have := ha.1 _ m; omega
      · exact r
    · rcases List.mem_cons.mp ((h z).mpr (List.mem_cons_of_mem _ m)) with r | r
      · have := hb.1 _ m; omega
      · exact r
theorem strict_of {a : List Int} (nd : a.Nodup) (h : a.Pairwise (· ≤ ·)) : a.Pairwise (· < ·) := by
  refine (nd.and h).imp fun {x y} q => ?_
  have := q.1
  have := q.2
  omega
theorem sorted_keys {L : Sd} (O : OkD L) {ns : List Int} (hp : ns.Perm (L.map fun e => (e.1 : Int))) (hs : ns.Pairwise (· ≤ ·)) : ns = (lanesD L).map fun (l : Nat) => (l : Int) := by
  have nd0 : (L.map fun e => (e.1 : Int)).Nodup := by
    have : (L.map fun e => (e.1 : Int)) = (L.map (·.1)).map (fun (n : Nat) => (n : Int)) := by rw [List.map_map]; rfl
    rw [this]
    exact List.Pairwise.map _ (fun a b h q => h (by omega)) O.nd
  refine eq_of_sorted (strict_of (hp.nodup_iff.mpr nd0) hs) ((lanes_sorted L).map _ fun a b h => by omega) fun x => ?_
  rw [hp.mem_iff, List.mem_map, List.mem_map]
  constructor
  · rintro ⟨e, he, rfl⟩
    exact ⟨e.1, (mem_lanes O).mpr (by rw [look_of_mem O.nd he]; rfl), rfl⟩
  · rintro ⟨l, hl, rfl⟩
    have h := (mem_lanes O).mp hl
    cases q : look L l with
    | none => rw [q] at h; cases h
    | some t => exact ⟨_, look_mem q, rfl⟩
theorem kvsD_len (L : Sd) : (kvsD L).length = L.length := by unfold kvsD; rw [List.length_map]
theorem OkD.len {L : Sd} (O : OkD L) : L.length ≤ 4 := by
  have h : ∀ (n : Nat) (xs : List Nat), (∀ x ∈ xs, x < n) → xs.Nodup → xs.length ≤ n := by
    intro n
    induction n with
    | zero =>
      intro xs h _
      cases xs with
      | nil => exact Nat.le_refl _
      | cons a xs => exact absurd (h a List.mem_cons_self) (Nat.not_lt_zero _)
    | succ n ih =>
      intro xs h nd
      have h1 : (xs.filter fun x => !decide (x = n)).length ≤ n := by
        refine ih _ (fun x hx => ?_) (nd.sublist List.filter_sublist)
        have := List.mem_filter.mp hx
        have h2 := h x this.1
        have h3 : x ≠ n := by simpa using this.2
        omega
      have h2 : xs.length ≤ (xs.filter fun x => !decide (x = n)).length + 1 := by
        clear h h1 ih
        induction xs with
        | nil => exact Nat.zero_le _
        | cons a xs ih2 =>
          rw [List.nodup_cons] at nd
          by_cases e : a = n
          · subst e
            have : xs.filter (fun x => !decide (x = a)) = xs := by
              rw [List.filter_eq_self]
              intro x hx
              have : x ≠ a := fun q => nd.1 (q ▸ hx)
              simpa using this
            rw [List.filter_cons, if_neg (by simp), this, List.length_cons]
            omega
          · rw [List.filter_cons, if_pos (by simp [e]), List.length_cons, List.length_cons]
            have := ih2 nd.2
            omega
      omega
  have := h 4 (L.map (·.1)) (fun x hx => by
    obtain ⟨e, he, rfl⟩ := List.mem_map.mp hx
    exact O.lt _ he) O.nd
  rw [List.length_map] at this
  exact this
theorem valV_kvsD (L : Sd) (l : Nat) : valV (kvsD L) (Sum.inl (l : Int) : Key) = (look L l).map V.int := by
  induction L with
  | nil => rfl
  | cons a L ih =>
    show valV (((Sum.inl (a.1 : Int) : Key), V.int a.2) :: kvsD L) _ = _
    rw [look_cons]
    by_cases e : a.1 = l
    · subst e
      rw [valV_pos rfl, if_pos rfl]
      rfl
    · rw [valV_neg (fun q => e (by have := Sum.inl.inj q; omega)), ih, if_neg e]
theorem kvsD_put {L : Sd} {l : Nat} {now : Int} (h : look L l = none) : putK (kvsD L) (Sum.inl (l : Int) : Key) (V.int now) = kvsD (L ++ [(l, now)]) := by
  rw [putK_new _ (by rw [valV_kvsD, h]; rfl)]
  unfold kvsD
  rw [List.map_append]
  rfl
theorem lanes_nil {L : Sd} (O : OkD L) : lanesD L = [] ↔ L = [] := by
  constructor
  · intro h
    cases L with
    | nil => rfl
    | cons a L =>
      have : a.1 ∈ lanesD (a :: L) := (mem_lanes O).mpr (by rw [look_cons, if_pos rfl]; rfl)
      rw [h] at this
      cases this
  · rintro rfl
    rfl
theorem lanes_len (L : Sd) : (lanesD L).length ≤ 4 := Nat.le_trans (List.length_filter_le _ _) (by decide)
theorem over_some {L : Sd} {now : Int} {l : Nat} (h : overD L now l = true) : (look L l).isSome = true := by
  unfold overD at h
  cases e : look L l with
  | none => rw [e] at h; cases h
  | some t => rfl
/-- a pass has all pending lanes above its last one -/
theorem pass_upper {L : Sd} (O : OkD L) {now : Int} {m : Nat} (hm : (passD L now).getLast? = some m) {l : Nat} (hl : l ∈ lanesD L) (hlt : l < m) : l ∈ passD L now := by
  unfold passD at hm ⊢
  cases q : (oversD L now).getLast? with
  | none =>
    rw [q] at hm
    dsimp only at hm ⊢
    cases e : lanesD L with
    | nil => rw [e] at hl; cases hl
    | cons a r =>
      rw [e] at hm hl
      have : a = m := by simpa using hm
      subst this
      have hs := lanes_sorted L
      rw [e, List.pairwise_cons] at hs
      rcases List.mem_cons.mp hl with rfl | h
      · omega
      · have := hs.1 _ h; omega
  | some k =>
    rw [q] at hm
    dsimp only at hm ⊢
    have h1 : m ∈ (lanesD L).filter fun l => decide (l ≤ k) := List.mem_of_getLast? hm
    have h2 : m ≤ k := of_decide_eq_true (List.mem_filter.mp h1).2
    exact List.mem_filter.mpr ⟨hl, decide_eq_true (by omega)⟩
theorem pass_sub {L : Sd} {now : Int} {l : Nat} (h : l ∈ passD L now) : l ∈ lanesD L := by
  unfold passD at h
  split at h
  · exact List.mem_of_mem_take h
  · exact (List.mem_filter.mp h).1
theorem pass_ne {L : Sd} {now : Int} (h : lanesD L ≠ []) : passD L now ≠ [] := by
  unfold passD
  cases q : (oversD L now).getLast? with
  | none =>
    cases e : lanesD L with
    | nil => exact absurd e h
    | cons a r => simp
  | some k =>
    have hk : k ∈ oversD L now := List.mem_of_getLast? q
    have : k ∈ (lanesD L).filter fun l => decide (l ≤ k) := List.mem_filter.mpr ⟨(List.mem_filter.mp hk).1, decide_eq_true (Nat.le_refl _)⟩
    intro e
    dsimp only at e
    rw [e] at this
    cases this
theorem end_len {L : Sd} {P : List Nat} {l : Nat} (h : (look L l).isSome = true) (hp : l ∈ P) : (endD L P).length < L.length := by
  unfold endD
  cases e : look L l with
  | none => rw [e] at h; cases h
  | some t =>
    have hm := look_mem e
    clear h e
    induction L with
    | nil => cases hm
    | cons a L ih =>
      rw [List.filter_cons]
      rcases List.mem_cons.mp hm with rfl | hm
      · rw [if_neg (by simp [hp])]
        exact Nat.lt_succ_of_le (List.length_filter_le _ _)
      · have := ih hm
        split
        · rw [List.length_cons, List.length_cons]; omega
        · rw [List.length_cons]; omega
end VL
namespace VL
open PySem PySem.Spec PyProof.Rows L2
theorem m2_ofs : True := trivial
/-! ### dict comprehensions over any walk; dicts read while locked -/
theorem dc_it {J : It} {n : Nat} {G : Hp → Prop} {Y : Nat → Hp → V → Hp → Prop} (w : Walk J n G Y) {g : TG} {tt : TT} {tk tv : TE} {vs : List Nat} {σ : L2.St} {H1 : Hp} {D : Addr} {Qd : Hp → Prop} (Pv : Nat → Hp → Prop) (h0 : Pv 0 (upd H1 D (.dK []))) (hG : ∀ i H, i ≤ n → Pv i H → G H)
    (hs : ∀ i x H H', i < n → Pv i H → Y i H x H' → g x (wipe σ vs) H' fun σ2 H2 => wipe σ2 vs = wipe σ vs ∧ tt σ2 H2 fun b H3 =>
      if b = true then tk σ2 H3 fun y H4 => tv σ2 H4 fun z H5 => ∃ kvs k, y = kV k ∧ H5 D = some (.dK kvs) ∧ kvs.length < sizeLine ∧ Pv (i + 1) (upd H5 D (.dK (putK kvs k z))) else Pv (i + 1) H3) (hd : ∀ H, Pv n H → Qd H) :
    ∃ W : Nat → Nat → Hp → Prop, (∃ m, W 0 m (upd H1 D (.dK []))) ∧ ∀ i m H, W i m H →
      (J.stop i H ∧ Qd H) ∨ (J.go i H ∧ ∃ Nx : Hp → Prop, (∀ H', Nx H' → ∃ m', m' < m ∧ W (i + 1) m' H') ∧ ∀ x H', J.yld i H x H' → g x (wipe σ vs) H' fun σ2 H2 => wipe σ2 vs = wipe σ vs ∧ tt σ2 H2 fun b H3 =>
        if b = true then tk σ2 H3 fun y H4 => tv σ2 H4 fun z H5 => ∃ kvs k, y = kV k ∧ H5 D = some (.dK kvs) ∧ kvs.length < sizeLine ∧ Nx (upd H5 D (.dK (putK kvs k z))) else Nx H3) := by
  refine ⟨fun i m H => m = n - i ∧ i ≤ n ∧ Pv i H, ⟨n, by simp, Nat.zero_le _, h0⟩, ?_⟩
  rintro i m H ⟨rfl, hi, p⟩
  have q := hG i H hi p
  by_cases hlt : i < n
  · refine .inr ⟨w.goes i H hlt q, Pv (i + 1), fun H' p' => ⟨n - (i + 1), by omega, rfl, hlt, p'⟩, fun x H' y => hs i x H H' hlt p (w.yields i H x H' hlt q y)⟩
  · have e : i = n := by omega
    subst e
    exact .inl ⟨w.stops H q, hd H p⟩
theorem DGet.kf {H : Hp} {a : Addr} {o : Obj} {kvs : List (Key × V)} {k : Key} (e : H a = some (.frz o (.dK kvs))) : DGet H a (kV k) (valV kvs k) := .inl ⟨kvs, k, .inr ⟨o, e⟩, rfl, rfl⟩
theorem unlock_eq {H : Hp} {D d : Addr} {x y u : HO} (h : D ≠ d) (hd : H d = some u) : upd (upd (upd H d x) D y) d u = upd H D y := by
  funext b
  by_cases e : b = d
  · subst e
    rw [upd_same, upd_ne h.symm, hd]
  · rw [upd_ne e]
    by_cases e2 : b = D
    · subst e2
      rw [upd_same, upd_same]
    · rw [upd_ne e2, upd_ne e2, upd_ne e]
theorem wakeN_eq (L : Sd) (l : Nat) (n : Int) : wakeN L l n = if ((L.filter fun e => decide (e.1 < l)).map fun e => V.int (e.1 : Int)).isEmpty = true then 0 else n := by
  unfold wakeN
  have : L.all (fun e => decide (l ≤ e.1)) = ((L.filter fun e => decide (e.1 < l)).map fun e => V.int (e.1 : Int)).isEmpty := by
    induction L with
    | nil => rfl
    | cons a L ih =>
      rw [List.all_cons, List.filter_cons, ih]
      by_cases h : a.1 < l
      · rw [decide_eq_false (by omega), if_pos (decide_eq_true h)]
        rfl
      · rw [decide_eq_true (by omega), if_neg (by simp; omega)]
        rfl
  rw [this]
theorem take_filter {α β : Type} {L : List α} {p : α → Bool} {f : α → β} {i : Nat} (hi : i < L.length) : ((L.take (i + 1)).filter p).map f = ((L.take i).filter p).map f ++ if p L[i] = true then [f L[i]] else [] := by
  rw [List.take_add_one, List.getElem?_eq_getElem hi, List.filter_append, List.map_append]
  congr 1
  show (List.filter p [L[i]]).map f = _
  rw [List.filter_cons]
  split <;> rfl
theorem inV_l (l : Nat) : ∀ P : List Nat, inV (.int (l : Int)) (P.map fun (k : Nat) => V.int (k : Int)) = decide (l ∈ P)
  | [] => rfl
  | a :: P => by
    show (eqV (.int (a : Int)) (.int (l : Int)) || inV (.int (l : Int)) (P.map fun (k : Nat) => V.int (k : Int))) = _
    rw [inV_l l P]
    show (((a : Int) == (l : Int)) || decide (l ∈ P)) = decide (l ∈ a :: P)
    by_cases e : a = l
    · subst e
      simp
    · have e2 : l ≠ a := fun q => e q.symm
      have e3 : ((a : Int) == (l : Int)) = false := beq_eq_false_iff_ne.mpr (by omega)
      simp [e2, e3]
theorem flat_l : ∀ P : List Nat, (P.map fun (k : Nat) => V.int (k : Int)).all flatV = true
  | [] => rfl
  | a :: P => by
    show (true && (P.map fun (k : Nat) => V.int (k : Int)).all flatV) = true
    rw [flat_l P]
    rfl
theorem endD_snoc {L : Sd} {P : List Nat} {i : Nat} (hi : i < L.length) : endD (L.take (i + 1)) P = if L[i].1 ∈ P then endD (L.take i) P else endD (L.take i) P ++ [L[i]] := by
  unfold endD
  rw [List.take_add_one, List.getElem?_eq_getElem hi, List.filter_append]
  show _ ++ List.filter _ [L[i]] = _
  by_cases h : L[i].1 ∈ P
  · rw [if_pos h, List.filter_cons, if_neg (by simp [h])]
    simp
  · rw [if_neg h, List.filter_cons, if_pos (by simp [h])]
    rfl
theorem look_take {L : Sd} (nd : (L.map (·.1)).Nodup) {P : List Nat} {i : Nat} (hi : i < L.length) : look (endD (L.take i) P) L[i].1 = none := by
  cases e : look (endD (L.take i) P) L[i].1 with
  | none => rfl
  | some t =>
    exfalso
    have hm := (List.mem_filter.mp (look_mem e)).1
    obtain ⟨j, hj, ej⟩ := List.getElem_of_mem hm
    have hj2 : j < i := by rw [List.length_take] at hj; omega
    have e1 : (L.map (·.1))[j]'(by rw [List.length_map]; omega) = (L.map (·.1))[i]'(by rw [List.length_map]; exact hi) := by
      rw [List.getElem_map, List.getElem_map]
      rw [List.getElem_take] at ej
      rw [ej]
    exact (List.pairwise_iff_getElem.mp nd) j i _ _ hj2 e1
theorem last_at {α : Type} {xs : List α} {x : α} : atI (xs ++ [x]) (-1) = some x := by
  unfold atI ixN
  rw [if_neg (by decide), if_pos (by rw [List.length_append]; simp; omega)]
  show (xs ++ [x])[_]? = _
  have e : (-1 + ((xs ++ [x]).length : Int)).toNat = xs.length := by rw [List.length_append]; simp; omega
  rw [e]
  simp
theorem at_last {l : List Nat} {m : Nat} (h : l.getLast? = some m) : atI (l.map fun (k : Nat) => V.int (k : Int)) (-1) = some (.int (m : Int)) := by
  obtain ⟨ys, e⟩ := List.getLast?_eq_some_iff.mp h
  rw [e, List.map_append]
  exact last_at
theorem cut_one (xs : List V) : cutV xs none (some 1) = xs.take 1 := by
  cases xs with
  | nil => rfl
  | cons a r =>
    unfold cutV
    have h1 : HT.sIx (a :: r).length 0 none = 0 := rfl
    have h2 : HT.sIx (a :: r).length (a :: r).length (some 1) = 1 := by
      unfold HT.sIx
      simp
    rw [h1, h2]
    rfl
theorem eq_of_sortedK {α : Type} {f : α → Int} : ∀ {a b : List α}, a.Pairwise (fun x y => f x < f y) → b.Pairwise (fun x y => f x < f y) → (∀ x, x ∈ a ↔ x ∈ b) → a = b
  | [], [], _, _, _ => rfl
  | [], y :: b, _, _, h => absurd ((h y).mpr List.mem_cons_self) (by simp)
  | x :: a, [], _, _, h => absurd ((h x).mp List.mem_cons_self) (by simp)
  | x :: a, y :: b, ha, hb, h => by
    rw [List.pairwise_cons] at ha hb
    have e : x = y := by
      rcases List.mem_cons.mp ((h x).mp List.mem_cons_self) with r | r
      · exact r
      · rcases List.mem_cons.mp ((h y).mpr List.mem_cons_self) with r2 | r2
        · exact r2.symm
        · have h1 := hb.1 _ r
          have h2 := ha.1 _ r2
          omega
    subst e
    rw [eq_of_sortedK ha.2 hb.2 fun z => ⟨fun m => ?_, fun m => ?_⟩]
    · rcases List.mem_cons.mp ((h z).mp (List.mem_cons_of_mem _ m)) with r | r
      · have := ha.1 _ m; rw [r] at this; omega
      · exact r
    · rcases List.mem_cons.mp ((h z).mpr (List.mem_cons_of_mem _ m)) with r | r
      · have := hb.1 _ m; rw [r] at this; omega
      · exact r
def cstE (e : Nat × Int) : Int × Int := ((e.1 : Int), e.2)
theorem pend_sorted {L : Sd} (O : OkD L) {A : List (Int × Int)} (hp : A.Perm (L.map cstE)) (hs : A.Pairwise fun x y => SrtO.lexB y x = false) : A = (pendD L).map cstE := by
  have nd0 : (L.map cstE).Pairwise (fun x y => x.1 ≠ y.1) := by
    have h := O.nd
    unfold List.Nodup at h
    rw [List.pairwise_map] at h
    rw [List.pairwise_map]
    exact h.imp fun {a b} q => by show (a.1 : Int) ≠ (b.1 : Int); omega
  have nd1 : A.Pairwise (fun x y => x.1 ≠ y.1) := hp.symm.pairwise nd0 fun {x y} h => Ne.symm h
  refine eq_of_sortedK (f := Prod.fst) ((hs.and nd1).imp fun {x y} q => ?_) ?_ fun x => ?_
  · have h1 := q.1
    have h2 := q.2
    unfold SrtO.lexB at h1
    rw [if_neg (fun e => h2 e.symm)] at h1
    have := of_decide_eq_false h1
    omega
  · unfold pendD
    rw [List.map_map]
    exact List.Pairwise.map _ (fun a b h => by show (a : Int) < (b : Int); omega) (lanes_sorted L)
  · rw [hp.mem_iff]
    unfold pendD
    rw [List.map_map, List.mem_map, List.mem_map]
    constructor
    · rintro ⟨e, he, rfl⟩
      have := look_of_mem O.nd he
      refine ⟨e.1, (mem_lanes O).mpr (by rw [this]; rfl), ?_⟩
      show cstE (e.1, (look L e.1).getD 0) = _
      rw [this]
      rfl
    · rintro ⟨l, hl, rfl⟩
      have h := (mem_lanes O).mp hl
      cases q : look L l with
      | none => rw [q] at h; cases h
      | some t =>
        refine ⟨_, look_mem q, ?_⟩
        show _ = cstE (l, (look L l).getD 0)
        rw [q]
        rfl
/-- the pair at an address -/
def kapH (H : Hp) (v : V) : Int × Int := match v with
  | .ref t => match H t with | some (.tup [.int i, .int j]) => (i, j) | _ => (0, 0)
  | _ => (0, 0)
theorem kapH_at {H : Hp} {t : Addr} {i j : Int} (h : H t = some (.tup [.int i, .int j])) : kapH H (.ref t) = (i, j) := by
  show (match H t with | some (.tup [.int i, .int j]) => (i, j) | _ => (0, 0)) = _
  rw [h]
theorem paired_kap {H : Hp} : ∀ {ys : List V} {B : List (Nat × Int)}, (∀ y ∈ ys, ∃ t, y = .ref t ∧ H t = some (.tup [.int (kapH H y).1, .int (kapH H y).2])) → ys.map (kapH H) = B.map cstE →
    ∃ ts : List Addr, ys = ts.map V.ref ∧ Paired (fun t (e : Nat × Int) => H t = some (.tup [.int (e.1 : Int), .int e.2])) ts B
  | [], [], _, _ => ⟨[], rfl, .nil⟩
  | [], b :: B, _, e => by cases e
  | y :: ys, [], _, e => by cases e
  | y :: ys, b :: B, h, e => by
    injection e with e1 e2
    obtain ⟨ts, e3, pr⟩ := paired_kap (fun z hz => h z (List.mem_cons_of_mem _ hz)) e2
    obtain ⟨t, e4, e5⟩ := h y List.mem_cons_self
    rw [e1] at e5
    exact ⟨t :: ts, by rw [e4, e3]; rfl, .cons e5 pr⟩
theorem kap_of_paired {H : Hp} : ∀ {ts : List Addr} {L : Sd}, Paired (fun t (q : Key × V) => H t = some (.tup [kV q.1, q.2])) ts (kvsD L) → (ts.map V.ref).map (kapH H) = L.map cstE ∧ ∀ y ∈ ts.map V.ref, ∃ t, y = .ref t ∧ H t = some (.tup [.int (kapH H y).1, .int (kapH H y).2])
  | [], [], _ => ⟨rfl, fun y hy => by cases hy⟩
  | [], e :: L, h => by cases h
  | t :: ts, [], h => by cases h
  | t :: ts, e :: L, h => by
    cases h with
    | cons r rr =>
      obtain ⟨e1, e2⟩ := kap_of_paired (L := L) rr
      have r' : H t = some (.tup [.int (e.1 : Int), .int e.2]) := r
      refine ⟨?_, fun y hy => ?_⟩
      · show kapH H (.ref t) :: (ts.map V.ref).map (kapH H) = cstE e :: L.map cstE
        rw [e1, kapH_at r']
        rfl
      · rcases List.mem_cons.mp hy with rfl | hy
        · exact ⟨t, rfl, by rw [kapH_at r']; exact r'⟩
        · exact e2 y hy
/-! ### a schedule on the heap -/
def fsD (d : Addr) (n : Int) : List (Str × V) := [("ticks", .ref d), ("portions", .int n)]
theorem fsD_ticks (d : Addr) (n : Int) : (fsD d n).lookup ("ticks" : Str) = some (.ref d) := by rfl
theorem fsD_portions (d : Addr) (n : Int) : (fsD d n).lookup ("portions" : Str) = some (.int n) := by rfl
theorem putD_ticks (d d' : Addr) (n : Int) : putF "ticks" (.ref d') (fsD d n) = fsD d' n := by rfl
theorem putD_portions (d : Addr) (n n' : Int) : putF "portions" (.int n') (fsD d n) = fsD d n' := by rfl
/-- a schedule stands at p, its dict at d -/
structure SchA (C : Addr) (H : Hp) (p d : Addr) (L : Sd) (n : Int) : Prop where
  ob : ∃ dx, H p = some (.ins C dx (fsD d n))
  dc : H d = some (.dK (kvsD L))
  ok : OkD L
/-- all but p and d is kept -/
def K2 (p d : Addr) (H H' : Hp) : Prop := ∀ b o, H b = some o → b ≠ p → b ≠ d → H' b = some o
theorem K2.refl {p d : Addr} {H : Hp} : K2 p d H H := fun _ _ e _ _ => e
theorem SchA.same {C p d : Addr} {H H' : Hp} {L : Sd} {n : Int} (S : SchA C H p d L n) (s : Same H H') : SchA C H' p d L n := by
  obtain ⟨⟨dx, h⟩, h2, ok⟩ := S
  exact ⟨⟨dx, s _ _ h⟩, s _ _ h2, ok⟩
theorem SchA.pd {C p d : Addr} {H : Hp} {L : Sd} {n : Int} (S : SchA C H p d L n) : p ≠ d := by
  obtain ⟨⟨dx, h⟩, h2, ok⟩ := S
  exact ne_of h h2 (by intro e; cases e)
/-- what is no instance and no dict is kept -/
theorem K2.lst {C p d a : Addr} {H H' : Hp} {L : Sd} {n : Int} (k : K2 p d H H') (S : SchA C H p d L n) {xs : List V} (h : H a = some (.lst xs)) : H' a = some (.lst xs) := by
  obtain ⟨⟨dx, h1⟩, h2, _⟩ := S
  exact k _ _ h (ne_of h h1 (by intro e; cases e)) (ne_of h h2 (by intro e; cases e))
theorem K2.tup {C p d a : Addr} {H H' : Hp} {L : Sd} {n : Int} (k : K2 p d H H') (S : SchA C H p d L n) {xs : List V} (h : H a = some (.tup xs)) : H' a = some (.tup xs) := by
  obtain ⟨⟨dx, h1⟩, h2, _⟩ := S
  exact k _ _ h (ne_of h h1 (by intro e; cases e)) (ne_of h h2 (by intro e; cases e))
def lV (l : Nat) : V := .int (l : Int)
/-! ### promises -/
def spSInit (C : Addr) : Sp := fun vs H Q _ => ∃ (p dx : Addr), vs = [.ref p] ∧ H p = some (.ins C dx []) ∧ ∀ d H', H d = none → SchA C H' p d [] 0 → (∀ b o, H b = some o → b ≠ p → H' b = some o) → Q .non H'
def spSHas (C : Addr) : Sp := fun vs H Q _ => ∃ (p d : Addr) (L : Sd) (n : Int) (l : Nat), vs = [.ref p, lV l] ∧ SchA C H p d L n ∧ Q (.bl (look L l).isSome) H
def spSWake (C : Addr) : Sp := fun vs H Q _ => ∃ (p d : Addr) (L : Sd) (n : Int) (l : Nat) (now : Int), vs = [.ref p, lV l, .int now] ∧ SchA C H p d L n ∧ l < 4 ∧ ∀ v H', SchA C H' p d (wakeD L l now) (wakeN L l n) → K2 p d H H' → Q v H'
def spSOver (C : Addr) : Sp := fun vs H Q _ => ∃ (p d : Addr) (L : Sd) (n : Int) (l : Nat) (now : Int), vs = [.ref p, lV l, .int now] ∧ SchA C H p d L n ∧ l < 4 ∧ Q (.bl (overD L now l)) H
def spSNext (C : Addr) : Sp := fun vs H Q _ => ∃ (p d : Addr) (L : Sd) (n : Int) (now : Int), vs = [.ref p, .int now] ∧ SchA C H p d L n ∧ (lanesD L = [] → ∀ H', Same H H' → Q .non H') ∧
  (lanesD L ≠ [] → ∀ t li H', Same H H' → H t = none → H li = none → H' t = some (.tup [.ref li, .bl (wholeD L now)]) → H' li = some (.lst ((passD L now).map lV)) → Q (.ref t) H')
def spSPortion (C : Addr) : Sp := fun vs H Q _ => ∃ (p d : Addr) (L : Sd) (n cost : Int), vs = [.ref p, .int cost] ∧ SchA C H p d L n ∧ ∀ H', SchA C H' p d L (if L = [] then n else n + 1) → K2 p d H H' → Q (.bl (decide (cost ≤ (if L = [] then n else n + 1)))) H'
def spSEnd (C : Addr) (K : PySem.W.Frag) : Sp := fun vs H Q _ => ∃ (p d la : Addr) (L : Sd) (n : Int) (P : List Nat), vs = [.ref p, .ref la] ∧ SchA C H p d L n ∧ SqL K H la (P.map lV) ∧ ∀ d' H', SchA C H' p d' (endD L P) 0 → K2 p d H H' → H d' = none → Q .non H'
def spSPending (C : Addr) : Sp := fun vs H Q _ => ∃ (p d : Addr) (L : Sd) (n : Int), vs = [.ref p] ∧ SchA C H p d L n ∧ ∀ r (ts : List Addr) H', Same H H' → H r = none → (∀ t ∈ ts, H t = none) → r ∉ ts → H' r = some (.lst (ts.map V.ref)) → Paired (fun t (e : Nat × Int) => H' t = some (.tup [lV e.1, .int e.2])) ts (pendD L) → Q (.ref r) H'
def spSDone (C : Addr) : Sp := fun vs H Q _ => ∃ (p d : Addr) (L : Sd) (n : Int), vs = [.ref p] ∧ SchA C H p d L n ∧ Q (.int n) H

/-! ### what k37 asks -/
theorem pendD_fst (L : Sd) : (pendD L).map (·.1) = lanesD L := by
  unfold pendD
  rw [List.map_map]
  exact List.map_id _
theorem lanes_cons {L : Sd} {m : Nat} {r : List Nat} (h : lanesD L = m :: r) : ∃ r', pendD L = (m, (look L m).getD 0) :: r' := ⟨r.map fun l => (l, (look L l).getD 0), by unfold pendD; rw [h]; rfl⟩
theorem lanes_min {L : Sd} (O : OkD L) {m : Nat} {r : List Nat} (h : lanesD L = m :: r) : ∀ e ∈ L, m ≤ e.1 := fun e he => by
  have hl : e.1 ∈ lanesD L := (mem_lanes O).mpr (by rw [look_of_mem O.nd he]; rfl)
  have hs := lanes_sorted L
  rw [h] at hl hs
  rw [List.pairwise_cons] at hs
  rcases List.mem_cons.mp hl with q | q
  · omega
  · have := hs.1 _ q; omega
theorem wakeN_min {L : Sd} (O : OkD L) {m : Nat} {r : List Nat} (h : lanesD L = m :: r) (l : Nat) (n : Int) : wakeN L l n = if l ≤ m then 0 else n := by
  unfold wakeN
  by_cases q : l ≤ m
  · rw [if_pos q, if_pos]
    rw [List.all_eq_true]
    intro e he
    exact decide_eq_true (Nat.le_trans q (lanes_min O h e he))
  · rw [if_neg q, if_neg]
    intro z
    rw [List.all_eq_true] at z
    have hm : m ∈ lanesD L := by rw [h]; exact List.mem_cons_self
    have h1 := (mem_lanes O).mp hm
    cases e : look L m with
    | none => rw [e] at h1; cases h1
    | some t =>
      have := of_decide_eq_true (z _ (look_mem e))
      exact q this
theorem lanes_wake {L : Sd} {l : Nat} {now : Int} : lanesD (wakeD L l now) = [0, 1, 2, 3].filter fun k => (look L k).isSome || decide (k = l) := by
  unfold lanesD
  refine List.filter_congr fun k _ => ?_
  rw [look_wake]
  by_cases e : k = l
  · rw [if_pos e, decide_eq_true e]; simp
  · rw [if_neg e, decide_eq_false e]; simp
theorem mem_pend {L : Sd} (O : OkD L) {l : Nat} {t : Int} : (l, t) ∈ pendD L ↔ look L l = some t := by
  unfold pendD
  rw [List.mem_map]
  constructor
  · rintro ⟨k, hk, e⟩
    injection e with e1 e2
    subst e1
    have := (mem_lanes O).mp hk
    cases q : look L k with
    | none => rw [q] at this; cases this
    | some t' => rw [q] at e2; rw [← e2]; rfl
  · intro e
    exact ⟨l, (mem_lanes O).mpr (by rw [e]; rfl), by rw [e]; rfl⟩
theorem pend_wake {L : Sd} (O : OkD L) {l : Nat} (hl : l < 4) {now : Int} : (pendD (wakeD L l now)).filter (fun e => decide (e ∈ pendD L)) = pendD L := by
  have O' := O.wake hl now
  have h1 : (pendD (wakeD L l now)).Pairwise (fun a b => (a.1 : Int) < (b.1 : Int)) := by
    unfold pendD
    exact List.Pairwise.map _ (fun a b h => by show (a : Int) < (b : Int); omega) (lanes_sorted _)
  have h2 : (pendD L).Pairwise (fun a b => (a.1 : Int) < (b.1 : Int)) := by
    unfold pendD
    exact List.Pairwise.map _ (fun a b h => by show (a : Int) < (b : Int); omega) (lanes_sorted _)
  refine eq_of_sortedK (f := fun e => (e.1 : Int)) (h1.sublist List.filter_sublist) h2 fun e => ?_
  rw [List.mem_filter]
  refine ⟨fun h => of_decide_eq_true h.2, fun h => ⟨?_, decide_eq_true h⟩⟩
  obtain ⟨k, t⟩ := e
  have h3 := (mem_pend O).mp h
  refine (mem_pend O').mpr ?_
  rw [look_wake]
  by_cases q : k = l
  · subst q
    rw [if_pos rfl, h3]
    rfl
  · rw [if_neg q, h3]
theorem pend_end {L : Sd} (O : OkD L) (P : List Nat) : pendD (endD L P) = (pendD L).filter fun e => !decide (e.1 ∈ P) := by
  have O' := O.endd P
  have h1 : (pendD (endD L P)).Pairwise (fun a b => (a.1 : Int) < (b.1 : Int)) := by
    unfold pendD
    exact List.Pairwise.map _ (fun a b h => by show (a : Int) < (b : Int); omega) (lanes_sorted _)
  have h2 : (pendD L).Pairwise (fun a b => (a.1 : Int) < (b.1 : Int)) := by
    unfold pendD
    exact List.Pairwise.map _ (fun a b h => by show (a : Int) < (b : Int); omega) (lanes_sorted _)
  refine eq_of_sortedK (f := fun e => (e.1 : Int)) h1 (h2.sublist List.filter_sublist) fun e => ?_
  obtain ⟨k, t⟩ := e
  rw [List.mem_filter, mem_pend O', mem_pend O, look_end]
  by_cases q : k ∈ P
  · simp [q]
  · simp [q]
theorem overs_some {L : Sd} (O : OkD L) {now : Int} {l : Nat} (h : overD L now l = true) : ∃ m, (oversD L now).getLast? = some m ∧ l ≤ m ∧ overD L now m = true ∧ m ∈ lanesD L := by
  have hl : l ∈ oversD L now := List.mem_filter.mpr ⟨(mem_lanes O).mpr (over_some h), h⟩
  cases e : (oversD L now).getLast? with
  | none => rw [List.getLast?_eq_none_iff.mp e] at hl; cases hl
  | some m =>
    have hm : m ∈ oversD L now := List.mem_of_getLast? e
    refine ⟨m, rfl, ?_, (List.mem_filter.mp hm).2, (List.mem_filter.mp hm).1⟩
    obtain ⟨ys, ey⟩ := List.getLast?_eq_some_iff.mp e
    have hs : (oversD L now).Pairwise (· < ·) := (lanes_sorted L).sublist List.filter_sublist
    rw [ey] at hl hs
    rcases List.mem_append.mp hl with q | q
    · have := (List.pairwise_append.mp hs).2.2 _ q m (by simp)
      omega
    · rw [List.mem_singleton.mp q]; exact Nat.le_refl _
theorem pass_whole {L : Sd} {now : Int} {m : Nat} (e : (oversD L now).getLast? = some m) : passD L now = (lanesD L).filter (fun l => decide (l ≤ m)) ∧ wholeD L now = true := by
  constructor
  · unfold passD; rw [e]
  · unfold wholeD
    cases q : oversD L now with
    | nil => rw [q] at e; cases e
    | cons a r => rfl
theorem last_filter : ∀ {l : List Nat} {m : Nat}, l.Pairwise (· < ·) → m ∈ l → (l.filter fun k => decide (k ≤ m)).getLast? = some m
  | [], _, _, h => by cases h
  | a :: l, m, hs, h => by
    rw [List.pairwise_cons] at hs
    rcases List.mem_cons.mp h with rfl | h
    · have : l.filter (fun k => decide (k ≤ m)) = [] := by
        rw [List.filter_eq_nil_iff]
        intro k hk q
        have := hs.1 _ hk
        have := of_decide_eq_true q
        omega
      rw [List.filter_cons, if_pos (by simp), this]
      rfl
    · have := hs.1 _ h
      rw [List.filter_cons, if_pos (decide_eq_true (by omega)), List.getLast?_cons, last_filter hs.2 h]
      rfl
theorem pass_last {L : Sd} {now : Int} {m : Nat} (e : (oversD L now).getLast? = some m) : (passD L now).getLast? = some m := by
  rw [(pass_whole e).1]
  exact last_filter (lanes_sorted L) (List.mem_filter.mp (List.mem_of_getLast? e)).1
theorem wake_zero {L : Sd} (h : look L 0 = none) {late : Int} {m : Nat} (e : (oversD L late).getLast? = some m) : passD (wakeD L 0 late) late = 0 :: passD L late ∧ wholeD (wakeD L 0 late) late = true := by
  have h1 : lanesD (wakeD L 0 late) = 0 :: lanesD L := by
    rw [lanes_wake]
    unfold lanesD
    rw [List.filter_cons, if_pos (by simp), List.filter_cons (x := 0), if_neg (by rw [h]; exact Bool.false_ne_true)]
    congr 1
    refine List.filter_congr fun k hk => ?_
    have : k ≠ 0 := by
      simp at hk
      omega
    rw [decide_eq_false this, Bool.or_false]
  have h2 : oversD (wakeD L 0 late) late = 0 :: oversD L late := by
    unfold oversD
    rw [h1, List.filter_cons, if_pos]
    · congr 1
      refine List.filter_congr fun k hk => ?_
      have hk0 : k ≠ 0 := by
        rintro rfl
        have := (List.mem_filter.mp hk).2
        rw [h] at this
        cases this
      unfold overD
      rw [look_wake, if_neg hk0]
    · unfold overD
      rw [look_wake, if_pos rfl, h]
      exact decide_eq_true (Int.le_of_eq (Int.add_zero late))
  have h3 : (oversD (wakeD L 0 late) late).getLast? = some m := by
    rw [h2, List.getLast?_cons, e]
    rfl
  refine ⟨?_, (pass_whole h3).2⟩
  rw [(pass_whole h3).1, (pass_whole e).1, h1, List.filter_cons, if_pos (by simp)]
end VL

set_option Elab.async false
set_option linter.all false
set_option maxRecDepth 100000
set_option maxHeartbeats 4000000
namespace VL
open PySem PySem.Spec PyProof.Rows L2 S3
/-! ### methods with a keyword-only default that lacks in the call -/
def MethDE (K : PySem.W.Frag) (C : Addr) (x qual : Str) (st : Stmt) (ps : List Str) (n : Nat) (ks : List Str) (ds : List V) : Prop :=
  ∃ (f : Addr) (fd : FuncData) (g : List Value → List Value → List Value), Fun K x qual st f fd ∧ Meth K C x f ∧ KBn K fd ps n ks g (fun vs zs => vs ++ zs ++ ds)
theorem kbn_dflt {K : PySem.W.Frag} {fd : FuncData} {D : Addr} {kn : Str} {u : Value} {v : V} {ps ks : List Str} {n : Nat} (hd : PySem.W.nsIn K D kn = some (some u)) (hr : RelV v u)
    (h : ∀ us ws : List Value, us.length = n → ws.length = ks.length → KwChain D [(kn, u)] (bindArgs fd ⟨us, ks.zip ws⟩) (ps.zip (us ++ ws ++ [u]))) : KBn K fd ps n ks (fun us ws => us ++ ws ++ [u]) (fun vs zs => vs ++ zs ++ [v]) :=
  ⟨fun s us ws X l1 l2 => BindsTo.of_looks fun M => KwChain.looks X (fun q hq => by rw [List.mem_singleton.mp hq]; exact hd) (h us ws l1 l2), fun r1 r2 => (r1.append r2).append (.cons hr .nil)⟩
section
variable {P : Program} {w : World} {K : PySem.W.Frag} {mg : Str → Option Value} {base : Heap}
theorem metD_of {C : Addr} {x qual : Str} {st : Stmt} {ps ks N : List Str} {ds : List V} {k n : Nat} {sp : Sp} (D : MethDE K C x qual st ps n ks ds) (c : Cls K C) (S : FnScope N ps (defScope st)) (len : ∀ vs H Q E, sp vs H Q E → vs.length = ps.length)
    (hbody : ∀ (f : Addr) (cdv : Value) (A : Around) (outer : List Env) (s : Shared) (H : Hp) (vs : List V) (Q : VK) (E : XK), Room k (A.deeper (envOfC qual (defScope st) s.heap.objs.size f cdv)) → sp vs H Q E →
      ∃ t, PSs (cxOf CX0 P w K mg base N qual (defScope st) f cdv A outer s H E).nox (defBody st) t ∧ t { nx := fun _ H' => Q .non H', rt := Q } (start N vs) H) : MetK P w K mg base (k + 1) C x sp n ks (fun vs zs => vs ++ zs ++ ds) := by
  obtain ⟨f, fd, g, F, hm, b⟩ := D
  exact ⟨f, fd, ps, g, c, hm, F.ok S len (hbody f), b⟩
end
theorem Rn.u0 {A : Around} {k : Nat} (r : Room k A) : A.units < cLine := by have := r.un; omega
section
variable {X : Cx} {K : PySem.W.Frag}
theorem op_ltTS (hK : X.K = K) (hu : X.A.units < cLine) : OpR X (compareOp .Lt) (rLtT K) := by subst hK; exact op_ltT hu
end
/-! ### timers: the mathematics -/
structure Tm where
  num : Int
  due : Int
  per : Int
  own : Int
  lane : Int
def ltm (t u : Tm) : Bool := HT.lexLt [t.due, t.num] [u.due, u.num]
theorem ltm_iff {t u : Tm} : ltm t u = true ↔ t.due < u.due ∨ (t.due = u.due ∧ t.num < u.num) := by
  unfold ltm
  show (if t.due = u.due then (if t.num = u.num then false else decide (t.num < u.num)) else decide (t.due < u.due)) = true ↔ _
  by_cases e : t.due = u.due
  · rw [if_pos e]
    by_cases e2 : t.num = u.num
    · rw [if_pos e2]
      constructor
      · intro h; cases h
      · omega
    · rw [if_neg e2, decide_eq_true_eq]
      omega
  · rw [if_neg e, decide_eq_true_eq]
    omega
abbrev Tl := List (Addr × Tm)
def cntT (L : Tl) (t : Tm) : Nat := (L.filter fun e => ltm e.2 t).length
def insT (L : Tl) (e : Addr × Tm) : Tl := L.take (cntT L e.2) ++ [e] ++ L.drop (cntT L e.2)
abbrev SrtT (L : Tl) : Prop := L.Pairwise fun e f => ltm e.2 f.2 = true
theorem mem_ins {L : Tl} {e f : Addr × Tm} : f ∈ insT L e ↔ f = e ∨ f ∈ L := by
  unfold insT
  conv => rhs; rw [← List.take_append_drop (cntT L e.2) L]
  simp only [List.mem_append, List.mem_singleton]
  constructor
  · rintro ((h | h) | h)
    · exact .inr (.inl h)
    · exact .inl h
    · exact .inr (.inr h)
  · rintro (h | h | h)
    · exact .inl (.inr h)
    · exact .inl (.inl h)
    · exact .inr h
theorem ins_len {L : Tl} {e : Addr × Tm} : (insT L e).length = L.length + 1 := by
  unfold insT
  rw [List.length_append, List.length_append, List.length_take, List.length_drop, List.length_singleton]
  have := List.length_filter_le (fun f : Addr × Tm => ltm f.2 e.2) L
  unfold cntT
  omega
theorem ins_cons_lt {a : Addr × Tm} {L : Tl} {e : Addr × Tm} (h : ltm a.2 e.2 = true) : insT (a :: L) e = a :: insT L e := by
  unfold insT
  have : cntT (a :: L) e.2 = cntT L e.2 + 1 := by unfold cntT; rw [List.filter_cons, if_pos h, List.length_cons]
  rw [this]
  rfl
theorem ins_all_ge {L : Tl} {e : Addr × Tm} (h : ∀ f ∈ L, ltm f.2 e.2 = false) : insT L e = e :: L := by
  unfold insT
  have : cntT L e.2 = 0 := by
    unfold cntT
    rw [List.length_eq_zero_iff, List.filter_eq_nil_iff]
    intro f hf
    rw [h f hf]
    exact Bool.false_ne_true
  rw [this]
  rfl
theorem ins_srt : ∀ {L : Tl} {e : Addr × Tm}, SrtT L → (∀ f ∈ L, f.2.num ≠ e.2.num) → SrtT (insT L e)
  | [], e, _, _ => by
    show SrtT [e]
    exact List.pairwise_singleton _ _
  | a :: L, e, hs, hn => by
    have hs' := List.pairwise_cons.mp hs
    cases q : ltm a.2 e.2 with
    | true =>
      rw [ins_cons_lt q]
      refine List.pairwise_cons.mpr ⟨fun f hf => ?_, ins_srt hs'.2 fun f hf => hn f (List.mem_cons_of_mem _ hf)⟩
      rcases mem_ins.mp hf with rfl | hf
      · exact q
      · exact hs'.1 f hf
    | false =>
      have lt : ltm e.2 a.2 = true := by
        have h1 := hn a List.mem_cons_self
        have h2 : ¬ (a.2.due < e.2.due ∨ (a.2.due = e.2.due ∧ a.2.num < e.2.num)) := fun z => by rw [ltm_iff.mpr z] at q; cases q
        refine ltm_iff.mpr ?_
        omega
      have all : ∀ f ∈ a :: L, ltm e.2 f.2 = true := fun f hf => by
        rcases List.mem_cons.mp hf with rfl | hf
        · exact lt
        · have h1 := ltm_iff.mp lt
          have h2 := ltm_iff.mp (hs'.1 f hf)
          refine ltm_iff.mpr ?_
          omega
      rw [ins_all_ge fun f hf => ?_]
      · exact List.pairwise_cons.mpr ⟨all, hs⟩
      · have h1 := ltm_iff.mp (all f hf)
        cases z : ltm f.2 e.2 with
        | false => rfl
        | true =>
          have h2 := ltm_iff.mp z
          omega
/-! ### events -/
def EvT (r : Trip) (d : Int) : Prop := if r.2.2 = true then ∃ j : Nat, 1 ≤ j ∧ d = r.1 + (j : Int) * r.2.1 else d = r.1 + r.2.1
def PdT (r : Trip) (t : Tm) : Prop := if r.2.2 = true then t.per = r.2.1 ∧ ∃ j : Nat, 1 ≤ j ∧ t.due = r.1 + (j : Int) * r.2.1 else t.per = 0 ∧ t.due = r.1 + r.2.1
structure OkR (R : List Trip) : Prop where
  len : R.length ≤ 20
  now : ∀ r ∈ R, 0 ≤ r.1 ∧ r.1 < 12
  tk : ∀ r ∈ R, 0 ≤ r.2.1
  tu : ∀ r ∈ R, r.2.1 ≤ 10
  ag : ∀ r ∈ R, r.2.2 = true → 1 ≤ r.2.1
  st : R.Pairwise fun x y => x.1 ≤ y.1
abbrev Fl := List (Int × Int)
def ltF (e f : Int × Int) : Prop := e.1 < f.1 ∨ (e.1 = f.1 ∧ e.2 < f.2)
/-- the timers of the first n rows, L running, F fired -/
structure MInv (R : List Trip) (n : Nat) (F : Fl) (L : Tl) : Prop where
  hn : n ≤ R.length
  ls : SrtT L
  nu : L.Pairwise fun e f => e.2.num ≠ f.2.num
  fs : F.Pairwise ltF
  fl : ∀ e ∈ F, ∀ f ∈ L, ltF e (f.2.due, f.2.num)
  lm : ∀ f ∈ L, ∃ k, k < n ∧ f.2.num = (k : Int) + 1 ∧ f.2.own = (k : Int) + 1 ∧ ∃ r, R[k]? = some r ∧ PdT r f.2
  fm : ∀ e ∈ F, ∃ k, k < n ∧ e.2 = (k : Int) + 1 ∧ ∃ r, R[k]? = some r ∧ EvT r e.1
  al : ∀ k, k < n → ∀ r, R[k]? = some r → ∀ d, EvT r d → (d, (k : Int) + 1) ∈ F ∨ ∃ f ∈ L, f.2.num = (k : Int) + 1 ∧ f.2.due ≤ d
theorem MInv.nil {R : List Trip} : MInv R 0 [] [] := ⟨Nat.zero_le _, .nil, .nil, .nil, fun e he => (by cases he), fun f hf => (by cases hf), fun e he => (by cases he), fun k hk => absurd hk (Nat.not_lt_zero _)⟩
def nextT (t : Tm) : Tm := { t with due := t.due + t.per }
theorem PdT.ev {r : Trip} {t : Tm} (h : PdT r t) : EvT r t.due := by
  unfold PdT at h
  unfold EvT
  split
  · rename_i q
    rw [if_pos q] at h
    exact h.2
  · rename_i q
    rw [if_neg q] at h
    exact h.2
theorem PdT.next {r : Trip} {t : Tm} (h : PdT r t) (ht : t.per > 0) (h0 : 0 ≤ r.2.1) : PdT r (nextT t) ∧ (∀ d, EvT r d → t.due ≤ d → d ≠ t.due → (nextT t).due ≤ d) := by
  unfold PdT at h ⊢
  unfold EvT
  by_cases q : r.2.2 = true
  · rw [if_pos q] at h ⊢
    obtain ⟨e, j, hj, ej⟩ := h
    have es : (nextT t).due = r.1 + ((j + 1 : Nat) : Int) * r.2.1 := by
      show t.due + t.per = _
      rw [ej, e]
      push_cast
      rw [Int.add_mul]
      omega
    refine ⟨⟨e, j + 1, by omega, es⟩, fun d hd h1 h2 => ?_⟩
    rw [if_pos q] at hd
    obtain ⟨i, hi, ei⟩ := hd
    rw [es, ei]
    have hij : j + 1 ≤ i := by
      rcases Nat.lt_or_ge j i with z | z
      · exact z
      · exfalso
        have : (i : Int) * r.2.1 ≤ (j : Int) * r.2.1 := Int.mul_le_mul_of_nonneg_right (by omega) h0
        omega
    have : ((j + 1 : Nat) : Int) * r.2.1 ≤ (i : Int) * r.2.1 := Int.mul_le_mul_of_nonneg_right (by omega) h0
    omega
  · rw [if_neg q] at h
    omega
theorem PdT.last {r : Trip} {t : Tm} (h : PdT r t) (ht : ¬ t.per > 0) (ag : r.2.2 = true → 1 ≤ r.2.1) : ∀ d, EvT r d → d = t.due := by
  intro d hd
  unfold PdT at h
  unfold EvT at hd
  by_cases q : r.2.2 = true
  · rw [if_pos q] at h
    have := ag q
    omega
  · rw [if_neg q] at h hd
    omega
theorem MInv.fire {R : List Trip} (O : OkR R) {n : Nat} {F : Fl} {x : Addr} {t : Tm} {L : Tl} (I : MInv R n F ((x, t) :: L)) :
    MInv R n (F ++ [(t.due, t.num)]) (if t.per > 0 then insT L (x, nextT t) else L) := by
  obtain ⟨hn, ls, nu, fs, fl, lm, fm, al⟩ := I
  have ls' := List.pairwise_cons.mp ls
  have nu' := List.pairwise_cons.mp nu
  obtain ⟨k0, hk0, e0, eo, r0, hr0, p0⟩ := lm _ List.mem_cons_self
  have r0m : r0 ∈ R := List.mem_of_getElem? hr0
  dsimp only at e0 eo p0
  have hdr : ∀ f ∈ L, ltF (t.due, t.num) (f.2.due, f.2.num) := fun f hf => ltm_iff.mp (ls'.1 f hf)
  have fs2 : (F ++ [(t.due, t.num)]).Pairwise ltF := List.pairwise_append.mpr ⟨fs, List.pairwise_singleton _ _, fun a ha b hb => by
    rw [List.mem_singleton.mp hb]
    exact fl a ha _ List.mem_cons_self⟩
  have fm2 : ∀ e ∈ F ++ [(t.due, t.num)], ∃ k, k < n ∧ e.2 = (k : Int) + 1 ∧ ∃ r, R[k]? = some r ∧ EvT r e.1 := fun e he => by
    rcases List.mem_append.mp he with he | he
    · exact fm e he
    · rw [List.mem_singleton.mp he]
      exact ⟨k0, hk0, e0, r0, hr0, p0.ev⟩
  have fl2 : ∀ e ∈ F ++ [(t.due, t.num)], ∀ f ∈ L, ltF e (f.2.due, f.2.num) := fun e he f hf => by
    rcases List.mem_append.mp he with he | he
    · exact fl e he f (List.mem_cons_of_mem _ hf)
    · rw [List.mem_singleton.mp he]
      exact hdr f hf
  have al2 : ∀ k, k < n → ∀ r, R[k]? = some r → ∀ d, EvT r d → ((d, (k : Int) + 1) ∈ F ++ [(t.due, t.num)] ∨ ∃ f ∈ L, f.2.num = (k : Int) + 1 ∧ f.2.due ≤ d) ∨ (k = k0 ∧ t.due ≤ d ∧ d ≠ t.due) := fun k hk r hr d hd => by
    rcases al k hk r hr d hd with h | ⟨f, hf, h1, h2⟩
    · exact .inl (.inl (List.mem_append_left _ h))
    · rcases List.mem_cons.mp hf with rfl | hf
      · dsimp only at h1 h2
        have ek : k = k0 := by omega
        by_cases q : d = t.due
        · refine .inl (.inl (List.mem_append_right _ (List.mem_singleton.mpr ?_)))
          rw [q, h1]
        · exact .inr ⟨ek, h2, q⟩
      · exact .inl (.inr ⟨f, hf, h1, h2⟩)
  split
  · rename_i ht
    obtain ⟨pn, en⟩ := p0.next ht (O.tk r0 r0m)
    refine ⟨hn, ins_srt ls'.2 fun f hf e => nu'.1 f hf e.symm, ?_, fs2, fun e he f hf => ?_, fun f hf => ?_, fm2, fun k hk r hr d hd => ?_⟩
    · have hp : (insT L (x, nextT t)).Perm ((x, nextT t) :: L) := by
        unfold insT
        have h1 : (L.take (cntT L (nextT t)) ++ [(x, nextT t)] ++ L.drop (cntT L (nextT t))).Perm ([(x, nextT t)] ++ L.take (cntT L (nextT t)) ++ L.drop (cntT L (nextT t))) := List.Perm.append_right _ List.perm_append_comm
        refine h1.trans ?_
        rw [List.append_assoc, List.take_append_drop]
        exact List.Perm.refl _
      refine hp.symm.pairwise (List.pairwise_cons.mpr ⟨fun f hf => nu'.1 f hf, nu'.2⟩) fun {a b} h => Ne.symm h
    · rcases mem_ins.mp hf with rfl | hf
      · have h1 : ltF (t.due, t.num) ((nextT t).due, (nextT t).num) := .inl (by show t.due < t.due + t.per; omega)
        rcases List.mem_append.mp he with he | he
        · have h2 := fl e he _ List.mem_cons_self
          unfold ltF at h1 h2 ⊢
          dsimp only at h1 h2 ⊢
          omega
        · rw [List.mem_singleton.mp he]
          exact h1
      · exact fl2 e he f hf
    · rcases mem_ins.mp hf with rfl | hf
      · exact ⟨k0, hk0, e0, eo, r0, hr0, pn⟩
      · exact lm f (List.mem_cons_of_mem _ hf)
    · rcases al2 k hk r hr d hd with (h | ⟨f, hf, h1, h2⟩) | ⟨rfl, h1, h2⟩
      · exact .inl h
      · exact .inr ⟨f, mem_ins.mpr (.inr hf), h1, h2⟩
      · rw [hr0] at hr
        cases hr
        exact .inr ⟨(x, nextT t), mem_ins.mpr (.inl rfl), e0, en d hd h1 h2⟩
  · rename_i ht
    have lst := p0.last ht (O.ag r0 r0m)
    refine ⟨hn, ls'.2, nu'.2, fs2, fl2, fun f hf => lm f (List.mem_cons_of_mem _ hf), fm2, fun k hk r hr d hd => ?_⟩
    rcases al2 k hk r hr d hd with h | ⟨rfl, h1, h2⟩
    · exact h
    · rw [hr0] at hr
      cases hr
      exact absurd (lst d hd) h2
/-- a timer is started -/
def newT (n : Nat) (r : Trip) : Tm := { num := (n : Int) + 1, due := r.1 + r.2.1, per := if r.2.2 = true then r.2.1 else 0, own := (n : Int) + 1, lane := 1 }
theorem PdT.new {n : Nat} {r : Trip} : PdT r (newT n r) := by
  unfold PdT newT
  by_cases q : r.2.2 = true
  · rw [if_pos q]
    dsimp only
    rw [if_pos q]
    exact ⟨rfl, 1, Nat.le_refl _, by omega⟩
  · rw [if_neg q]
    dsimp only
    rw [if_neg q]
    exact ⟨rfl, rfl⟩
theorem EvT.ge {r : Trip} (h0 : 0 ≤ r.2.1) {d : Int} (h : EvT r d) : r.1 + r.2.1 ≤ d := by
  unfold EvT at h
  by_cases q : r.2.2 = true
  · rw [if_pos q] at h
    obtain ⟨j, hj, e⟩ := h
    have : ((1 : Nat) : Int) * r.2.1 ≤ (j : Int) * r.2.1 := Int.mul_le_mul_of_nonneg_right (by omega) h0
    omega
  · rw [if_neg q] at h
    omega
theorem MInv.start {R : List Trip} (O : OkR R) {n : Nat} {F : Fl} {L : Tl} (I : MInv R n F L) {r : Trip} (hr : R[n]? = some r) (hl : ∀ e ∈ F, e.1 < r.1) (x : Addr) : MInv R (n + 1) F (insT L (x, newT n r)) := by
  obtain ⟨hn, ls, nu, fs, fl, lm, fm, al⟩ := I
  have rm : r ∈ R := List.mem_of_getElem? hr
  have hlen : n < R.length := by
    rcases Nat.lt_or_ge n R.length with h | h
    · exact h
    · rw [List.getElem?_eq_none h] at hr
      cases hr
  have nn : ∀ f ∈ L, f.2.num ≠ (newT n r).num := fun f hf => by
    obtain ⟨k, hk, e, _⟩ := lm f hf
    show f.2.num ≠ (n : Int) + 1
    omega
  refine ⟨hlen, ins_srt ls nn, ?_, fs, fun e he f hf => ?_, fun f hf => ?_, fun e he => ?_, fun k hk r' hr' d hd => ?_⟩
  · have hp : (insT L (x, newT n r)).Perm ((x, newT n r) :: L) := by
      unfold insT
      have h1 : (L.take (cntT L (newT n r)) ++ [(x, newT n r)] ++ L.drop (cntT L (newT n r))).Perm ([(x, newT n r)] ++ L.take (cntT L (newT n r)) ++ L.drop (cntT L (newT n r))) := List.Perm.append_right _ List.perm_append_comm
      refine h1.trans ?_
      rw [List.append_assoc, List.take_append_drop]
      exact List.Perm.refl _
    exact hp.symm.pairwise (List.pairwise_cons.mpr ⟨fun f hf => (nn f hf).symm, nu⟩) fun {a b} h => Ne.symm h
  · rcases mem_ins.mp hf with rfl | hf
    · have h1 := hl e he
      have h2 := O.tk r rm
      exact .inl (by show e.1 < r.1 + r.2.1; omega)
    · exact fl e he f hf
  · rcases mem_ins.mp hf with rfl | hf
    · exact ⟨n, Nat.lt_succ_self _, rfl, rfl, r, hr, PdT.new⟩
    · obtain ⟨k, hk, h⟩ := lm f hf
      exact ⟨k, by omega, h⟩
  · obtain ⟨k, hk, h⟩ := fm e he
    exact ⟨k, by omega, h⟩
  · by_cases q : k = n
    · subst q
      rw [hr] at hr'
      cases hr'
      exact .inr ⟨_, mem_ins.mpr (.inl rfl), rfl, hd.ge (O.tk r rm)⟩
    · rcases al k (by omega) r' hr' d hd with h | ⟨f, hf, h⟩
      · exact .inl h
      · exact .inr ⟨f, mem_ins.mpr (.inr hf), h⟩
/-- all that is due has fired -/
theorem MInv.done {R : List Trip} {n : Nat} {F : Fl} {L : Tl} (I : MInv R n F L) {last : Int} (hf : ∀ e ∈ F, e.1 ≤ last) (hL : ∀ f ∈ L, last < f.2.due) : ∀ d m, (d, m) ∈ F ↔ d ≤ last ∧ ∃ k, k < n ∧ m = (k : Int) + 1 ∧ ∃ r, R[k]? = some r ∧ EvT r d := by
  intro d m
  constructor
  · intro h
    obtain ⟨k, hk, e, h2⟩ := I.fm _ h
    exact ⟨hf _ h, k, hk, e, h2⟩
  · rintro ⟨h1, k, hk, rfl, r, hr, he⟩
    rcases I.al k hk r hr d he with h | ⟨f, hf2, h2, h3⟩
    · exact h
    · have := hL f hf2
      omega
theorem head_due {L : Tl} {e : Addr × Tm} (h : SrtT (e :: L)) {last : Int} (hd : last < e.2.due) : ∀ f ∈ e :: L, last < f.2.due := fun f hf => by
  rcases List.mem_cons.mp hf with rfl | hf
  · exact hd
  · have := ltm_iff.mp ((List.pairwise_cons.mp h).1 f hf)
    omega
theorem nodup_len {α : Type} [DecidableEq α] : ∀ (l D : List α), l.Nodup → (∀ x ∈ l, x ∈ D) → l.length ≤ D.length
  | [], _, _, _ => Nat.zero_le _
  | x :: l, D, hn, hs => by
    obtain ⟨h1, h2⟩ := List.nodup_cons.mp hn
    have hx : x ∈ D := hs x List.mem_cons_self
    have ih := nodup_len l (D.erase x) h2 fun y hy => by
      have hne : y ≠ x := fun e => h1 (e ▸ hy)
      exact (List.mem_erase_of_ne hne).2 (hs y (List.mem_cons_of_mem _ hy))
    have e := List.length_erase_of_mem hx
    have hp : 0 < D.length := List.length_pos_of_mem hx
    rw [List.length_cons]
    omega
def codeF (e : Int × Int) : Int := e.1 * 21 + e.2
theorem codeF_lt {e f : Int × Int} (h : ltF e f) (h1 : e.2 ≤ 20) (h2 : 0 < f.2) : codeF e < codeF f := by
  unfold ltF at h
  unfold codeF
  omega
/-- not too many fire -/
theorem MInv.few {R : List Trip} (O : OkR R) {n : Nat} {F : Fl} {L : Tl} (I : MInv R n F L) {last : Int} (hf : ∀ e ∈ F, e.1 ≤ last) (hl : last < 60) : F.length < 1500 := by
  have hb : ∀ e ∈ F, 0 ≤ e.1 ∧ e.1 < 60 ∧ 1 ≤ e.2 ∧ e.2 ≤ 20 := fun e he => by
    obtain ⟨k, hk, e2, r, hr, ev⟩ := I.fm e he
    have rm : r ∈ R := List.mem_of_getElem? hr
    have h1 := ev.ge (O.tk r rm)
    have h2 := (O.now r rm).1
    have h3 := O.tk r rm
    have h4 := hf e he
    have h5 := I.hn
    have h6 := O.len
    omega
  have hs : (F.map fun e => (codeF e).toNat).Nodup := by
    unfold List.Nodup
    rw [List.pairwise_map]
    refine List.Pairwise.imp_of_mem (fun {a b} ha hb' h => ?_) I.fs
    have h1 := hb a ha
    have h2 := hb b hb'
    have h3 := codeF_lt h (by omega) (by omega)
    have h4 : 0 ≤ codeF a := by unfold codeF; omega
    omega
  have := nodup_len _ (List.range 1281) hs fun x hx => by
    obtain ⟨e, he, rfl⟩ := List.mem_map.mp hx
    have h1 := hb e he
    rw [List.mem_range]
    unfold codeF
    omega
  rw [List.length_map, List.length_range] at this
  omega
end VL

set_option Elab.async false
set_option linter.all false
set_option maxRecDepth 100000
set_option maxHeartbeats 4000000
namespace VL
open PySem PySem.Spec PyProof.Rows L2 S3
theorem at0 {x : V} {xs : List V} : atI (x :: xs) 0 = some x := by
  unfold atI ixN
  rw [if_pos (Int.le_refl 0), if_pos (by rw [List.length_cons]; omega)]
  rfl
theorem atI_nat {xs : List V} {i : Nat} (h : i < xs.length) : atI xs (0 + (i : Int)) = xs[i]? := by
  rw [Int.zero_add]
  unfold atI ixN
  rw [if_pos (by omega), if_pos (by omega), Int.toNat_natCast]
  rfl
theorem paired_snocT {α β : Type} {G : α → β → Prop} {a : α} {b : β} (h : G a b) : ∀ {l₁ : List α} {l₂ : List β}, Paired G l₁ l₂ → Paired G (l₁ ++ [a]) (l₂ ++ [b])
  | _, _, .nil => .cons h .nil
  | _, _, .cons r t => .cons r (paired_snocT h t)
theorem pairedT_get {α β : Type} {G : α → β → Prop} : ∀ {l₁ : List α} {l₂ : List β}, Paired G l₁ l₂ → ∀ (i : Nat) (h1 : i < l₁.length), ∃ h2 : i < l₂.length, G l₁[i] l₂[i]
  | _, _, .cons r t, 0, _ => ⟨Nat.succ_pos _, r⟩
  | _, _, .cons r t, i + 1, h1 => by
    obtain ⟨h2, g⟩ := pairedT_get t i (Nat.lt_of_succ_lt_succ h1)
    exact ⟨Nat.succ_lt_succ h2, g⟩
theorem pairedT_len {α β : Type} {G : α → β → Prop} : ∀ {l₁ : List α} {l₂ : List β}, Paired G l₁ l₂ → l₁.length = l₂.length
  | _, _, .nil => rfl
  | _, _, .cons _ t => congrArg Nat.succ (pairedT_len t)
/-! ### timers on the heap -/
def fsS (l : Addr) (n : Int) : List (Str × V) := [("running", .ref l), ("last", .int n)]
def fsT (t : Tm) (p : Addr) : List (Str × V) := [("number", .int t.num), ("due", .int t.due), ("period", .int t.per), ("owner", .int t.own), ("performed", .ref p)]
theorem fsS_running (l : Addr) (n : Int) : (fsS l n).lookup ("running" : Str) = some (.ref l) := by rfl
theorem fsS_last (l : Addr) (n : Int) : (fsS l n).lookup ("last" : Str) = some (.int n) := by rfl
theorem putS_last (l : Addr) (n n' : Int) : putF "last" (.int n') (fsS l n) = fsS l n' := by rfl
theorem fsT_number (t : Tm) (p : Addr) : (fsT t p).lookup ("number" : Str) = some (.int t.num) := by rfl
theorem fsT_due (t : Tm) (p : Addr) : (fsT t p).lookup ("due" : Str) = some (.int t.due) := by rfl
theorem fsT_period (t : Tm) (p : Addr) : (fsT t p).lookup ("period" : Str) = some (.int t.per) := by rfl
theorem fsT_owner (t : Tm) (p : Addr) : (fsT t p).lookup ("owner" : Str) = some (.int t.own) := by rfl
theorem fsT_performed (t : Tm) (p : Addr) : (fsT t p).lookup ("performed" : Str) = some (.ref p) := by rfl
theorem putT_due (t : Tm) (p : Addr) (d : Int) : putF "due" (.int d) (fsT t p) = fsT { t with due := d } p := by rfl
/-- a timer stands at x; what it performs stands in G -/
def TmA (CT : Addr) (G H : Hp) (x : Addr) (t : Tm) : Prop := ∃ dx p e b, H x = some (.ins CT dx (fsT t p)) ∧ G p = some (.tup [.int t.lane, .ref e, .ref b, .int 0]) ∧ G e = some (.dK []) ∧ G b = some (.lst [])
/-- timers stand at a, their list at l; G stays -/
structure TsA (CT CS : Addr) (G H : Hp) (a l : Addr) (L : Tl) (n : Int) : Prop where
  ob : ∃ dx, H a = some (.ins CS dx (fsS l n))
  ls : H l = some (.lst (L.map fun e => V.ref e.1))
  tm : ∀ e ∈ L, TmA CT G H e.1 e.2
  nd : (L.map (·.1)).Nodup
  sm : Same G H
  ga : G a = none
  gl : G l = none
  gx : ∀ e ∈ L, G e.1 = none
/-- what is not of the timers is kept -/
def Fr3 (a l : Addr) (L : Tl) (H H' : Hp) : Prop := ∀ b o, H b = some o → b ≠ a → b ≠ l → (∀ e ∈ L, b ≠ e.1) → H' b = some o
/-- G grows by what is new -/
structure Gro (H G G' : Hp) : Prop where
  sm : Same G G'
  nw : ∀ b o, H b = some o → G' b = G b
theorem Gro.refl {H G : Hp} : Gro H G G := ⟨fun _ _ e => e, fun _ _ _ => rfl⟩
theorem TsA.al {CT CS : Addr} {G H : Hp} {a l : Addr} {L : Tl} {n : Int} (S : TsA CT CS G H a l L n) : a ≠ l := by
  obtain ⟨dx, h⟩ := S.ob
  exact ne_of h S.ls (by intro e; cases e)
theorem TsA.lx {CT CS : Addr} {G H : Hp} {a l : Addr} {L : Tl} {n : Int} (S : TsA CT CS G H a l L n) : ∀ e ∈ L, e.1 ≠ l := fun e he => by
  obtain ⟨dx, p, e1, b, h, _⟩ := S.tm e he
  exact ne_of h S.ls (by intro e; cases e)
theorem fs_ne {CT CS : Addr} {dx dy l p : Addr} {n : Int} {t : Tm} : HO.ins CT dx (fsT t p) ≠ HO.ins CS dy (fsS l n) := by
  intro e
  injection e with _ _ e
  exact absurd (congrArg List.length e) (by show ¬ (5 = 2); decide)
theorem TsA.ax {CT CS : Addr} {G H : Hp} {a l : Addr} {L : Tl} {n : Int} (S : TsA CT CS G H a l L n) : ∀ e ∈ L, e.1 ≠ a := fun e he => by
  obtain ⟨dx, p, e1, b, h, _⟩ := S.tm e he
  obtain ⟨dy, h2⟩ := S.ob
  exact ne_of h h2 fs_ne
theorem TsA.mono {CT CS : Addr} {G H H' : Hp} {a l : Addr} {L : Tl} {n : Int} (S : TsA CT CS G H a l L n) (s : Same H H') : TsA CT CS G H' a l L n := by
  obtain ⟨⟨dx, h⟩, h2, h3, h4, h5, h6, h7, h8⟩ := S
  exact ⟨⟨dx, s _ _ h⟩, s _ _ h2, fun e he => by
    obtain ⟨dx, p, e1, b, h, r⟩ := h3 e he
    exact ⟨dx, p, e1, b, s _ _ h, r⟩, h4, h5.trans s, h6, h7, h8⟩
/-- something else changes at q -/
theorem TsA.other {CT CS : Addr} {G H H' : Hp} {a l q : Addr} {L : Tl} {n : Int} (S : TsA CT CS G H a l L n) (k : ∀ b o, H b = some o → b ≠ q → H' b = some o) (gq : G q = none) (qa : a ≠ q) (ql : l ≠ q) (qx : ∀ e ∈ L, e.1 ≠ q) : TsA CT CS G H' a l L n := by
  obtain ⟨⟨dx, h⟩, h2, h3, h4, h5, h6, h7, h8⟩ := S
  exact ⟨⟨dx, k _ _ h qa⟩, k _ _ h2 ql, fun e he => by
    obtain ⟨dx, p, e1, b, h, r⟩ := h3 e he
    exact ⟨dx, p, e1, b, k _ _ h (qx e he), r⟩, h4, fun b o e => k _ _ (h5 _ _ e) (ne_of_none e gq), h6, h7, h8⟩
theorem ins_perm {L : Tl} {e : Addr × Tm} : (insT L e).Perm (e :: L) := by
  unfold insT
  have h1 : (L.take (cntT L e.2) ++ [e] ++ L.drop (cntT L e.2)).Perm ([e] ++ L.take (cntT L e.2) ++ L.drop (cntT L e.2)) := List.Perm.append_right _ List.perm_append_comm
  refine h1.trans ?_
  rw [List.append_assoc, List.take_append_drop]
  exact List.Perm.refl _
theorem TsA.put {CT CS : Addr} {G H : Hp} {a l x : Addr} {L : Tl} {n : Int} {t : Tm} (S : TsA CT CS G H a l L n) (h : TmA CT G H x t) (gx : G x = none) (xL : x ∉ L.map (·.1)) : TsA CT CS G (upd H l (.lst ((insT L (x, t)).map fun e => V.ref e.1))) a l (insT L (x, t)) n := by
  have al := S.al
  have lx := S.lx
  obtain ⟨⟨dx, h1⟩, h2, h3, h4, h5, h6, h7, h8⟩ := S
  obtain ⟨dz, pz, ez, bz, hz, gz⟩ := h
  have xl : x ≠ l := ne_of hz h2 (by intro e; cases e)
  refine ⟨⟨dx, by rw [upd_ne al]; exact h1⟩, upd_same, fun e he => ?_, ?_, fun b o e => by rw [upd_ne (ne_of_none e h7)]; exact h5 _ _ e, h6, h7, fun e he => ?_⟩
  · rcases mem_ins.mp he with rfl | he
    · exact ⟨dz, pz, ez, bz, by rw [upd_ne xl]; exact hz, gz⟩
    · obtain ⟨dy, p, e1, b, q, r⟩ := h3 e he
      exact ⟨dy, p, e1, b, by rw [upd_ne (lx e he)]; exact q, r⟩
  · exact ((ins_perm.map _).nodup_iff).mpr (List.nodup_cons.mpr ⟨xL, h4⟩)
  · rcases mem_ins.mp he with rfl | he
    · exact gx
    · exact h8 e he
/-- what a timer performs is laid anew -/
theorem TsA.lay {CT CS : Addr} {G H H2 : Hp} {a l d c p dy : Addr} {L : Tl} {n m : Int} {lane : Int} (S : TsA CT CS G H a l L n) (hd : H d = none) (hc : H c = none) (hp : H p = none) (dc : d ≠ c) (dp : d ≠ p) (cp : c ≠ p)
    (ha : H2 a = some (.ins CS dy (fsS l m))) (hk : ∀ b o, H b = some o → b ≠ a → H2 b = some o) (h1 : H2 d = some (.dK [])) (h2 : H2 c = some (.lst [])) (h3 : H2 p = some (.tup [.int lane, .ref d, .ref c, .int 0])) :
    ∃ G', Gro H G G' ∧ TsA CT CS G' H2 a l L m ∧ G' p = some (.tup [.int lane, .ref d, .ref c, .int 0]) ∧ G' d = some (.dK []) ∧ G' c = some (.lst []) ∧ ∀ b, G b = none → b ≠ d → b ≠ c → b ≠ p → G' b = none := by
  have al := S.al
  have lx := S.lx
  have ax := S.ax
  obtain ⟨⟨dx, h1'⟩, h2', h3', h4, h5, h6, h7, h8⟩ := S
  have gd : ∀ b o, H b = some o → upd (upd (upd G d (.dK [])) c (.lst [])) p (.tup [.int lane, .ref d, .ref c, .int 0]) b = G b := fun b o e => by rw [upd_ne (ne_of_none e hp), upd_ne (ne_of_none e hc), upd_ne (ne_of_none e hd)]
  have sG : Same G (upd (upd (upd G d (.dK [])) c (.lst [])) p (.tup [.int lane, .ref d, .ref c, .int 0])) := fun b o e => by rw [gd b o (h5 _ _ e)]; exact e
  refine ⟨upd (upd (upd G d (.dK [])) c (.lst [])) p (.tup [.int lane, .ref d, .ref c, .int 0]), ⟨sG, gd⟩, ⟨⟨dy, ha⟩, hk _ _ h2' al.symm, fun e he => ?_, h4, fun b o e => ?_, ?_, ?_, fun e he => ?_⟩, upd_same, by rw [upd_ne dp, upd_ne dc, upd_same], by rw [upd_ne cp, upd_same], fun b hb n1 n2 n3 => by rw [upd_ne n3, upd_ne n2, upd_ne n1]; exact hb⟩
  · obtain ⟨dz, q, e1, b, r1, r2, r3, r4⟩ := h3' e he
    exact ⟨dz, q, e1, b, hk _ _ r1 (ax e he), sG _ _ r2, sG _ _ r3, sG _ _ r4⟩
  · by_cases e1 : b = p
    · subst e1; rw [upd_same] at e; rw [← e]; exact h3
    · rw [upd_ne e1] at e
      by_cases e2 : b = c
      · subst e2; rw [upd_same] at e; rw [← e]; exact h2
      · rw [upd_ne e2] at e
        by_cases e3 : b = d
        · subst e3; rw [upd_same] at e; rw [← e]; exact h1
        · rw [upd_ne e3] at e
          exact hk _ _ (h5 _ _ e) (ne_of_none e h6)
  · rw [gd a _ h1']; exact h6
  · rw [gd l _ h2']; exact h7
  · obtain ⟨dz, q, e1, b, r1, _⟩ := h3' e he
    rw [gd e.1 _ r1]
    exact h8 e he
/-! ### promises -/
def spFalse : Sp := fun _ _ _ _ => False
def spCopyN : Sp := fun vs H Q _ => ∃ e, vs = [.ref e] ∧ H e = some (.dK []) ∧ ∀ d, H d = none → Q (.ref d) (upd H d (.dK []))
def spCopyS : Sp := fun vs H Q _ => ∃ b, vs = [.ref b] ∧ H b = some (.lst []) ∧ ∀ d, H d = none → Q (.ref d) (upd H d (.lst []))
def spTmInit (CT : Addr) : Sp := fun vs H Q _ => ∃ (x dx p : Addr) (nu du pe ow : Int), vs = [.ref x, .int nu, .int du, .int pe, .int ow, .ref p] ∧ H x = some (.ins CT dx []) ∧ ∀ lane H', H' x = some (.ins CT dx (fsT ⟨nu, du, pe, ow, lane⟩ p)) → (∀ b o, H b = some o → b ≠ x → H' b = some o) → Q .non H'
def spTsInit (CS : Addr) : Sp := fun vs H Q _ => ∃ (a dx : Addr), vs = [.ref a] ∧ H a = some (.ins CS dx []) ∧ ∀ l H', H l = none → H' a = some (.ins CS dx (fsS l 0)) → H' l = some (.lst []) → (∀ b o, H b = some o → b ≠ a → H' b = some o) → Q .non H'
def spTold (CT CS : Addr) : Sp := fun vs H Q _ => ∃ (G : Hp) (a l : Addr) (L : Tl) (n : Int), vs = [.ref a] ∧ TsA CT CS G H a l L n ∧ L.length ≤ 20 ∧ ∀ r (ps : List Addr) H', Same H H' → H r = none → H' r = some (.lst (ps.map V.ref)) → Paired (fun p (e : Addr × Tm) => H' p = some (.tup [.int e.2.num, .int e.2.due, .int e.2.per])) ps L → Q (.ref r) H'
def spNext (CT CS : Addr) : Sp := fun vs H Q _ => ∃ (G : Hp) (a l : Addr) (L : Tl) (n : Int), vs = [.ref a] ∧ TsA CT CS G H a l L n ∧ (L = [] → Q .non H) ∧ ∀ e L', L = e :: L' → Q (.int e.2.due) H
def spPut (CT CS : Addr) : Sp := fun vs H Q _ => ∃ (G : Hp) (a l x : Addr) (t : Tm) (L : Tl) (n : Int), vs = [.ref a, .ref x] ∧ TsA CT CS G H a l L n ∧ TmA CT G H x t ∧ G x = none ∧ x ∉ L.map (·.1) ∧ L.length < 21 ∧
  ∀ v H', TsA CT CS G H' a l (insT L (x, t)) n → (∀ b o, H b = some o → b ≠ l → H' b = some o) → Q v H'
def spStartT (CT CS : Addr) : Sp := fun vs H Q _ => ∃ (G : Hp) (a l e b : Addr) (L : Tl) (n : Int) (ow now tk : Int) (ag : Bool), vs = [.ref a, .int ow, .int now, .int tk, .bl ag, .int 1, .ref e, .ref b, .int 0] ∧ TsA CT CS G H a l L n ∧ H e = some (.dK []) ∧ H b = some (.lst []) ∧ e ≠ a ∧ L.length < 20 ∧
  ∀ x G' H', H x = none → Gro H G G' → TsA CT CS G' H' a l (insT L (x, ⟨n + 1, now + tk, if ag = true then tk else 0, ow, 1⟩)) (n + 1) → Fr3 a l L H H' → Q (.int (n + 1)) H'
def spFire (CT CS : Addr) : Sp := fun vs H Q _ => ∃ (G : Hp) (a l x : Addr) (t : Tm) (L : Tl) (n : Int), vs = [.ref a] ∧ TsA CT CS G H a l ((x, t) :: L) n ∧ L.length < 20 ∧
  ∀ p e b H', H p = none → H' p = some (.tup [.int t.own, .int t.lane, .ref e, .ref b, .int 0]) → TsA CT CS G H' a l (if t.per > 0 then insT L (x, nextT t) else L) n → Fr3 a l ((x, t) :: L) H H' → Q (.ref p) H'
theorem due_step {H H1 : Hp} {d t : Addr} {ps : List Addr} {D : Fl} {X M : Int} (s1 : Same H H1) (h1 : H1 d = some (.lst (ps.map V.ref))) (hd : H d = none) (ht : H1 t = none) (pd : Paired (fun p (e : Int × Int) => H1 p = some (.tup [.int e.1, .int e.2])) ps D) :
    Same H (upd (upd H1 t (.tup [.int X, .int M])) d (.lst (ps.map V.ref ++ [.ref t]))) ∧ upd (upd H1 t (.tup [.int X, .int M])) d (.lst (ps.map V.ref ++ [.ref t])) d = some (.lst ((ps ++ [t]).map V.ref)) ∧ Paired (fun p (e : Int × Int) => upd (upd H1 t (.tup [.int X, .int M])) d (.lst (ps.map V.ref ++ [.ref t])) p = some (.tup [.int e.1, .int e.2])) (ps ++ [t]) (D ++ [(X, M)]) := by
  have dt : d ≠ t := ne_of_none h1 ht
  refine ⟨fun b o e => ?_, by rw [upd_same, List.map_append]; rfl, paired_snocT (by rw [upd_ne dt.symm, upd_same]) (L2.Paired.mapP pd fun c e z => ?_)⟩
  · rw [upd_ne (ne_of_none e hd), upd_ne (ne_of_none (s1 _ _ e) ht)]
    exact s1 _ _ e
  · rw [upd_ne (ne_of z h1 (by intro e; cases e)), upd_ne (ne_of_none z ht)]
    exact z
/-! ### what the law has -/
def TriA (H : Hp) (p : Addr) (r : Trip) : Prop := H p = some (.tup [.int r.1, .int r.2.1, .bl r.2.2])
def DuoA (H : Hp) (p : Addr) (e : Int × Int) : Prop := H p = some (.tup [.int e.1, .int e.2])
def RowsA (H : Hp) (ra : Addr) (R : List Trip) : Prop := ∃ ts : List Addr, H ra = some (.lst (ts.map V.ref)) ∧ Paired (TriA H) ts R
def FirA (H : Hp) (fr : Addr) (F : Fl) : Prop := ∃ ps : List Addr, H fr = some (.lst (ps.map V.ref)) ∧ Paired (DuoA H) ps F
theorem RowsA.same {H H' : Hp} {ra : Addr} {R : List Trip} (h : RowsA H ra R) (s : Same H H') : RowsA H' ra R := by
  obtain ⟨ts, h1, pr⟩ := h
  exact ⟨ts, s _ _ h1, L2.Paired.mapP pr fun p r q => s _ _ q⟩
theorem duo_all {H : Hp} : ∀ {ts : List Addr} {D : Fl}, Paired (DuoA H) ts D → (ts.map V.ref).map (kapH H) = D ∧ ∀ y ∈ ts.map V.ref, ∃ t, y = .ref t ∧ H t = some (.tup [.int (kapH H y).1, .int (kapH H y).2])
  | _, _, .nil => ⟨rfl, fun y hy => by cases hy⟩
  | t :: ts, r :: R, .cons h hh => by
    obtain ⟨e1, e2⟩ := duo_all hh
    have h0 : H t = some (.tup [.int r.1, .int r.2]) := h
    refine ⟨?_, fun y hy => ?_⟩
    · show kapH H (.ref t) :: (ts.map V.ref).map (kapH H) = r :: R
      rw [e1, kapH_at h0]
    · rcases List.mem_cons.mp hy with rfl | hy
      · exact ⟨t, rfl, by rw [kapH_at h0]; exact h0⟩
      · exact e2 y hy
theorem duo_back {H : Hp} : ∀ {ys : List V}, (∀ y ∈ ys, ∃ t, y = .ref t ∧ H t = some (.tup [.int (kapH H y).1, .int (kapH H y).2])) → ∃ ts : List Addr, ys = ts.map V.ref ∧ Paired (DuoA H) ts (ys.map (kapH H))
  | [], _ => ⟨[], rfl, .nil⟩
  | y :: ys, h => by
    obtain ⟨ts, e, pr⟩ := duo_back fun z hz => h z (List.mem_cons_of_mem _ hz)
    obtain ⟨t, e1, e2⟩ := h y List.mem_cons_self
    exact ⟨t :: ts, by rw [e1, e]; rfl, .cons e2 pr⟩
theorem duo_sorted {H : Hp} {ts : List Addr} {D : Fl} {ys : List V} (pr : Paired (DuoA H) ts D) (nd : D.Nodup) (hp : ys.Perm (ts.map V.ref)) (hs : SrtO.Srtd (ltP (kapH H)) ys) :
    ∃ ts' D', ys = ts'.map V.ref ∧ Paired (DuoA H) ts' D' ∧ D'.Perm D ∧ D'.Pairwise ltF := by
  obtain ⟨e1, e2⟩ := duo_all pr
  obtain ⟨ts', e, pr'⟩ := duo_back fun y hy => e2 y (hp.mem_iff.mp hy)
  have pm : (ys.map (kapH H)).Perm D := by rw [← e1]; exact hp.map _
  refine ⟨ts', _, e, pr', pm, ?_⟩
  have n2 : (ys.map (kapH H)).Nodup := pm.nodup_iff.mpr nd
  have s2 : (ys.map (kapH H)).Pairwise fun x y => SrtO.lexB y x = false := List.Pairwise.map _ (fun _ _ h => h) hs
  refine (s2.and n2).imp fun {x y} h => ?_
  have h1 := SrtO.lexB_no.mp h.1
  have h2 : x ≠ y := h.2
  have h3 : ¬ (x.1 = y.1 ∧ x.2 = y.2) := fun z => h2 (Prod.ext z.1 z.2)
  unfold ltF
  omega
/-- timers at a (their list at l), what has fired at fr; G stays -/
structure Wt (CT CS : Addr) (R : List Trip) (G H : Hp) (a l fr : Addr) (n : Nat) (F : Fl) (L : Tl) : Prop where
  ts : TsA CT CS G H a l L (n : Int)
  fi : FirA H fr F
  gf : G fr = none
  fa : fr ≠ a
  fl : fr ≠ l
  fx : ∀ e ∈ L, e.1 ≠ fr
  iv : MInv R n F L
def Fr4 (a l fr : Addr) (L : Tl) (H H' : Hp) : Prop := ∀ b o, H b = some o → b ≠ a → b ≠ l → b ≠ fr → (∀ e ∈ L, b ≠ e.1) → H' b = some o
theorem MInv.len {R : List Trip} {n : Nat} {F : Fl} {L : Tl} (I : MInv R n F L) : L.length ≤ n := by
  have nd : (L.map fun e => e.2.num.toNat).Nodup := by
    unfold List.Nodup
    rw [List.pairwise_map]
    refine List.Pairwise.imp_of_mem (fun {e f} he hf h => ?_) I.nu
    obtain ⟨k, hk, e1, _⟩ := I.lm e he
    obtain ⟨k', hk', e2, _⟩ := I.lm f hf
    omega
  have := nodup_len _ ((List.range n).map (· + 1)) nd fun x hx => by
    obtain ⟨e, he, rfl⟩ := List.mem_map.mp hx
    obtain ⟨k, hk, e1, _⟩ := I.lm e he
    exact List.mem_map.mpr ⟨k, List.mem_range.mpr hk, by omega⟩
  rw [List.length_map, List.length_map, List.length_range] at this
  exact this
/-- the triple at an address -/
def kap3 (H : Hp) (v : V) : Trip := match v with
  | .ref t => match H t with | some (.tup [.int i, .int j, .bl b]) => (i, j, b) | _ => (0, 0, false)
  | _ => (0, 0, false)
theorem kap3_at {H : Hp} {t : Addr} {r : Trip} (h : TriA H t r) : kap3 H (.ref t) = r := by
  show (match H t with | some (.tup [.int i, .int j, .bl b]) => ((i, j, b) : Trip) | _ => (0, 0, false)) = r
  rw [show H t = _ from h]
theorem kap3_all {H : Hp} : ∀ {ts : List Addr} {R : List Trip}, Paired (TriA H) ts R → (ts.map V.ref).map (kap3 H) = R ∧ ∀ y ∈ ts.map V.ref, ∃ t, y = .ref t ∧ TriA H t (kap3 H y)
  | _, _, .nil => ⟨rfl, fun y hy => by cases hy⟩
  | t :: ts, r :: R, .cons h hh => by
    obtain ⟨e1, e2⟩ := kap3_all hh
    refine ⟨?_, fun y hy => ?_⟩
    · show kap3 H (.ref t) :: (ts.map V.ref).map (kap3 H) = r :: R
      rw [e1, kap3_at h]
    · rcases List.mem_cons.mp hy with rfl | hy
      · exact ⟨t, rfl, by rw [kap3_at h]; exact h⟩
      · exact e2 y hy
theorem kap3_back {H : Hp} : ∀ {ys : List V}, (∀ y ∈ ys, ∃ t, y = .ref t ∧ TriA H t (kap3 H y)) → ∃ ts : List Addr, ys = ts.map V.ref ∧ Paired (TriA H) ts (ys.map (kap3 H))
  | [], _ => ⟨[], rfl, .nil⟩
  | y :: ys, h => by
    obtain ⟨ts, e, pr⟩ := kap3_back fun z hz => h z (List.mem_cons_of_mem _ hz)
    obtain ⟨t, e1, e2⟩ := h y List.mem_cons_self
    exact ⟨t :: ts, by rw [e1, e]; rfl, .cons e2 pr⟩
theorem rows_sorted {H : Hp} {ts : List Addr} {R : List Trip} {ys : List V} (pr : Paired (TriA H) ts R) (hp : ys.Perm (ts.map V.ref)) (hs : SrtO.Srtd (ltV (kap3 H)) ys) :
    ∃ ts', ys = ts'.map V.ref ∧ Paired (TriA H) ts' (ys.map (kap3 H)) ∧ (ys.map (kap3 H)).Perm R ∧ (ys.map (kap3 H)).Pairwise fun x y => x.1 ≤ y.1 := by
  obtain ⟨e1, e2⟩ := kap3_all pr
  obtain ⟨ts', e, pr'⟩ := kap3_back fun y hy => e2 y (hp.mem_iff.mp hy)
  refine ⟨ts', e, pr', by rw [← e1]; exact hp.map _, ?_⟩
  rw [List.pairwise_map]
  refine hs.imp fun {x y} h => ?_
  have := ltT_no.mp h
  omega
theorem OkR.of_perm {R R' : List Trip} (hp : R'.Perm R) (hs : R'.Pairwise fun x y => x.1 ≤ y.1) (hl : R.length ≤ 20) (h : ∀ r ∈ R, 0 ≤ r.1 ∧ r.1 < 12 ∧ 0 ≤ r.2.1 ∧ r.2.1 ≤ 10 ∧ (r.2.2 = true → 1 ≤ r.2.1)) : OkR R' :=
  ⟨by rw [hp.length_eq]; exact hl, fun r hr => ⟨(h r (hp.mem_iff.mp hr)).1, (h r (hp.mem_iff.mp hr)).2.1⟩, fun r hr => (h r (hp.mem_iff.mp hr)).2.2.1, fun r hr => (h r (hp.mem_iff.mp hr)).2.2.2.1, fun r hr => (h r (hp.mem_iff.mp hr)).2.2.2.2, hs⟩
def spRows (K : PySem.W.Frag) : Sp := fun vs H Q _ => ∃ (s : Addr) (ns : List Int), vs = [.ref s] ∧ SqL K H s (ns.map V.int) ∧ ns.length ≤ 63 ∧ ∀ ra R H', Same H H' → OkR R → H ra = none → RowsA H' ra R → Q (.ref ra) H'
def spDue : Sp := fun vs H Q _ => ∃ (ra : Addr) (R : List Trip) (last : Int), vs = [.ref ra, .int last] ∧ RowsA H ra R ∧ OkR R ∧ 0 ≤ last ∧ last < 60 ∧ ∀ d D H', Same H H' → FirA H' d D → D.Pairwise ltF → (∀ t m, (t, m) ∈ D ↔ t ≤ last ∧ ∃ k, k < R.length ∧ m = (k : Int) + 1 ∧ ∃ r, R[k]? = some r ∧ EvT r t) → Q (.ref d) H'
def spUntil (CT CS : Addr) : Sp := fun vs H Q _ => ∃ (R : List Trip) (G : Hp) (a l fr : Addr) (n : Nat) (F : Fl) (L : Tl) (last : Int), vs = [.ref a, .int last, .ref fr] ∧ OkR R ∧ Wt CT CS R G H a l fr n F L ∧ last < 60 ∧ (∀ e ∈ F, e.1 ≤ last) ∧
  ∀ F' L' H', Wt CT CS R G H' a l fr n F' L' → (∀ e ∈ F', e.1 ≤ last) → (∀ f ∈ L', last < f.2.due) → Fr4 a l fr L H H' → Q (.bl true) H'
/-! ### the law's end -/
def dDuo (F : Fl) : List PyData := F.map fun e => .tuple [.int e.1, .int e.2]
theorem dp_duo {K : PySem.W.Frag} {H : Hp} : ∀ {ts : List Addr} {F : Fl}, Paired (DuoA H) ts F → DpAll K H (ts.map V.ref) (dDuo F)
  | _, _, .nil => .nil
  | _, _, .cons (b := e) r rr => .cons (.tup (SqT.of (show H _ = some (.tup [.int e.1, .int e.2]) from r)) (.cons (.int _) (.cons (.int _) .nil))) (dp_duo rr)
theorem shaped_duo (E : Fl) : SeqAt.shaped (.list (dDuo E)) = true := by
  have h1 : PyData.canLayAll0 (dDuo E) = true := by
    induction E with
    | nil => rfl
    | cons e E ih =>
      show PyData.canLayAll0 (.tuple [.int e.1, .int e.2] :: dDuo E) = true
      simp [PyData.canLayAll0, PyData.canLay0, ih]
  have h2 : PyData.depthAll (dDuo E) ≤ 2 := by
    clear h1
    induction E with
    | nil => decide
    | cons e E ih =>
      show PyData.depthAll (.tuple [.int e.1, .int e.2] :: dDuo E) ≤ 2
      simp [PyData.depthAll, PyData.depth]
      omega
  unfold SeqAt.shaped
  rw [Bool.and_eq_true]
  refine ⟨by simpa [PyData.canLay0] using h1, decide_eq_true ?_⟩
  show PyData.depth (.list (dDuo E)) ≤ 64
  simp [PyData.depth]
  omega
theorem eqv_selfT {d : PyData} (h : SeqAt.shaped d = true) : PyData.eqv d d = true := by
  refine SeqAt.eqv_refl _ ?_
  unfold SeqAt.shaped at h
  exact (Bool.and_eq_true_iff.mp h).1
theorem eq_of_strict {α : Type} {lt : α → α → Prop} (irr : ∀ x, ¬ lt x x) (asy : ∀ x y, lt x y → ¬ lt y x) : ∀ {a b : List α}, a.Pairwise lt → b.Pairwise lt → (∀ x, x ∈ a ↔ x ∈ b) → a = b
  | [], [], _, _, _ => rfl
  | [], y :: b, _, _, h => absurd ((h y).mpr List.mem_cons_self) (by simp)
  | x :: a, [], _, _, h => absurd ((h x).mp List.mem_cons_self) (by simp)
  | x :: a, y :: b, ha, hb, h => by
    rw [List.pairwise_cons] at ha hb
    have e : x = y := by
      rcases List.mem_cons.mp ((h x).mp List.mem_cons_self) with r | r
      · exact r
      · rcases List.mem_cons.mp ((h y).mpr List.mem_cons_self) with r2 | r2
        · exact r2.symm
        · exact absurd (hb.1 _ r) (asy _ _ (ha.1 _ r2))
    subst e
    rw [eq_of_strict irr asy ha.2 hb.2 fun z => ⟨fun m => ?_, fun m => ?_⟩]
    · rcases List.mem_cons.mp ((h z).mp (List.mem_cons_of_mem _ m)) with r | r
      · rw [r] at m
        exact absurd (ha.1 _ m) (irr _)
      · exact r
    · rcases List.mem_cons.mp ((h z).mpr (List.mem_cons_of_mem _ m)) with r | r
      · rw [r] at m
        exact absurd (hb.1 _ m) (irr _)
      · exact r
theorem fl_eq {F D : Fl} (h1 : F.Pairwise ltF) (h2 : D.Pairwise ltF) (h : ∀ t m, (t, m) ∈ F ↔ (t, m) ∈ D) : F = D :=
  eq_of_strict (lt := ltF) (fun x => by unfold ltF; omega) (fun x y => by unfold ltF; omega) h1 h2 fun x => h x.1 x.2
def agO (R : List Trip) (m : Int) : Bool := match R[(m - 1).toNat]? with | some r => r.2.2 | none => false
def onceL (R : List Trip) (F : Fl) : List Int := (F.filter fun e => !agO R e.2).map (·.2)
theorem once_nodup {R : List Trip} {n : Nat} {F : Fl} {L : Tl} (I : MInv R n F L) : (onceL R F).Nodup := by
  unfold onceL List.Nodup
  rw [List.pairwise_map]
  refine List.Pairwise.imp_of_mem (fun {e f} he hf h q => ?_) (I.fs.sublist List.filter_sublist)
  obtain ⟨he1, he2⟩ := List.mem_filter.mp he
  obtain ⟨hf1, hf2⟩ := List.mem_filter.mp hf
  obtain ⟨k, hk, e1, r, hr, ev⟩ := I.fm e he1
  obtain ⟨k', hk', e1', r', hr', ev'⟩ := I.fm f hf1
  have ek : k = k' := by omega
  subst ek
  rw [hr] at hr'
  cases hr'
  have ea : agO R e.2 = r.2.2 := by
    unfold agO
    have : (e.2 - 1).toNat = k := by omega
    rw [this, hr]
  have ra : ¬ r.2.2 = true := by
    rw [ea] at he2
    simpa using he2
  unfold EvT at ev ev'
  rw [if_neg ra] at ev ev'
  unfold ltF at h
  omega
theorem once_len {R : List Trip} {n : Nat} {F : Fl} {L : Tl} (I : MInv R n F L) : (onceL R F).length = ((List.range R.length).filter fun (k : Nat) => decide ((1 + (k : Int)) ∈ onceL R F)).length := by
  have nd := once_nodup I
  have hn := I.hn
  have rg : ∀ x ∈ onceL R F, ∃ k, k < R.length ∧ x = 1 + (k : Int) := fun x hx => by
    obtain ⟨e, he, rfl⟩ := List.mem_map.mp hx
    obtain ⟨k, hk, e1, _⟩ := I.fm e (List.mem_filter.mp he).1
    exact ⟨k, by omega, by omega⟩
  have h1 := nodup_len (onceL R F) (((List.range R.length).filter fun (k : Nat) => decide ((1 + (k : Int)) ∈ onceL R F)).map fun (k : Nat) => 1 + (k : Int)) nd fun x hx => by
    obtain ⟨k, hk, e⟩ := rg x hx
    refine List.mem_map.mpr ⟨k, List.mem_filter.mpr ⟨List.mem_range.mpr hk, decide_eq_true ?_⟩, e.symm⟩
    rw [← e]
    exact hx
  have h2 := nodup_len (((List.range R.length).filter fun (k : Nat) => decide ((1 + (k : Int)) ∈ onceL R F)).map fun (k : Nat) => 1 + (k : Int)) (onceL R F) (by
      unfold List.Nodup
      rw [List.pairwise_map]
      exact (List.nodup_range.sublist List.filter_sublist).imp fun {a b} h q => h (by omega)) fun x hx => by
    obtain ⟨k, hk, rfl⟩ := List.mem_map.mp hx
    exact of_decide_eq_true (List.mem_filter.mp hk).2
  rw [List.length_map] at h1 h2
  omega
theorem inV_i (x : Int) : ∀ P : List Int, inV (.int x) (P.map V.int) = decide (x ∈ P)
  | [] => rfl
  | a :: P => by
    show (eqV (.int a) (.int x) || inV (.int x) (P.map V.int)) = _
    rw [inV_i x P]
    show ((a == x) || decide (x ∈ P)) = decide (x ∈ a :: P)
    by_cases e : a = x
    · subst e
      simp
    · have e2 : x ≠ a := fun q => e q.symm
      have e3 : (a == x) = false := beq_eq_false_iff_ne.mpr e
      simp [e2, e3]
theorem flat_i : ∀ P : List Int, (P.map V.int).all flatV = true
  | [] => rfl
  | a :: P => by
    show (true && (P.map V.int).all flatV) = true
    rw [flat_i P]
    rfl
end VL

set_option Elab.async false
set_option linter.all false
set_option maxRecDepth 100000
set_option maxHeartbeats 4000000
namespace VL
open PySem PySem.Spec PyProof.Rows L2

/-! ### a def that is called where nothing is being shown: the law's own; repr of nested data there -/
structure FnG (P : Program) (w : World) (K : PySem.W.Frag) (mg : Str → Option Value) (base : Heap) (k : Nat) (f : Addr) (fd : FuncData) (ps : List Str) (sp : Sp) : Prop where
  run : ∀ (A : Around) (outer : List Env) (s : Shared) (H : Hp) (args : Args) (us : List Value) (vs : List V) (Q : VK) (E : XK), A.guards = some [] → Room k A → Env0 P w K mg base A outer s H → BindsTo s fd args (ps.zip us) → Vals vs us → sp vs H Q E →
    codeAny (model P w) A (.call (.ref f) args) (CR CX0 outer P w H s Q E) s
theorem fnG_of {P : Program} {w : World} {K : PySem.W.Frag} {mg : Str → Option Value} {base : Heap} {x qual : Str} {st : Stmt} {f : Addr} {fd : FuncData} {N ps : List Str} {k : Nat} {sp : Sp} (F : Fun K x qual st f fd) (S : FnScope N ps (defScope st)) (len : ∀ vs H Q E, sp vs H Q E → vs.length = ps.length)
    (hb0 : ∀ (cdv : Value) (A : Around) (outer : List Env) (s : Shared) (H : Hp) (vs : List V) (Q : VK) (E : XK), A.guards = some [] → Room k (A.deeper (envOfC qual (defScope st) s.heap.objs.size f cdv)) → sp vs H Q E →
      ∃ t, PSs (cxOf CX0 P w K mg base N qual (defScope st) f cdv A outer s H E).nox (defBody st) t ∧ t { nx := fun _ H' => Q .non H', rt := Q } (start N vs) H) : FnG P w K mg base (k + 1) f fd ps sp := by
  obtain ⟨oc, od, kV, doc, pm, an, cdv, ct, osl, rfl, lk, hcd⟩ := F.ex
  refine ⟨fun A outer s H args us vs Q E gd hr en hb rv hsp => ?_⟩
  have hlen := len _ _ _ _ hsp
  have kin : K.In s.heap := en.mod.kin.keeps fun b o e => (en.bs b o e).1
  have nl : s.heap.NoLimit := en.mod.nolimit.keeps fun b o e => (en.bs b o e).1
  have kinds : ∀ y ∈ ps.zip us, (defScope st).names.lookup y.1 = some .local ∨ ((defScope st).names.lookup y.1 = some .cell ∧ ((cellsFrom (s.heap.objs.size + 1) (defScope st).names []).lookup y.1).isSome = true) := fun ⟨n, v⟩ hy => by
    rcases S.par n (List.of_mem_zip hy).1 with c | c
    · exact .inl c
    · exact .inr ⟨c, PySem.W.cellsFrom_some _ _ _ (.inl c)⟩
  refine codeAny_call_function hr.depth (kin _ _ lk) rfl S.co S.gen rfl (PySem.W.codeRec_of kin hcd) (hb _ _ _ _ ?_)
  refine wpAny_newFunctionEnv_cells S.kind kinds fun env he s1 ic => ?_
  subst he
  refine ⟨nl.keeps ic.toInCall.keep, codeAny_func ?_⟩
  obtain ⟨t, hd, hq⟩ := hb0 cdv A outer s H vs Q E gd (hr.deeper _) hsp
  have J0 : Inv (cxOf CX0 P w K mg base N qual (defScope st) f cdv A outer s H E) [] (start N vs) H s1 := inv_start S hr.hd en hlen rv ic
  refine wpAny_mono (hd.nox.run [] s1 (start N vs) H _ J0 hq) (fun fl s2 hs => ?_) fun e s2 hs => hs
  have done : ∀ {σ2 : L2.St} {H2 : Hp} {v : V} {u : Value}, Inv (cxOf CX0 P w K mg base N qual (defScope st) f cdv A outer s H E) [] σ2 H2 s2 → RelV v u → Q v H2 → CE outer P w H s Q u s2 :=
    fun {σ2 H2 v u} J rw q => ⟨v, H2, J.os, J.bare, J.base, J.hok, rw, q⟩
  cases fl with
  | ret u =>
    obtain ⟨v, σ2, H2, J, rw, q⟩ := hs
    exact done J rw q
  | next =>
    obtain ⟨σ2, H2, J, q⟩ := hs
    exact done (v := V.non) (u := Value.none) J rfl q
  | brk => exact hs.elim fun _ z => z.elim fun _ z => z.2.elim
  | cont => exact hs.elim fun _ z => z.elim fun _ z => z.2.elim
/-- the law's call, where nothing is being shown -/
theorem law_callG {P : Program} {w : World} {K : PySem.W.Frag} {mg mb : Str → Option Value} {k : Nat} {fa a : Addr} {fd : FuncData} {x : Str} {sp : Sp} {s₁ : Shared} {vs : List Value} {ns : List Int}
    (kin : K.In s₁.heap) (ng : s₁.heap.Ns mainGlobals mg) (nb : s₁.heap.Ns builtinsNs mb) (bb : ∀ x : Str, x ≠ "__name__" → mb x = bootBuiltins x) (nl : s₁.heap.NoLimit) (hgen : s₁.gens = #[])
    (ea : s₁.heap.get? a = some { cls := .type "list", data := .seq vs.toArray }) (hi : IntsAre vs ns) (hz : ns.length ≤ sizeLine) (hr : Room k callerA)
    (F : ∀ base : Heap, K.In base → base.Ns mainGlobals mg → FnG P w K mg base k fa fd [x] sp) (hbind : ∀ (s : Shared) (u : Value), BindsTo s fd ⟨[u], []⟩ [(x, u)])
    (hsp : ∀ H : Hp, Only H → SqL K H a (ns.map V.int) → sp [.ref a] H (fun v _ => v = .bl true) fun _ _ _ => False) :
    codeAny (model P w) callerA (.call (.ref fa) ⟨[.ref a], []⟩) (fun r s2 => r = .ok (.ret (.bool true)) ∧ OldK s₁.heap s2.heap ∧ s2.os = s₁.os ∧ AllBare s2.gens) s₁ := by
  have rel := vals_ints hi
  have lv := hi.length
  have go : ∀ H : Hp, Only H → SqL K H a (ns.map V.int) → HOk P w H s₁.heap → (∀ b, H b ≠ none → b = a) → (H a ≠ none → K.lookup a = none) →
      codeAny (model P w) callerA (.call (.ref fa) ⟨[.ref a], []⟩) (fun r s2 => r = .ok (.ret (.bool true)) ∧ OldK s₁.heap s2.heap ∧ s2.os = s₁.os ∧ AllBare s2.gens) s₁ := by
    intro H ho hq ok only out
    have low : ∀ {b : Addr} {o : Obj}, s₁.heap.get? b = some o → H b = none → (hidT s₁.heap H).get? b = some o := fun e n => hidT_get e n
    have nod : ∀ {b : Addr} {o : Obj} {es : Array DictEntry} {ep : Nat}, s₁.heap.get? b = some o → o.data = .dict es ep → H b = none := fun {b o es ep} e d => by
      cases c : H b with
      | none => rfl
      | some u =>
        obtain rfl : b = a := only b (by rw [c]; simp)
        rw [ea] at e
        cases e
        exact nomatch (show Data.seq vs.toArray _ = Data.dict es ep from d)
    have nsl : ∀ {b : Addr} {m : Str → Option Value}, s₁.heap.Ns b m → (hidT s₁.heap H).Ns b m := fun {b m} ⟨o, es, ep, e, d, r⟩ => ⟨o, es, ep, low e (nod e d), d, r⟩
    have kl : K.In (hidT s₁.heap H) := fun b o e => low (kin b o e) (by
      cases c : H b with
      | none => rfl
      | some u =>
        obtain rfl : b = a := only b (by rw [c]; simp)
        rw [out (by rw [c]; simp)] at e
        exact nomatch e)
    have md : Mod K mg (hidT s₁.heap H) := ⟨kl, nsl ng, ⟨mb, nsl nb, bb⟩, let ⟨mc, h1, h2⟩ := nl; ⟨mc, nsl h1, h2⟩⟩
    have en : Env0 P w K mg (hidT s₁.heap H) callerA [] s₁ H := ⟨rfl, md, fun b o e => of_hidT e, Nat.le_of_eq (hidT_size _ _), trivial, fun b hb => absurd (show b ∈ ([] : List Addr) from hb) (by simp), ok, .of_eq hgen⟩
    refine codeAny_mono ((F _ kl (nsl ng)).run callerA [] s₁ H ⟨[.ref a], []⟩ [.ref a] [.ref a] _ _ rfl hr en (hbind s₁ (.ref a)) (.cons rfl .nil) (hsp H ho hq)) fun r s2 h => ?_
    cases r with
    | error e => exact False.elim h
    | ok fl =>
      cases fl with
      | next => exact h.elim
      | brk => exact h.elim
      | cont => exact h.elim
      | ret u =>
        obtain ⟨v, H2, os, bare, un, ok2, r2, q⟩ := h
        obtain rfl : v = .bl true := q
        obtain rfl : u = Value.bool true := r2
        refine ⟨rfl, OldK.of_keep fun b o e => ?_, os, bare⟩
        cases c : H b with
        | none => exact un.keep b o e c (by intro z; exact absurd (show b ∈ ([] : List Addr) from z) (by simp)) (by simp)
        | some u =>
          rcases ho b with z | ⟨ob, xs, z⟩
          · exact nomatch c.symm.trans z
          · obtain ⟨e1, _⟩ := ok b _ z
            obtain ⟨e2, _⟩ := ok2 b _ (un.frzs b ob _ z)
            rw [e] at e1
            cases e1
            exact e2
  cases hk : K.lookup a with
  | some o =>
    have e := kin a o hk
    rw [ea] at e
    cases e
    exact go (fun _ => none) (fun _ => .inl rfl) (.inr ⟨_, vs.toArray, _, hk, rfl, rfl, rfl, by rw [List.size_toArray, lv]; exact hz, by simpa using rel⟩) (fun b u z => nomatch (show (none : Option HO) = some u from z)) (fun b z => absurd rfl z) fun z => absurd rfl z
  | none =>
    refine go (fun b => if b = a then some (.frz { cls := .type "list", data := .seq vs.toArray } (.lst (ns.map V.int))) else none) (fun b => ?_) (.inl (.inr ⟨{ cls := .type "list", data := .seq vs.toArray }, if_pos rfl⟩)) (fun b u z => ?_) (fun b z => ?_) fun _ => hk
    · by_cases hb : b = a
      · exact Or.inr ⟨_, _, if_pos hb⟩
      · exact Or.inl (if_neg hb)
    · by_cases hb : b = a
      · cases (if_pos hb).symm.trans z
        subst hb
        exact ⟨ea, by rw [List.length_map]; exact hz, vs, _, rel, ea⟩
      · exact nomatch (if_neg hb).symm.trans z
    · by_cases hb : b = a
      · exact hb
      · exact absurd (if_neg hb) z
theorem walk_ofG {l : PySem.W.OpenLaw} {n k : Nat} {q : Program} {loose : List Str} {XP : (Str → Option Value) → Heap → Prop} {YP : World → Heap → Prop} {d : DefRec} {K : Params → PySem.W.Frag} {sp : World → Sp} {x : Str}
    (hn : l.most = some n) (hn2 : n ≤ sizeLine) (hdf : d.params.defaults = []) (hr : Room k callerA) (hY : ∀ (w : World) (h : Heap), YP w h → (K w.params).In h)
    (F : ∀ (w : World) (mg : Str → Option Value) (fa : Addr) (h : Heap), (K w.params).In h → h.Ns mainGlobals mg → mg d.name = some (.ref fa) →
      ∃ fd : FuncData, (∀ (s : Shared) (u : Value), BindsTo s fd ⟨[u], []⟩ [(x, u)]) ∧ ∀ base : Heap, (K w.params).In base → base.Ns mainGlobals mg → FnG l.prog w (K w.params) mg base k fa fd [x] (sp w))
    (hsp : ∀ (w : World) (H : Hp) (a : Addr) (ns : List Int), ns.length ≤ n → Only H → SqL (K w.params) H a (ns.map V.int) → sp w [.ref a] H (fun v _ => v = .bl true) fun _ _ _ => False) :
    PySem.W.WalkO q loose XP YP l.row.toRowW d [] (fun f vs => PySem.call f vs) := by
  refine Att.attach_call hn hdf fun w s₀ s₁ mg mb fa o pm cd doc a vs ns G Y ho hd hcd hmg hobj hints hlen hgen => ?_
  have kin := hY w _ Y
  obtain ⟨fd, hb, hF⟩ := F w mg fa _ kin G.T.g hmg
  exact law_callG kin G.T.g G.T.b G.T.builtins G.T.nolimit hgen hobj hints (Nat.le_trans hlen hn2) hr hF hb fun H ho hq => hsp w H a ns hlen ho hq
end VL

set_option Elab.async false
set_option linter.all false
set_option maxRecDepth 100000
set_option maxHeartbeats 4000000
namespace VL
open PySem PySem.Spec PyProof.Rows L2 PyProof.V

/-! ### repr of a dict of nested data, where nothing is being shown -/
def enK : Key → PyData
  | .inl i => .int i
  | .inr x => .str x
def zipK : List (Key × V) → List PyData → List (PyData × PyData)
  | p :: ks, d :: ds => (enK p.1, d) :: zipK ks ds
  | _, _ => []
theorem zipK_vals : ∀ {ks : List (Key × V)} {ds : List PyData}, ks.length = ds.length → (zipK ks ds).map (·.2) = ds
  | [], [], _ => rfl
  | p :: ks, d :: ds, h => by
    show d :: (zipK ks ds).map (·.2) = d :: ds
    rw [zipK_vals (Nat.succ.inj h)]
theorem dpAll_len {K : PySem.W.Frag} {H : Hp} : ∀ {vs : List V} {ds : List PyData}, DpAll K H vs ds → vs.length = ds.length
  | _, _, .nil => rfl
  | _, _, .cons _ h => by simp [dpAll_len h]
section
variable {X : Cx} {pins : List (Addr × Obj)} {σ : L2.St} {H : Hp} {s : Shared}
theorem enK_reads {h : Heap} {P : Program} {w : World} (k : Key) (key : Value) (e : (mixKind P w).is k key = true) : Reads h key (enK k) [] := by
  rcases keyIs_shape (show keyIs k key = true from e) with ⟨i, t, rfl, rfl⟩ | ⟨x, t, rfl, rfl⟩
  · exact Reads.int i t
  · exact Reads.str x t
theorem pairs_read (I : Inv X pins σ H s) : ∀ {ks : List (Key × V)} {vs : List (Key × Value)} {ds : List PyData}, KV ks vs → DpAll X.K H (ks.map (·.2)) ds → ∃ bs, PairsRead s.heap enK vs (zipK ks ds) bs
  | [], _, _, r, h => by
    cases r
    exact ⟨[], by unfold zipK; exact .nil⟩
  | p :: ks, _, _, r, h => by
    cases r with
    | @cons _ q _ qs h1 h2 =>
      cases h with
      | @cons _ _ d ds g1 g2 =>
        obtain ⟨k, v⟩ := q
        obtain ⟨kp, vp⟩ := p
        obtain ⟨rfl, rv⟩ := h1
        obtain ⟨as, r1⟩ := Dp.reads I d _ _ g1 rv
        obtain ⟨bs, r2⟩ := pairs_read I h2 g2
        exact ⟨as ++ bs, .cons r1 r2⟩
def rRepD (K : PySem.W.Frag) : List V → Hp → VK → Prop := fun xs H Q => ∃ (a : Addr) (ks : List (Key × V)) (ds : List PyData), xs = [.ref a] ∧ H a = some (.dK ks) ∧ DpAll K H (ks.map (·.2)) ds ∧ PyData.showableKv (zipK ks ds) = true ∧ PyData.hasDictAll ds = false ∧
  PyData.depthKv (zipK ks ds) ≤ 40 ∧ (dictText (PyData.shownKv (zipK ks ds))).length ≤ sizeLine ∧ Q (.str (dictText (PyData.shownKv (zipK ks ds)))) H
theorem call_repD (gd : X.A.guards = some []) (hu : X.A.units + 64 < cLine) : CallR X (.builtin "repr") (rRepD X.K) := by
  intro pins s σ H xs us Q I r h
  obtain ⟨a, ks, ds, rfl, ha, hd, sh, nd, dep, len, q⟩ := h
  obtain ⟨u, rfl, ru⟩ := vals1 r
  cases (show u = Value.ref a from ru)
  obtain ⟨_, hsys, vs, rk, dic⟩ := (show ObjOk X.prog X.w H s.heap a (.dK ks) from I.hok a _ ha)
  obtain ⟨bs, pr⟩ := pairs_read I rk hd
  have rd := reads_dictOf (fun k key e => enK_reads k key e) dic pr
  obtain ⟨o, es, ep, ho, hx, hdat, _, hp, _⟩ := dic
  obtain ⟨rk1, rk2⟩ := readsAll_of_pairs (fun k key e => enK_reads k key e) hp pr
  obtain ⟨sh1, sh2⟩ := PyData.showableKv_split _ sh
  have vv : (zipK ks ds).map (·.2) = ds := zipK_vals (by have := dpAll_len hd; rw [List.length_map] at this; exact this)
  obtain ⟨b1, hb1, k1⟩ := ReprAllK.of_readsAll (prog := X.prog) (w := X.w) rk1 sh1 (fun _ z => nomatch z) (fun t ht => let ⟨p, hp, hl⟩ := PyData.shownKv_key_le _ t ht; Nat.le_trans hl (Nat.le_trans (dictText_mem_le hp) len))
  obtain ⟨b2, hb2, k2⟩ := ReprAllK.of_readsAll (prog := X.prog) (w := X.w) rk2 sh2 (fun z => by rw [vv, nd] at z; exact nomatch z) (fun t ht => let ⟨p, hp, hl⟩ := PyData.shownKv_val_le _ t ht; Nat.le_trans hl (Nat.le_trans (dictText_mem_le hp) len))
  have rm : ReadAtMost s.heap (PyData.depthKv (zipK ks ds)) (b1 ++ b2) := (hb1.mono (PyData.depthAll_keys_le _)).append (hb2.mono (PyData.depthAll_vals_le _))
  have na : a ∉ b1 ++ b2 := not_mem_of_deeper rd (by simp only [PyData.depth]; omega) rm
  have EK := ReprEntriesK.of_two es.toList _ _ (k1.more_le (fun b z => List.mem_append_left b2 z) (PyData.depthAll_keys_le (zipK ks ds))) (k2.more_le (fun b z => List.mem_append_right b1 z) (PyData.depthAll_vals_le (zipK ks ds)))
  rw [← PyData.shownKv_eq] at EK
  refine call_repr_slot (T := "dict") (idr := "dict.__repr__") (by omega) ⟨o, ho, hx.1⟩ F.slot_dict_repr (call_dict_reprK (h₀ := s.heap) ho hx.1 hdat hsys na EK gd (fun b _ => Clear.nil b) (by show X.A.units + 1 + (PyData.depthKv (zipK ks ds) + 1) < cLine; omega) (fun _ _ e => e) (fun h2 u tk hk => ?_) len)
  exact ⟨_, _, rfl, .str _, H, I.kept hk, ⟨u, rfl⟩, q⟩
end
theorem strApp (x y : Str) : (x ++ y).length = x.length + y.length := strLen_append x y
theorem textFrom_le : ∀ (ts : List Str) (k : Nat) (acc : Str), (textFrom k acc ts).length ≤ acc.length + piled ts
  | [], k, acc => by show acc.length ≤ _; omega
  | t :: ts, k, acc => by
    have ih := textFrom_le ts (k + 1) (acc ++ (if k > 0 then ", " else "" : String) ++ t)
    have e : (acc ++ (if k > 0 then ", " else "" : String) ++ t).length ≤ acc.length + 2 + t.length := by
      rw [strApp, strApp]
      split
      · exact Nat.le_of_eq rfl
      · show acc.length + 0 + t.length ≤ _
        omega
    show (textFrom (k + 1) (acc ++ (if k > 0 then ", " else "" : String) ++ t) ts).length ≤ _
    have : piled (t :: ts) = t.length + 2 + piled ts := by simp [piled]
    omega
theorem listText_le (ts : List Str) : (listText ts).length ≤ 2 + piled ts := by
  have := textFrom_le ts 0 "["
  have e1 : (("[" : String) : Str).length = 1 := rfl
  have e2 : (("]" : String) : Str).length = 1 := rfl
  unfold listText
  rw [strApp, e2]
  omega
theorem dictText_le (ts : List Str) : (dictText ts).length ≤ 2 + piled ts := by
  have e1 : (("{" : String) : Str).length = 1 := rfl
  have e2 : (("}" : String) : Str).length = 1 := rfl
  unfold dictText
  rw [strApp, strApp, e1, e2]
  by_cases h : ts = []
  · subst h
    show 1 + 0 + 1 ≤ _
    omega
  · have := join_length_add ts h
    omega
theorem piled_le {c : Nat} : ∀ {ts : List Str}, (∀ t ∈ ts, t.length ≤ c) → piled ts ≤ ts.length * (c + 2)
  | [], _ => by simp [piled]
  | t :: ts, h => by
    have ih := piled_le (ts := ts) fun x hx => h x (List.mem_cons_of_mem _ hx)
    have := h t List.mem_cons_self
    have e : piled (t :: ts) = t.length + 2 + piled ts := by simp [piled]
    have e2 : (t :: ts).length * (c + 2) = ts.length * (c + 2) + (c + 2) := by rw [List.length_cons, Nat.succ_mul]
    omega
end VL

set_option Elab.async false
set_option linter.all false
set_option maxRecDepth 100000
set_option maxHeartbeats 4000000
namespace VL
open PySem PySem.Spec PyProof.Rows L2 PyProof.V

/-! ### nested data with dicts: what stands there; repr of it, where nothing is being shown -/
mutual
inductive Dq (H : Hp) : V → PyData → Prop
  | non : Dq H .non .none
  | bl (b : Bool) : Dq H (.bl b) (.bool b)
  | int (i : Int) : Dq H (.int i) (.int i)
  | str (x : Str) : Dq H (.str x) (.str x)
  | lst {a : Addr} {xs : List V} {ds : List PyData} : H a = some (.lst xs) → DqAll H xs ds → Dq H (.ref a) (.list ds)
  | tup {a : Addr} {xs : List V} {ds : List PyData} : H a = some (.tup xs) → DqAll H xs ds → Dq H (.ref a) (.tuple ds)
  | dic {a : Addr} {ks : List (Key × V)} {ds : List PyData} : H a = some (.dK ks) → (ks.map (·.1)).Nodup → DqAll H (ks.map (·.2)) ds → Dq H (.ref a) (.dict (zipK ks ds))
inductive DqAll (H : Hp) : List V → List PyData → Prop
  | nil : DqAll H [] []
  | cons {v : V} {vs : List V} {d : PyData} {ds : List PyData} : Dq H v d → DqAll H vs ds → DqAll H (v :: vs) (d :: ds)
end
theorem DqAll.len {H : Hp} : ∀ {vs : List V} {ds : List PyData}, DqAll H vs ds → vs.length = ds.length
  | _, _, .nil => rfl
  | _, _, .cons _ h => by simp [DqAll.len h]
theorem DqAll.of_each {H : Hp} {P : V → PyData → Prop} : ∀ {vs : List V} {ds : List PyData}, DqAll H vs ds → (∀ v d, Dq H v d → P v d) → Paired P vs ds
  | _, _, .nil, _ => .nil
  | _, _, .cons a b, f => .cons (f _ _ a) (DqAll.of_each b f)
theorem DqAll.paired {H : Hp} : ∀ {vs : List V} {ds : List PyData}, DqAll H vs ds → Paired (Dq H) vs ds
  | _, _, .nil => .nil
  | _, _, .cons a b => .cons a (DqAll.paired b)
theorem DqAll.of_paired {H : Hp} : ∀ {vs : List V} {ds : List PyData}, Paired (Dq H) vs ds → DqAll H vs ds
  | _, _, .nil => .nil
  | _, _, .cons a b => .cons a (DqAll.of_paired b)
theorem dKv_le : ∀ (ks : List (Key × V)) (ds : List PyData), ks.length = ds.length → PyData.depthAll ds ≤ PyData.depthKv (zipK ks ds)
  | [], [], _ => Nat.le_refl _
  | p :: ks, d :: ds, h => by
    have ih := dKv_le ks ds (Nat.succ.inj h)
    show max (PyData.depth d) (PyData.depthAll ds) ≤ max (max (PyData.depth (enK p.1)) (PyData.depth d)) (PyData.depthKv (zipK ks ds))
    omega
theorem dq_mono_n {H H' : Hp} (s : Same H H') : ∀ (n : Nat) (d : PyData) (v : V), PyData.depth d ≤ n → Dq H v d → Dq H' v d := by
  intro n
  induction n with
  | zero =>
    intro d v hn h
    cases h with
    | non => exact .non
    | bl b => exact .bl b
    | int i => exact .int i
    | str x => exact .str x
    | lst _ _ => exact absurd hn (by simp [PyData.depth])
    | tup _ _ => exact absurd hn (by simp [PyData.depth])
    | dic _ _ _ => exact absurd hn (by simp [PyData.depth])
  | succ n ih =>
    have all : ∀ {vs : List V} {ds : List PyData}, DqAll H vs ds → PyData.depthAll ds ≤ n → DqAll H' vs ds := by
      intro vs
      induction vs with
      | nil => intro ds h _; cases h; exact .nil
      | cons v vs iv =>
        intro ds h hd
        cases h with
        | @cons _ _ d ds a b =>
          have hd' : max (PyData.depth d) (PyData.depthAll ds) ≤ n := hd
          exact .cons (ih d v (by omega) a) (iv b (by omega))
    intro d v hn h
    cases h with
    | non => exact .non
    | bl b => exact .bl b
    | int i => exact .int i
    | str x => exact .str x
    | lst h1 h2 => exact .lst (s _ _ h1) (all h2 (by simp only [PyData.depth] at hn; omega))
    | tup h1 h2 => exact .tup (s _ _ h1) (all h2 (by simp only [PyData.depth] at hn; omega))
    | @dic a ks ds h1 nd h2 =>
      have := dKv_le ks ds (by have := h2.len; rwa [List.length_map] at this)
      exact .dic (s _ _ h1) nd (all h2 (by simp only [PyData.depth] at hn; omega))
theorem Dq.same {H H' : Hp} {v : V} {d : PyData} (h : Dq H v d) (s : Same H H') : Dq H' v d := dq_mono_n s _ d v (Nat.le_refl _) h
theorem DqAll.same {H H' : Hp} (s : Same H H') : ∀ {vs : List V} {ds : List PyData}, DqAll H vs ds → DqAll H' vs ds
  | _, _, .nil => .nil
  | _, _, .cons a b => .cons (a.same s) (DqAll.same s b)
section
variable {X : Cx} {pins : List (Addr × Obj)} {σ : L2.St} {H : Hp} {s : Shared}
/-- what repr asks of a value that reads as d -/
def RpOk (X : Cx) (s : Shared) (u : Value) (d : PyData) : Prop := ∃ as bs, Reads s.heap u d as ∧ ReadAtMost s.heap (PyData.depth d) bs ∧ ReprK X.prog X.w bs s.heap (PyData.depth d) u (PyData.shown d)
def RpAll (X : Cx) (s : Shared) (us : List Value) (ds : List PyData) : Prop := ∃ as bs, ReadsAll s.heap us ds as ∧ ReadAtMost s.heap (PyData.depthAll ds) bs ∧ ReprAllK X.prog X.w bs s.heap (PyData.depthAll ds) us (PyData.shownAll ds)
theorem rp_all {n : Nat} (ih : ∀ (d : PyData) (v : V) (u : Value), PyData.depth d ≤ n → Dq H v d → RelV v u → PyData.showable d = true → (PyData.shown d).length ≤ sizeLine → RpOk X s u d) :
    ∀ {vs : List V} {us : List Value} {ds : List PyData}, DqAll H vs ds → PyData.depthAll ds ≤ n → Vals vs us → PyData.showableAll ds = true → (∀ t ∈ PyData.shownAll ds, t.length ≤ sizeLine) → RpAll X s us ds
  | [], us, ds, h, _, r, _, _ => by
    cases h
    cases r
    exact ⟨[], [], .nil, (fun _ h => nomatch h), .nil⟩
  | v :: vs, us, ds, h, hd, r, hs, hz => by
    cases h with
    | @cons _ _ d ds a b =>
      cases r with
      | @cons _ u _ us r1 r2 =>
        have hd' : max (PyData.depth d) (PyData.depthAll ds) ≤ n := hd
        have hs' : PyData.showable d = true ∧ PyData.showableAll ds = true := by simpa [PyData.showableAll] using hs
        obtain ⟨as1, bs1, x1, y1, z1⟩ := ih d v u (by omega) a r1 hs'.1 (hz _ (by simp only [PyData.shownAll]; exact List.mem_cons_self))
        obtain ⟨as2, bs2, x2, y2, z2⟩ := rp_all ih b (by omega) r2 hs'.2 (fun t ht => hz t (by simp only [PyData.shownAll]; exact List.mem_cons_of_mem _ ht))
        refine ⟨as1 ++ as2, bs1 ++ bs2, .cons x1 x2, fun b hm => ?_, ?_⟩
        · show ∃ d' as', Reads s.heap (.ref b) d' as' ∧ PyData.depth d' ≤ max (PyData.depth d) (PyData.depthAll ds)
          rcases List.mem_append.mp hm with hm | hm
          · obtain ⟨d', as', r', hd'⟩ := y1 b hm
            exact ⟨d', as', r', by omega⟩
          · obtain ⟨d', as', r', hd'⟩ := y2 b hm
            exact ⟨d', as', r', by omega⟩
        · simp only [PyData.depthAll, PyData.shownAll]
          exact .cons ((z1.more fun b hb => List.mem_append_left bs2 hb).level_le (Nat.le_max_left _ _)) (z2.more_le (fun b hb => List.mem_append_right bs1 hb) (Nat.le_max_right _ _))
theorem pairs_vals {P : Program} {w : World} : ∀ {es : List DictEntry} {kvs : List (Key × Value)}, Pairs (mixKind P w) es kvs → es.map (·.val) = kvs.map (·.2)
  | _, _, .nil => rfl
  | _, _, .cons _ hv hp => by rw [List.map_cons, List.map_cons, hv, pairs_vals hp]
theorem pairs_keys {h : Heap} {P : Program} {w : World} : ∀ {es : List DictEntry} {vs : List (Key × Value)} {ks : List (Key × V)} {ds : List PyData}, Pairs (mixKind P w) es vs → KV ks vs → ks.length = ds.length → ReadsAll h (es.map (·.key)) ((zipK ks ds).map (·.1)) []
  | _, _, [], [], .nil, _, _ => .nil
  | _, _, p :: ks, d :: ds, .cons (kv := q) hk hv hp, r, hl => by
    cases r with
    | cons r1 r2 =>
      have hk' := hk
      rw [← r1.1] at hk'
      exact ReadsAll.cons (enK_reads _ _ hk') (pairs_keys hp r2 (Nat.succ.inj hl))
  | _, _, p :: ks, d :: ds, .nil, r, hl => by cases r
  | _, _, [], [], .cons _ _ _, r, _ => by cases r
  | _, _, [], d :: ds, _, _, hl => nomatch hl
  | _, _, p :: ks, [], _, _, hl => nomatch hl
theorem kv_vals : ∀ {ks : List (Key × V)} {vs : List (Key × Value)}, KV ks vs → Vals (ks.map (·.2)) (vs.map (·.2))
  | _, _, .nil => .nil
  | _, _, .cons r rs => .cons r.2 (kv_vals rs)
theorem dq_rp (I : Inv X pins σ H s) : ∀ (n : Nat) (d : PyData) (v : V) (u : Value), PyData.depth d ≤ n → Dq H v d → RelV v u → PyData.showable d = true → (PyData.shown d).length ≤ sizeLine → RpOk X s u d := by
  intro n
  induction n with
  | zero =>
    intro d v u hn h r hs hz
    cases h with
    | non => cases r; exact ⟨_, [], .none, (fun _ h => nomatch h), by simp only [PyData.shown]; exact .of_is ReprIs.none _ _ _⟩
    | bl b => cases r; exact ⟨_, [], .bool b, (fun _ h => nomatch h), by simp only [PyData.shown]; exact .of_is (ReprIs.bool b) _ _ _⟩
    | int i =>
      obtain ⟨t, rfl⟩ := r
      exact ⟨_, [], .int i t, (fun _ h => nomatch h), by simp only [PyData.shown]; exact .of_is (ReprIs.int t (by simpa [PyData.showable] using hs)) _ _ _⟩
    | str x =>
      obtain ⟨t, rfl⟩ := r
      exact ⟨_, [], .str x t, (fun _ h => nomatch h), by simp only [PyData.shown]; exact .of_is (ReprIs.str x t (by simpa only [PyData.shown] using hz)) _ _ _⟩
    | lst _ _ => exact absurd hn (by simp [PyData.depth])
    | tup _ _ => exact absurd hn (by simp [PyData.depth])
    | dic _ _ _ => exact absurd hn (by simp [PyData.depth])
  | succ n ih =>
    intro d v u hn h r hs hz
    cases h with
    | non => exact ih _ _ _ (Nat.zero_le _) .non r hs hz
    | bl b => exact ih _ _ _ (Nat.zero_le _) (.bl b) r hs hz
    | int i => exact ih _ _ _ (Nat.zero_le _) (.int i) r hs hz
    | str x => exact ih _ _ _ (Nat.zero_le _) (.str x) r hs hz
    | @lst a xs ds h1 h2 =>
      cases (show u = Value.ref a from r)
      obtain ⟨_, its, m, rv, ho⟩ := (show ObjOk X.prog X.w H s.heap a (.lst xs) from I.hok a _ h1)
      have zz : (listText (PyData.shownAll ds)).length ≤ sizeLine := by simpa only [PyData.shown] using hz
      obtain ⟨as, bs, ra, rm, rk⟩ := rp_all ih h2 (by simp only [PyData.depth] at hn; omega) rv (by simpa [PyData.showable] using hs) (fun t ht => Nat.le_trans (listText_mem_le ht) zz)
      have rd : Reads s.heap (.ref a) (.list ds) (a :: as) := .list ho rfl rfl ra
      have na : a ∉ bs := not_mem_of_deeper rd (by simp only [PyData.depth]; omega) rm
      refine ⟨_, a :: bs, rd, ReadAtMost.cons rd (by simp only [PyData.depth]; omega) rm, ?_⟩
      simp only [PyData.depth, PyData.shown]
      cases its with
      | nil =>
        cases ra
        simp only [PyData.shownAll, listText_nil]
        exact ReprK.listEmpty ho rfl rfl
      | cons x l => exact ReprK.list ho rfl rfl na (by simpa using rk.length_eq) (fun i y e => rk.item i y (by simpa using e))
    | @tup a xs ds h1 h2 =>
      cases (show u = Value.ref a from r)
      obtain ⟨_, its, rv, o, ho, oc, m, od⟩ := (show ObjOk X.prog X.w H s.heap a (.tup xs) from I.hok a _ h1)
      have zz : (tupleText (PyData.shownAll ds)).length ≤ sizeLine := by simpa only [PyData.shown] using hz
      obtain ⟨as, bs, ra, rm, rk⟩ := rp_all ih h2 (by simp only [PyData.depth] at hn; omega) rv (by simpa [PyData.showable] using hs) (fun t ht => Nat.le_trans (tupleText_mem_le ht) zz)
      have rd : Reads s.heap (.ref a) (.tuple ds) as := .tuple ho oc od ra
      have na : a ∉ bs := not_mem_of_deeper rd (by simp only [PyData.depth]; omega) rm
      refine ⟨_, a :: bs, rd, ReadAtMost.cons rd (by simp only [PyData.depth]; omega) rm, ?_⟩
      simp only [PyData.depth, PyData.shown]
      exact ReprK.tuple ho oc od na rk
    | @dic a ks ds h1 nd h2 =>
      cases (show u = Value.ref a from r)
      obtain ⟨_, hsys, vs, rkv, dof⟩ := (show ObjOk X.prog X.w H s.heap a (.dK ks) from I.hok a _ h1)
      have kl : ks.length = ds.length := by have := h2.len; rwa [List.length_map] at this
      have zz : (dictText (PyData.shownKv (zipK ks ds))).length ≤ sizeLine := by simpa only [PyData.shown] using hz
      obtain ⟨o, es, ep, ho, hx, hdat, _, hp, _⟩ := dof
      have vv : (zipK ks ds).map (·.2) = ds := zipK_vals kl
      obtain ⟨sh1, sh2⟩ := PyData.showableKv_split _ (show PyData.showableKv (zipK ks ds) = true by simpa [PyData.showable] using hs)
      rw [vv] at sh2
      have rk1 : ReadsAll s.heap (es.toList.map (·.key)) ((zipK ks ds).map (·.1)) [] := pairs_keys hp rkv kl
      have dle := dKv_le ks ds kl
      obtain ⟨as2, b2, ra2, hb2, k2⟩ := rp_all ih h2 (by simp only [PyData.depth] at hn; omega) (kv_vals rkv) sh2 (fun t ht => by
        rw [← vv] at ht
        obtain ⟨p, hp, hl⟩ := PyData.shownKv_val_le _ t ht
        exact Nat.le_trans hl (Nat.le_trans (dictText_mem_le hp) zz))
      obtain ⟨b1, hb1, k1⟩ := ReprAllK.of_readsAll (prog := X.prog) (w := X.w) rk1 sh1 (fun _ z => nomatch z) (fun t ht => let ⟨p, hp, hl⟩ := PyData.shownKv_key_le _ t ht; Nat.le_trans hl (Nat.le_trans (dictText_mem_le hp) zz))
      have ev : es.toList.map (·.val) = vs.map (·.2) := pairs_vals hp
      rw [← ev] at ra2 k2
      have ra2' : ReadsAll s.heap (es.toList.map (·.val)) ((zipK ks ds).map (·.2)) as2 := by rw [vv]; exact ra2
      have rd : Reads s.heap (.ref a) (.dict (zipK ks ds)) (a :: [] ++ as2) := .dict ho hx.1 hdat rk1 ra2'
      have rm : ReadAtMost s.heap (PyData.depthKv (zipK ks ds)) (b1 ++ b2) := (hb1.mono (PyData.depthAll_keys_le _)).append (hb2.mono dle)
      have na : a ∉ b1 ++ b2 := not_mem_of_deeper rd (by simp only [PyData.depth]; omega) rm
      refine ⟨_, a :: (b1 ++ b2), rd, ReadAtMost.cons rd (by simp only [PyData.depth]; omega) rm, ?_⟩
      have EK := ReprEntriesK.of_two es.toList _ _ (k1.more_le (fun b z => List.mem_append_left b2 z) (PyData.depthAll_keys_le (zipK ks ds))) (k2.more_le (fun b z => List.mem_append_right b1 z) dle)
      rw [show PyData.shownAll ds = PyData.shownAll ((zipK ks ds).map (·.2)) by rw [vv], ← PyData.shownKv_eq] at EK
      simp only [PyData.depth, PyData.shown]
      exact ReprK.dict ho hx.1 hdat hsys na EK
theorem rp_list (I : Inv X pins σ H s) {vs : List V} {us : List Value} {ds : List PyData} (h : DqAll H vs ds) (r : Vals vs us) (hs : PyData.showableAll ds = true) (hz : ∀ t ∈ PyData.shownAll ds, t.length ≤ sizeLine) : RpAll X s us ds :=
  rp_all (fun d v u hn => dq_rp I _ d v u hn) h (Nat.le_refl _) r hs hz
def rRepQ : List V → Hp → VK → Prop := fun xs H Q => ∃ (a : Addr) (d : PyData), xs = [.ref a] ∧ Dq H (.ref a) d ∧ PyData.showable d = true ∧ PyData.depth d ≤ 40 ∧ (PyData.shown d).length ≤ sizeLine ∧ Q (.str (PyData.shown d)) H
theorem call_repQ (gd : X.A.guards = some []) (hu : X.A.units + 64 < cLine) : CallR X (.builtin "repr") rRepQ := by
  intro pins s σ H xs us Q I r h
  obtain ⟨a, d, rfl, hd, hs, dep, hz, q⟩ := h
  obtain ⟨u, rfl, ru⟩ := vals1 r
  cases (show u = Value.ref a from ru)
  have fin : ∀ (h' : Heap) (v : Tok) (tk : Nat), (∀ b o, s.heap.get? b = some o → h'.get? b = some o) → EP X pins σ Q (.str (PyData.shown d) v) { s with heap := h', toks := tk } := fun h' v tk hk => ⟨.str _, H, I.kept hk, ⟨v, rfl⟩, q⟩
  cases hd with
  | @lst _ xs ds h1 h2 =>
    obtain ⟨_, its, m, rv, ho⟩ := (show ObjOk X.prog X.w H s.heap a (.lst xs) from I.hok a _ h1)
    have zz : (listText (PyData.shownAll ds)).length ≤ sizeLine := by simpa only [PyData.shown] using hz
    obtain ⟨as, bs, ra, rm, rk⟩ := rp_list I h2 rv (by simpa [PyData.showable] using hs) (fun t ht => Nat.le_trans (listText_mem_le ht) zz)
    have rd : Reads s.heap (.ref a) (.list ds) (a :: as) := .list ho rfl rfl ra
    have na : a ∉ bs := not_mem_of_deeper rd (by simp only [PyData.depth]; omega) rm
    simp only [PyData.depth] at dep
    simp only [PyData.shown] at fin
    cases its with
    | nil =>
      cases ra
      simp only [PyData.shownAll, listText_nil] at fin
      exact call_repr_slot (T := "list") (by omega) ⟨_, ho, rfl⟩ F.slot_list_repr.toG (call_list_repr_empty ⟨_, ho, rfl⟩ ho rfl ⟨_, _, rfl, fin s.heap _ _ fun _ _ e => e⟩)
    | cons x l =>
      exact call_repr_slot (T := "list") (by omega) ⟨_, ho, rfl⟩ F.slot_list_repr.toG (call_list_reprK (h₀ := s.heap) ho rfl rfl na (by simpa using rk.length_eq) (fun i y e => rk.item i y (by simpa using e)) gd (fun b _ => Clear.nil b) (by show X.A.units + 1 + _ < cLine; omega) (fun _ _ e => e) (fun h' v tk hk => ⟨_, _, rfl, fin h' v tk hk⟩) zz)
  | @tup _ xs ds h1 h2 =>
    obtain ⟨_, its, rv, o, ho, oc, m, od⟩ := (show ObjOk X.prog X.w H s.heap a (.tup xs) from I.hok a _ h1)
    have zz : (tupleText (PyData.shownAll ds)).length ≤ sizeLine := by simpa only [PyData.shown] using hz
    obtain ⟨as, bs, ra, rm, rk⟩ := rp_list I h2 rv (by simpa [PyData.showable] using hs) (fun t ht => Nat.le_trans (tupleText_mem_le ht) zz)
    have rd : Reads s.heap (.ref a) (.tuple ds) as := .tuple ho oc od ra
    have na : a ∉ bs := not_mem_of_deeper rd (by simp only [PyData.depth]; omega) rm
    simp only [PyData.depth] at dep
    simp only [PyData.shown] at fin
    exact call_repr_slot (T := "tuple") (by omega) ⟨_, ho, oc⟩ F.slot_tuple_repr (call_tuple_reprK (h₀ := s.heap) ho oc od na rk gd (fun b _ => Clear.nil b) (by show X.A.units + 1 + _ < cLine; omega) (fun _ _ e => e) (fun h' v tk hk => ⟨_, _, rfl, fin h' v tk hk⟩) zz)
  | @dic _ ks ds h1 nd h2 =>
    obtain ⟨_, hsys, vs, rkv, dof⟩ := (show ObjOk X.prog X.w H s.heap a (.dK ks) from I.hok a _ h1)
    have kl : ks.length = ds.length := by have := h2.len; rwa [List.length_map] at this
    have zz : (dictText (PyData.shownKv (zipK ks ds))).length ≤ sizeLine := by simpa only [PyData.shown] using hz
    obtain ⟨o, es, ep, ho, hx, hdat, _, hp, _⟩ := dof
    have vv : (zipK ks ds).map (·.2) = ds := zipK_vals kl
    obtain ⟨sh1, sh2⟩ := PyData.showableKv_split _ (show PyData.showableKv (zipK ks ds) = true by simpa [PyData.showable] using hs)
    rw [vv] at sh2
    have rk1 : ReadsAll s.heap (es.toList.map (·.key)) ((zipK ks ds).map (·.1)) [] := pairs_keys hp rkv kl
    have dle := dKv_le ks ds kl
    obtain ⟨as2, b2, ra2, hb2, k2⟩ := rp_list I h2 (kv_vals rkv) sh2 (fun t ht => by
      rw [← vv] at ht
      obtain ⟨p, hp, hl⟩ := PyData.shownKv_val_le _ t ht
      exact Nat.le_trans hl (Nat.le_trans (dictText_mem_le hp) zz))
    obtain ⟨b1, hb1, k1⟩ := ReprAllK.of_readsAll (prog := X.prog) (w := X.w) rk1 sh1 (fun _ z => nomatch z) (fun t ht => let ⟨p, hp, hl⟩ := PyData.shownKv_key_le _ t ht; Nat.le_trans hl (Nat.le_trans (dictText_mem_le hp) zz))
    have ev : es.toList.map (·.val) = vs.map (·.2) := pairs_vals hp
    rw [← ev] at ra2 k2
    have ra2' : ReadsAll s.heap (es.toList.map (·.val)) ((zipK ks ds).map (·.2)) as2 := by rw [vv]; exact ra2
    have rd : Reads s.heap (.ref a) (.dict (zipK ks ds)) (a :: [] ++ as2) := .dict ho hx.1 hdat rk1 ra2'
    have rm : ReadAtMost s.heap (PyData.depthKv (zipK ks ds)) (b1 ++ b2) := (hb1.mono (PyData.depthAll_keys_le _)).append (hb2.mono dle)
    have na : a ∉ b1 ++ b2 := not_mem_of_deeper rd (by simp only [PyData.depth]; omega) rm
    have EK := ReprEntriesK.of_two es.toList _ _ (k1.more_le (fun b z => List.mem_append_left b2 z) (PyData.depthAll_keys_le (zipK ks ds))) (k2.more_le (fun b z => List.mem_append_right b1 z) dle)
    rw [show PyData.shownAll ds = PyData.shownAll ((zipK ks ds).map (·.2)) by rw [vv], ← PyData.shownKv_eq] at EK
    simp only [PyData.depth] at dep
    simp only [PyData.shown] at fin
    exact call_repr_slot (T := "dict") (idr := "dict.__repr__") (by omega) ⟨o, ho, hx.1⟩ F.slot_dict_repr (call_dict_reprK (h₀ := s.heap) ho hx.1 hdat hsys na EK gd (fun b _ => Clear.nil b) (by show X.A.units + 1 + _ < cLine; omega) (fun _ _ e => e) (fun h' v tk hk => ⟨_, _, rfl, fin h' v tk hk⟩) zz)
end
end VL

set_option Elab.async false
set_option linter.all false
set_option maxRecDepth 100000
set_option maxHeartbeats 4000000
namespace VL
open PySem PySem.Spec PyProof.Rows L2
/-! ### dict comprehensions over any walk; dicts read while locked -/
theorem dc_itQ {J : It} {n : Nat} {G : Hp → Prop} {Y : Nat → Hp → V → Hp → Prop} (w : Walk J n G Y) {g : TG} {tt : TT} {tk tv : TE} {vs : List Nat} {σ : L2.St} {H1 : Hp} {D : Addr} {Qd : Hp → Prop} (Pv : Nat → Hp → Prop) (h0 : Pv 0 (upd H1 D (.dK []))) (hG : ∀ i H, i ≤ n → Pv i H → G H)
    (hs : ∀ i x H H', i < n → Pv i H → Y i H x H' → g x (wipe σ vs) H' fun σ2 H2 => wipe σ2 vs = wipe σ vs ∧ tt σ2 H2 fun b H3 =>
      if b = true then tk σ2 H3 fun y H4 => tv σ2 H4 fun z H5 => ∃ kvs k, y = kV k ∧ H5 D = some (.dK kvs) ∧ kvs.length < sizeLine ∧ Pv (i + 1) (upd H5 D (.dK (putK kvs k z))) else Pv (i + 1) H3) (hd : ∀ H, Pv n H → Qd H) :
    ∃ W : Nat → Nat → Hp → Prop, (∃ m, W 0 m (upd H1 D (.dK []))) ∧ ∀ i m H, W i m H →
      (J.stop i H ∧ Qd H) ∨ (J.go i H ∧ ∃ Nx : Hp → Prop, (∀ H', Nx H' → ∃ m', m' < m ∧ W (i + 1) m' H') ∧ ∀ x H', J.yld i H x H' → g x (wipe σ vs) H' fun σ2 H2 => wipe σ2 vs = wipe σ vs ∧ tt σ2 H2 fun b H3 =>
        if b = true then tk σ2 H3 fun y H4 => tv σ2 H4 fun z H5 => ∃ kvs k, y = kV k ∧ H5 D = some (.dK kvs) ∧ kvs.length < sizeLine ∧ Nx (upd H5 D (.dK (putK kvs k z))) else Nx H3) := by
  refine ⟨fun i m H => m = n - i ∧ i ≤ n ∧ Pv i H, ⟨n, by simp, Nat.zero_le _, h0⟩, ?_⟩
  rintro i m H ⟨rfl, hi, p⟩
  have q := hG i H hi p
  by_cases hlt : i < n
  · refine .inr ⟨w.goes i H hlt q, Pv (i + 1), fun H' p' => ⟨n - (i + 1), by omega, rfl, hlt, p'⟩, fun x H' y => hs i x H H' hlt p (w.yields i H x H' hlt q y)⟩
  · have e : i = n := by omega
    subst e
    exact .inl ⟨w.stops H q, hd H p⟩
theorem dget_fz {H : Hp} {a : Addr} {o : Obj} {kvs : List (Key × V)} {k : Key} (e : H a = some (.frz o (.dK kvs))) : DGet H a (kV k) (valV kvs k) := .inl ⟨kvs, k, .inr ⟨o, e⟩, rfl, rfl⟩
theorem putK_nw {ks : List (Key × V)} {k : Key} {v : V} (h : valV ks k = none) : putK ks k v = ks ++ [(k, v)] := by
  unfold putK
  rw [valV_any, h]
  rfl
theorem valV_out {ks : List (Key × V)} {k : Key} (h : k ∉ ks.map (·.1)) : valV ks k = none := by
  induction ks with
  | nil => rfl
  | cons p ks ih =>
    rw [valV_neg (fun z => h (by rw [List.map_cons, ← z]; exact List.mem_cons_self))]
    exact ih fun z => h (List.mem_cons_of_mem _ z)
theorem valV_nd : ∀ {ks : List (Key × V)} {i : Nat} {k : Key} {v : V}, (ks.map (·.1)).Nodup → ks[i]? = some (k, v) → valV ks k = some v
  | [], _, _, _, _, h => by simp at h
  | p :: ks, 0, k, v, nd, h => by
    simp at h
    subst h
    exact valV_pos rfl
  | p :: ks, i + 1, k, v, nd, h => by
    simp at h
    rw [List.map_cons, List.nodup_cons] at nd
    have hm : k ∈ ks.map (·.1) := List.mem_map.mpr ⟨_, List.mem_of_getElem? h, rfl⟩
    rw [valV_neg (fun z => nd.1 (by rw [z]; exact hm))]
    exact valV_nd nd.2 h
theorem zipK_keys : ∀ {ks ls : List (Key × V)} {ds : List PyData}, ks.map (·.1) = ls.map (·.1) → zipK ks ds = zipK ls ds
  | [], [], _, _ => by unfold zipK; rfl
  | p :: ks, q :: ls, [], h => by unfold zipK; rfl
  | p :: ks, q :: ls, d :: ds, h => by
    rw [List.map_cons, List.map_cons] at h
    injection h with h1 h2
    show (enK p.1, d) :: zipK ks ds = (enK q.1, d) :: zipK ls ds
    rw [h1, zipK_keys h2]
  | [], q :: ls, _, h => nomatch h
  | p :: ks, [], _, h => nomatch h
theorem zipK_app : ∀ {ks ls : List (Key × V)} {ds es : List PyData}, ks.length = ds.length → zipK (ks ++ ls) (ds ++ es) = zipK ks ds ++ zipK ls es
  | [], ls, [], es, _ => rfl
  | p :: ks, ls, d :: ds, es, h => by
    show (enK p.1, d) :: zipK (ks ++ ls) (ds ++ es) = (enK p.1, d) :: zipK ks ds ++ zipK ls es
    rw [zipK_app (Nat.succ.inj h)]
    rfl
theorem enK_inj {a b : Key} (h : enK a = enK b) : a = b := by
  cases a with
  | inl i => cases b with
    | inl j => injection h with h; rw [h]
    | inr y => exact nomatch h
  | inr x => cases b with
    | inl j => exact nomatch h
    | inr y => injection h with h; rw [h]
/-! ### what stands there is one thing -/
theorem dq_det_n {H : Hp} : ∀ (n : Nat) (d d' : PyData) (v : V), PyData.depth d ≤ n → Dq H v d → Dq H v d' → d = d' := by
  intro n
  induction n with
  | zero =>
    intro d d' v hn h h'
    cases h with
    | non => cases h'; rfl
    | bl b => cases h'; rfl
    | int i => cases h'; rfl
    | str x => cases h'; rfl
    | lst _ _ => exact absurd hn (by simp [PyData.depth])
    | tup _ _ => exact absurd hn (by simp [PyData.depth])
    | dic _ _ _ => exact absurd hn (by simp [PyData.depth])
  | succ n ih =>
    have all : ∀ {vs : List V} {ds es : List PyData}, DqAll H vs ds → DqAll H vs es → PyData.depthAll ds ≤ n → ds = es := by
      intro vs
      induction vs with
      | nil => intro ds es h h' _; cases h; cases h'; rfl
      | cons v vs iv =>
        intro ds es h h' hd
        cases h with
        | @cons _ _ d ds a b =>
          cases h' with
          | @cons _ _ e es a' b' =>
            have hd' : max (PyData.depth d) (PyData.depthAll ds) ≤ n := hd
            rw [ih d e v (by omega) a a', iv b b' (by omega)]
    intro d d' v hn h h'
    cases h with
    | non => cases h'; rfl
    | bl b => cases h'; rfl
    | int i => cases h'; rfl
    | str x => cases h'; rfl
    | lst h1 h2 =>
      simp only [PyData.depth] at hn
      cases h' with
      | lst g1 g2 => rw [h1] at g1; cases g1; rw [all h2 g2 (by omega)]
      | tup g1 g2 => rw [h1] at g1; cases g1
      | dic g1 _ g2 => rw [h1] at g1; cases g1
    | tup h1 h2 =>
      simp only [PyData.depth] at hn
      cases h' with
      | lst g1 g2 => rw [h1] at g1; cases g1
      | tup g1 g2 => rw [h1] at g1; cases g1; rw [all h2 g2 (by omega)]
      | dic g1 _ g2 => rw [h1] at g1; cases g1
    | @dic a ks ds h1 nd h2 =>
      have := dKv_le ks ds (by have := h2.len; rwa [List.length_map] at this)
      simp only [PyData.depth] at hn
      cases h' with
      | lst g1 g2 => rw [h1] at g1; cases g1
      | tup g1 g2 => rw [h1] at g1; cases g1
      | dic g1 _ g2 => rw [h1] at g1; cases g1; rw [all h2 g2 (by omega)]
theorem Dq.det {H : Hp} {v : V} {d d' : PyData} (h : Dq H v d) (h' : Dq H v d') : d = d' := dq_det_n _ d d' v (Nat.le_refl _) h h'
/-- a store at what is deeper changes nothing -/
theorem dq_upd_n {H : Hp} {a : Addr} {da : PyData} {o : HO} (ha : Dq H (.ref a) da) : ∀ (n : Nat) (d : PyData) (v : V), PyData.depth d ≤ n → PyData.depth d < PyData.depth da → Dq H v d → Dq (upd H a o) v d := by
  intro n
  induction n with
  | zero =>
    intro d v hn _ h
    cases h with
    | non => exact .non
    | bl b => exact .bl b
    | int i => exact .int i
    | str x => exact .str x
    | lst _ _ => exact absurd hn (by simp [PyData.depth])
    | tup _ _ => exact absurd hn (by simp [PyData.depth])
    | dic _ _ _ => exact absurd hn (by simp [PyData.depth])
  | succ n ih =>
    have all : ∀ {vs : List V} {ds : List PyData}, DqAll H vs ds → PyData.depthAll ds ≤ n → PyData.depthAll ds < PyData.depth da → DqAll (upd H a o) vs ds := by
      intro vs
      induction vs with
      | nil => intro ds h _ _; cases h; exact .nil
      | cons v vs iv =>
        intro ds h hd hl
        cases h with
        | @cons _ _ d ds b c =>
          have hd' : max (PyData.depth d) (PyData.depthAll ds) ≤ n := hd
          have hl' : max (PyData.depth d) (PyData.depthAll ds) < PyData.depth da := hl
          exact .cons (ih d v (by omega) (by omega) b) (iv c (by omega) (by omega))
    intro d v hn hl h
    have ne : ∀ b : Addr, v = .ref b → b ≠ a := fun b e z => by
      subst e
      subst z
      rw [h.det ha] at hl
      exact Nat.lt_irrefl _ hl
    cases h with
    | non => exact .non
    | bl b => exact .bl b
    | int i => exact .int i
    | str x => exact .str x
    | lst h1 h2 =>
      simp only [PyData.depth] at hn hl
      exact .lst (by rw [upd_ne (ne _ rfl)]; exact h1) (all h2 (by omega) (by omega))
    | tup h1 h2 =>
      simp only [PyData.depth] at hn hl
      exact .tup (by rw [upd_ne (ne _ rfl)]; exact h1) (all h2 (by omega) (by omega))
    | @dic b ks ds h1 nd h2 =>
      have := dKv_le ks ds (by have := h2.len; rwa [List.length_map] at this)
      simp only [PyData.depth] at hn hl
      exact .dic (by rw [upd_ne (ne _ rfl)]; exact h1) nd (all h2 (by omega) (by omega))
theorem Dq.upd {H : Hp} {a : Addr} {da d : PyData} {v : V} {o : HO} (h : Dq H v d) (ha : Dq H (.ref a) da) (hl : PyData.depth d < PyData.depth da) : Dq (upd H a o) v d := dq_upd_n ha _ d v (Nat.le_refl _) hl h
theorem mem_depth {d : PyData} : ∀ {ds : List PyData}, d ∈ ds → PyData.depth d ≤ PyData.depthAll ds
  | e :: ds, h => by
    show _ ≤ max (PyData.depth e) (PyData.depthAll ds)
    rcases List.mem_cons.mp h with rfl | h
    · omega
    · have := mem_depth h
      omega
/-! ### reading a dict's data -/
def keyB : PyData → Key → Bool
  | .int i, .inl j => decide (i = j)
  | .str x, .inr y => decide (x = y)
  | _, _ => false
theorem keyB_en (a b : Key) : keyB (enK a) b = decide (a = b) := by
  cases a with
  | inl i => cases b with
    | inl j => show decide (i = j) = decide (Sum.inl i = Sum.inl j); by_cases e : i = j <;> simp [e]
    | inr y => show false = decide (Sum.inl i = Sum.inr y); simp
  | inr x => cases b with
    | inl j => show false = decide (Sum.inr x = Sum.inl j); simp
    | inr y => show decide (x = y) = decide (Sum.inr x = Sum.inr y); by_cases e : x = y <;> simp [e]
def lkp : List (PyData × PyData) → Key → Option PyData
  | [], _ => none
  | p :: r, k => if keyB p.1 k = true then some p.2 else lkp r k
theorem lkp_at {H : Hp} {k : Key} : ∀ {ks : List (Key × V)} {ds : List PyData}, DqAll H (ks.map (·.2)) ds → (lkp (zipK ks ds) k = none ∧ valV ks k = none) ∨ ∃ d v, lkp (zipK ks ds) k = some d ∧ valV ks k = some v ∧ Dq H v d
  | [], ds, h => by
    cases h
    exact .inl ⟨rfl, rfl⟩
  | p :: ks, _, .cons (d := d) (ds := ds) a b => by
    have e : lkp (zipK (p :: ks) (d :: ds)) k = if keyB (enK p.1) k = true then some d else lkp (zipK ks ds) k := rfl
    rw [e, keyB_en]
    by_cases q : p.1 = k
    · rw [if_pos (decide_eq_true q), valV_pos q]
      exact .inr ⟨d, p.2, rfl, rfl, a⟩
    · rw [if_neg (by simp [q]), valV_neg q]
      exact lkp_at b
theorem dq_dict {H : Hp} {v : V} {kvs : List (PyData × PyData)} (h : Dq H v (.dict kvs)) : ∃ a ks, v = .ref a ∧ H a = some (.dK ks) ∧ (ks.map (·.1)).Nodup ∧ ks.length = kvs.length ∧
    ∀ k, (lkp kvs k = none ∧ valV ks k = none) ∨ ∃ d v, lkp kvs k = some d ∧ valV ks k = some v ∧ Dq H v d := by
  cases h with
  | @dic a ks ds h1 nd h2 =>
    refine ⟨a, ks, rfl, h1, nd, ?_, fun k => lkp_at h2⟩
    have e : ks.length = ds.length := by have := h2.len; rwa [List.length_map] at this
    have : ((zipK ks ds).map (·.2)).length = ds.length := by rw [zipK_vals e]
    rw [List.length_map] at this
    omega
theorem dq_list {H : Hp} {v : V} {ds : List PyData} (h : Dq H v (.list ds)) : ∃ a xs, v = .ref a ∧ H a = some (.lst xs) ∧ DqAll H xs ds := by
  cases h with
  | @lst a xs _ h1 h2 => exact ⟨a, xs, rfl, h1, h2⟩
theorem dq_tup {H : Hp} {v : V} {ds : List PyData} (h : Dq H v (.tuple ds)) : ∃ a xs, v = .ref a ∧ H a = some (.tup xs) ∧ DqAll H xs ds := by
  cases h with
  | @tup a xs _ h1 h2 => exact ⟨a, xs, rfl, h1, h2⟩
theorem dqAll_at {H : Hp} : ∀ {vs : List V} {ds : List PyData}, DqAll H vs ds → ∀ {i : Nat} {d : PyData}, ds[i]? = some d → ∃ v, vs[i]? = some v ∧ Dq H v d
  | _, _, .nil, i, d, h => by simp at h
  | _, _, .cons a b, 0, d, h => by
    simp at h
    subst h
    exact ⟨_, rfl, a⟩
  | _, _, .cons a b, i + 1, d, h => by
    simp at h
    obtain ⟨v, h1, h2⟩ := dqAll_at b h
    exact ⟨v, by simpa using h1, h2⟩
theorem dqAll_ap {H : Hp} : ∀ {vs ws : List V} {ds es : List PyData}, DqAll H vs ds → DqAll H ws es → DqAll H (vs ++ ws) (ds ++ es)
  | _, _, _, _, .nil, q => q
  | _, _, _, _, .cons a b, q => .cons a (dqAll_ap b q)
/-! ### small data -/
structure Small (c k : Nat) (d : PyData) : Prop where
  sh : PyData.showable d = true
  dp : PyData.depth d ≤ k
  ln : (PyData.shown d).length ≤ c
theorem Small.mono {c k c' k' : Nat} {d : PyData} (h : Small c k d) (h1 : c ≤ c') (h2 : k ≤ k') : Small c' k' d := ⟨h.sh, Nat.le_trans h.dp h2, Nat.le_trans h.ln h1⟩
theorem tupText_le (ts : List Str) : (tupleText ts).length ≤ 3 + piled ts := by
  have e1 : ((("(" : String) : Str)).length = 1 := rfl
  have e3 : (((if ts.length == 1 then ",)" else ")" : String) : Str)).length ≤ 2 := by split <;> decide
  unfold tupleText
  rw [strApp, strApp, e1]
  by_cases h : ts = []
  · subst h
    have : (Str.join ", " ([] : List Str)).length = 0 := rfl
    omega
  · have := join_length_add ts h
    omega
theorem shAll_mem : ∀ {ds : List PyData}, (∀ d ∈ ds, PyData.showable d = true) → PyData.showableAll ds = true
  | [], _ => rfl
  | d :: ds, h => by
    show (PyData.showable d && PyData.showableAll ds) = true
    rw [h d List.mem_cons_self, shAll_mem fun x hx => h x (List.mem_cons_of_mem _ hx)]
    rfl
theorem dpAll_mem {k : Nat} : ∀ {ds : List PyData}, (∀ d ∈ ds, PyData.depth d ≤ k) → PyData.depthAll ds ≤ k
  | [], _ => Nat.zero_le _
  | d :: ds, h => by
    show max (PyData.depth d) (PyData.depthAll ds) ≤ k
    have := h d List.mem_cons_self
    have := dpAll_mem fun x hx => h x (List.mem_cons_of_mem _ hx)
    omega
theorem shownAll_len : ∀ ds : List PyData, (PyData.shownAll ds).length = ds.length
  | [] => rfl
  | d :: ds => by
    show (PyData.shownAll ds).length + 1 = _
    rw [shownAll_len ds]
    rfl
theorem shownAll_mem : ∀ {ds : List PyData} {t : Str}, t ∈ PyData.shownAll ds → ∃ d ∈ ds, t = PyData.shown d
  | d :: ds, t, h => by
    rcases List.mem_cons.mp (show t ∈ PyData.shown d :: PyData.shownAll ds from h) with rfl | h
    · exact ⟨d, List.mem_cons_self, rfl⟩
    · obtain ⟨e, h1, h2⟩ := shownAll_mem h
      exact ⟨e, List.mem_cons_of_mem _ h1, h2⟩
theorem piledAll {c k : Nat} {ds : List PyData} (h : ∀ d ∈ ds, Small c k d) : piled (PyData.shownAll ds) ≤ ds.length * (c + 2) := by
  have := piled_le (c := c) (ts := PyData.shownAll ds) fun t ht => by
    obtain ⟨d, hd, rfl⟩ := shownAll_mem ht
    exact (h d hd).ln
  rwa [shownAll_len] at this
theorem small_list {c k n : Nat} {ds : List PyData} (h : ∀ d ∈ ds, Small c k d) (hl : ds.length ≤ n) : Small (2 + n * (c + 2)) (k + 1) (.list ds) := by
  refine ⟨?_, ?_, ?_⟩
  · show PyData.showableAll ds = true
    exact shAll_mem fun d hd => (h d hd).sh
  · show PyData.depthAll ds + 1 ≤ k + 1
    have := dpAll_mem fun d hd => (h d hd).dp
    omega
  · show (listText (PyData.shownAll ds)).length ≤ _
    have h1 := listText_le (PyData.shownAll ds)
    have h2 := piledAll h
    have h3 := Nat.mul_le_mul_right (c + 2) hl
    omega
theorem small_tup {c k n : Nat} {ds : List PyData} (h : ∀ d ∈ ds, Small c k d) (hl : ds.length ≤ n) : Small (3 + n * (c + 2)) (k + 1) (.tuple ds) := by
  refine ⟨?_, ?_, ?_⟩
  · show PyData.showableAll ds = true
    exact shAll_mem fun d hd => (h d hd).sh
  · show PyData.depthAll ds + 1 ≤ k + 1
    have := dpAll_mem fun d hd => (h d hd).dp
    omega
  · show (tupleText (PyData.shownAll ds)).length ≤ _
    have h1 := tupText_le (PyData.shownAll ds)
    have h2 := piledAll h
    have h3 := Nat.mul_le_mul_right (c + 2) hl
    omega
theorem small_dict {c k n : Nat} {kvs : List (PyData × PyData)} (h : ∀ p ∈ kvs, Small c k p.1 ∧ Small c k p.2) (hl : kvs.length ≤ n) : Small (2 + n * (2 * c + 4)) (k + 1) (.dict kvs) := by
  have sh : ∀ L : List (PyData × PyData), (∀ p ∈ L, Small c k p.1 ∧ Small c k p.2) → PyData.showableKv L = true ∧ PyData.depthKv L ≤ k ∧ piled (PyData.shownKv L) ≤ L.length * (2 * c + 4) := by
    intro L
    induction L with
    | nil => exact fun _ => ⟨rfl, Nat.zero_le _, by simp [PyData.shownKv, piled]⟩
    | cons p L ih =>
      intro hp
      obtain ⟨i1, i2, i3⟩ := ih fun x hx => hp x (List.mem_cons_of_mem _ hx)
      obtain ⟨a, b⟩ := hp p List.mem_cons_self
      refine ⟨?_, ?_, ?_⟩
      · show (PyData.showable p.1 && PyData.showable p.2 && PyData.showableKv L) = true
        rw [a.sh, b.sh, i1]
        rfl
      · show max (max (PyData.depth p.1) (PyData.depth p.2)) (PyData.depthKv L) ≤ k
        have := a.dp
        have := b.dp
        omega
      · have e : PyData.shownKv (p :: L) = (PyData.shown p.1 ++ (": " : Str) ++ PyData.shown p.2) :: PyData.shownKv L := rfl
        have e2 : piled (PyData.shownKv (p :: L)) = (PyData.shown p.1 ++ (": " : Str) ++ PyData.shown p.2).length + 2 + piled (PyData.shownKv L) := by rw [e]; simp [piled]
        have e3 : ((": " : String) : Str).length = 2 := rfl
        have := a.ln
        have := b.ln
        have e4 : (p :: L).length * (2 * c + 4) = L.length * (2 * c + 4) + (2 * c + 4) := by rw [List.length_cons, Nat.succ_mul]
        rw [e2, strApp, strApp]
        omega
  obtain ⟨i1, i2, i3⟩ := sh kvs h
  refine ⟨i1, ?_, ?_⟩
  · show PyData.depthKv kvs + 1 ≤ k + 1
    omega
  · show (dictText (PyData.shownKv kvs)).length ≤ _
    have h1 := dictText_le (PyData.shownKv kvs)
    have h3 := Nat.mul_le_mul_right (2 * c + 4) hl
    omega
end VL

set_option Elab.async false
set_option linter.all false
set_option maxRecDepth 100000
set_option maxHeartbeats 4000000
namespace PySem
section
variable {prog : Program} {w : World} {K : Type} [DecidableEq K] {knd : KeyKind prog w K} {A : Around} {E : Value → Shared → Prop} {s : Shared}
theorem wpAny_dictPut_pairs {d : Addr} {kvs : List (K × Value)} {k : K} {key v : Value} {Q : Unit → Shared → Prop} (hkey : knd.is k key = true) (hm : s.heap.DictOf knd d kvs)
    (hQ : ∀ h', h'.DictOf knd d (stored kvs k v) → Heap.SameBut d s.heap h' → Q () { s with heap := h' })
    (hsz : kvs.length ≤ sizeLine := by size_fits) :
    wpAny (model prog w) A (dictPut d (knd.hash k) key v) Q E s := by
  obtain ⟨o, es, ep, ho, hc, hd, hk, hp, hn⟩ := hm
  have hes : es.size ≤ sizeLine := by have e1 := hp.length; have e2 : es.toList.length = es.size := by simp
                                      omega
  unfold dictPut
  refine wpAny_bind (wpAny_dictFind_of hkey ho hd hk ?_)
  have hidx : (es.findIdx? fun e => knd.is k e.key) = kvs.findIdx? fun kv => decide (kv.1 = k) := by
    rw [← hp.findIdx k]; obtain ⟨l⟩ := es; simp
  cases hi : es.findIdx? fun e => knd.is k e.key with
  | some i =>
    refine wpAny_updateDict ho hd (hQ _ ⟨_, _, ep, Heap.get?_update_self _ ho (Obj.isFreed_of_dict (Obj.data_mapDict hd _)),
      hc.mapDict _, Obj.data_mapDict hd _, hk.modify _ _, ?_, ?_⟩ (Heap.SameBut.update ..))
    · rw [stored, if_pos (any_of_findIdx_some (hidx ▸ hi))]
      have hl : (es.toList.findIdx? fun e => knd.is k e.key) = some i := by rw [← hi]; obtain ⟨l⟩ := es; simp
      have := hp.modify hn hl v
      obtain ⟨l⟩ := es
      simpa using this
    · rw [stored, if_pos (any_of_findIdx_some (hidx ▸ hi)), keys_map_store]; exact hn
  | none =>
    have hnot : k ∉ kvs.map (·.1) := not_mem_of_findIdx_none (hidx ▸ hi)
    have hany : ¬ (kvs.any fun kv => decide (kv.1 = k)) = true := by
      rw [List.any_eq_true]; rintro ⟨kv, hkv, he⟩
      exact hnot (List.mem_map.mpr ⟨kv, hkv, of_decide_eq_true he⟩)
    refine wpAny_updateDictKeys (hz := hes) ho hd (hQ _ ⟨_, _, ep + 1, Heap.get?_update_self _ ho (Obj.isFreed_of_dict (Obj.data_mapDictKeys hd _)),
      hc.mapDictKeys _, Obj.data_mapDictKeys hd _, hk.push hkey _, ?_, ?_⟩ (Heap.SameBut.update ..))
    · rw [stored, if_neg hany]
      have := hp.append hkey (knd.hash k) v
      obtain ⟨l⟩ := es
      simpa using this
    · rw [stored, if_neg hany, List.map_append, List.nodup_append]
      refine ⟨hn, by simp, ?_⟩
      intro a ha b hb
      simp only [List.map_cons, List.map_nil, List.mem_singleton] at hb
      subst hb
      exact fun e => hnot (e ▸ ha)

/-- {**a, ..}: the entries of a dict put into another one -/
theorem wpAny_mergeMapping {d o : Addr} {kvs more : List (K × Value)} {Q : Unit → Shared → Prop} (hnr : ∀ k a, knd.is k (.ref a) = false) (hdo : d ≠ o) (hoS : (o == sysModules) = false)
    (hd : s.heap.DictOf knd d kvs) (ho : s.heap.DictOf knd o more)
    (hQ : ∀ h', h'.DictOf knd d (merged kvs more) → h'.DictOf knd o more → Heap.SameBut d s.heap h' → Q () { s with heap := h' })
    (hsz : kvs.length + more.length ≤ sizeLine := by size_fits) :
    wpAny (model prog w) A (mergeMapping d (.ref o) false) Q E s := by
  obtain ⟨od, esd, epd, hod, hcd, hdd, hkd, hpd, hnd⟩ := id hd
  obtain ⟨oo, eso, epo, hoo, hco, hdo', hko, hpo, hno⟩ := id ho
  have hlen : more.length = eso.size := by rw [← hpo.length]; simp
  unfold mergeMapping
  refine wpAny_bind (wpAny_isInstance ho.typeIs isSubtype_dict_dict ?_)
  dsimp only
  rw [if_pos rfl]
  refine wpAny_bind (wpAny_specialOf ho.typeIs F.slot_dict_iter.lookup ?_)
  refine wpAny_bind (wpAny_pure ?_)
  have e0 : (some (Value.builtin "dict.__iter__") == some (Value.builtin "dict.__iter__")) = true := by simp
  rw [e0]
  dsimp only
  rw [if_neg (by rw [hoS]; exact Bool.false_ne_true)]
  have loop : wpAny (model prog w) A (do
      let l0 ← dictEntries o
      let epoch ← dictEpoch o
      forIn (List.range l0.size) PUnit.unit fun i (_ : PUnit) => (do
          let l' ← dictEntries o
          match l'[i]? with
            | some e => do
              holding [e.key, e.val] (if false = true then do
                      let r ← dictFind d e.key e.hash
                      if r.isSome = true then do
                          rule "dict.merge.duplicate-key"
                          let x ← newExc (Value.type "KeyError") [e.key]
                          raiseNew x
                          dictPut d e.hash e.key e.val
                        else dictPut d e.hash e.key e.val
                    else dictPut d e.hash e.key e.val)
              let ep' ← dictEpoch o
              if (ep' != epoch) = true then do
                  (unsupported "dict.changed-during-merge" : Sem PUnit)
                  pure (ForInStep.yield PUnit.unit)
                else pure (ForInStep.yield PUnit.unit)
            | _ => do
              (unsupported "dict.changed-during-merge" : Sem PUnit)
              pure (ForInStep.yield PUnit.unit) : Sem (ForInStep PUnit))
      pure ()) Q E s := by
    refine wpAny_bind (wpAny_dictEntries hoo hdo' ?_)
    refine wpAny_bind (wpAny_dictEpoch hoo hdo' ?_)
    refine wpAny_bind ?_
    refine wpAny_forIn_list _
      (fun rest _ s' => ∃ h' i, s' = { s with heap := h' } ∧ rest = List.range' i (eso.size - i) ∧ i ≤ eso.size ∧ h'.DictOf knd d (merged kvs (more.take i)) ∧ h'.get? o = some oo ∧ Heap.SameBut d s.heap h')
      _ ?_ ?_ _ _ ⟨s.heap, 0, rfl, by simp [List.range_eq_range'], Nat.zero_le _, by simpa [merged] using hd, hoo, Heap.SameBut.refl _ _⟩
    · rintro x rest b s' ⟨h', i, rfl, hr, hi, hd', hoo', hs'⟩
      have hlt : i < eso.size := by
        rcases Nat.lt_or_ge i eso.size with h | h
        · exact h
        · rw [Nat.sub_eq_zero_of_le h] at hr; simp at hr
      obtain ⟨rfl, hrest⟩ : x = i ∧ rest = List.range' (i + 1) (eso.size - (i + 1)) := by
        have e : eso.size - i = (eso.size - (i + 1)) + 1 := by omega
        rw [e, List.range'_succ] at hr
        injection hr with h1 h2
        exact ⟨h1, h2⟩
      refine wpAny_bind (wpAny_dictEntries hoo' hdo' ?_)
      rw [Array.getElem?_eq_getElem hlt]
      obtain ⟨kv, hkv⟩ : ∃ kv, more[x]? = some kv := ⟨more[x]'(by rw [hlen]; exact hlt), List.getElem?_eq_getElem _⟩
      obtain ⟨k, v⟩ := kv
      obtain ⟨hkey, hval⟩ := hpo.get? (e := eso[x]) (by simp [hlt]) hkv
      obtain ⟨k', hkey', hhash⟩ := hko eso[x] (Array.getElem_mem hlt)
      obtain rfl : k' = k := knd.inj _ _ _ hkey' hkey
      have hmx : (merged kvs (more.take x)).length ≤ sizeLine := by
        have e1 := merged_length_le kvs (more.take x)
        have e2 : (more.take x).length ≤ more.length := by rw [List.length_take]; omega
        omega
      refine wpAny_bind (wpAny_holding ?_)
      rw [if_neg (by decide), hhash, hval]
      refine wpAny_dictPut_pairs (hsz := hmx) hkey hd' fun h'' hd'' hs'' => ?_
      have hoo'' : h''.get? o = some oo := (hs''.2 o (Ne.symm hdo)).trans hoo'
      refine wpAny_bind (wpAny_dictEpoch hoo'' hdo' ?_)
      rw [if_neg (by simp)]
      exact wpAny_pure ⟨h'', x + 1, rfl, hrest, hlt, by rw [merged_take_succ kvs more x (k', v) hkv]; exact hd'', hoo'', hs'.trans hs''⟩
    · rintro b s' ⟨h', i, rfl, hr, hi, hd', hoo', hs'⟩
      have hin : i = eso.size := by
        rcases Nat.lt_or_ge i eso.size with h | h
        · have e : eso.size - i = (eso.size - (i + 1)) + 1 := by omega
          rw [e, List.range'_succ] at hr; exact nomatch hr
        · exact Nat.le_antisymm hi h
      refine wpAny_pure (hQ h' ?_ ⟨oo, eso, epo, hoo', hco, hdo', hko, hpo, hno⟩ hs')
      rw [hin, ← hlen, List.take_length] at hd'; exact hd'
  refine wpAny_bind (wpAny_dictEntries hod hdd ?_)
  split
  · refine wpAny_bind (wpAny_dictEntries hoo hdo' ?_)
    refine wpAny_bind ?_
    rw [← Array.forIn_toList]
    refine wpAny_forIn_list _ (fun rest _ s' => s' = s ∧ ∀ e ∈ rest, e ∈ eso) _ ?_ ?_ _ _ ⟨rfl, fun e he => by simpa using he⟩
    · rintro x rest b s' ⟨rfl, hr⟩
      obtain ⟨k, hk, _⟩ := hko x (hr x List.mem_cons_self)
      have hx : ∀ a, x.key ≠ .ref a := fun a e => by rw [e, hnr] at hk; exact nomatch hk
      cases hkey : x.key with
      | ref a => exact absurd hkey (hx a)
      | _ => exact wpAny_pure ⟨rfl, fun e he => hr e (List.mem_cons_of_mem _ he)⟩
    · rintro b s' ⟨rfl, _⟩
      exact loop
  · exact loop
end
end PySem
namespace VL
open PySem PySem.Spec PyProof.Rows L2
/-- {**e, k: v} -/
def tStar (te tk tv : TE) : TE := fun σ H Q => ∀ p, H p = none → te σ (upd H p (.dK [])) fun x H1 => ∃ (a : Addr) (ks : List (Key × V)), x = .ref a ∧ a ≠ p ∧ H1 a = some (.dK ks) ∧ H1 p = some (.dK []) ∧ ks.length ≤ 1000 ∧
  ∀ q, (upd H1 p (.dK (mergeK [] ks))) q = none → tk σ (upd (upd H1 p (.dK (mergeK [] ks))) q (.dK [])) fun y H2 => tv σ H2 fun z H3 => ∃ (k : Key) (ks1 : List (Key × V)), y = kV k ∧ H3 q = some (.dK []) ∧ H3 p = some (.dK ks1) ∧ ks1.length ≤ 1000 ∧
    Q (.ref p) (upd (upd H3 q (.dK [(k, z)])) p (.dK (putK ks1 k z)))
theorem mix_ref (P : Program) (w : World) : ∀ (k : Key) (a : Addr), (mixKind P w).is k (.ref a) = false := fun k a => by
  cases e : (mixKind P w).is k (.ref a) with
  | false => rfl
  | true => rcases keyIs_shape e with ⟨i, t, _, h⟩ | ⟨x, t, _, h⟩ <;> exact nomatch h
theorem pe_star {X : Cx} {pos : Pos} {e k v : Expr} {te tk tv : TE} (he : PE X e te) (hk : PE X k tk) (hv : PE X v tv) : PE X (.Dict [none, some k] [e, v] pos) (tStar te tk tv) := by
  refine ⟨fun pins s σ H Q I h => ?_⟩
  have hn := I.hok.fresh (Nat.le_refl s.heap.objs.size)
  have I1 := I.laid (a := s.heap.objs.size) (o := .dK []) (h' := s.heap.push { cls := .type "dict", data := .dict #[] }) (t' := s.toks) (fun _ _ q => Heap.get?_push_of_some _ q) (Nat.le_refl _) (dk_empty s.heap I.big)
  rw [arm_eval_Dict]
  refine wpAny_bind (wpAny_standAt ?_)
  show wpAny _ _ (dictDisplay [(none, do let x ← eval e X.env; standAt pos; pure x), (some (eval k X.env), do let x ← eval v X.env; standAt pos; pure x)]) _ _ _
  unfold dictDisplay
  dsimp only
  rw [List.forIn_cons]
  dsimp only
  refine wpAny_bind (wpAny_bind (wpAny_bind ?_))
  rw [if_pos (show ([] : List (Sem Value × Sem Value)).isEmpty = true from rfl)]
  refine wpAny_pure ?_
  dsimp only
  refine wpAny_bind (wpAny_alloc ?_)
  refine wpAny_bind (wpAny_holding (wpAny_bind (thn (he.run pins _ σ _ _ I1 (h _ hn)) fun u s1 ⟨x, H1, I2, rx, a, ks, ex, hap, ha, hp, hl, q1⟩ => ?_)))
  subst ex
  obtain rfl : u = Value.ref a := rx
  refine wpAny_bind (wpAny_standAt (wpAny_pure ?_))
  obtain ⟨_, hsP, vp, rp, dp⟩ := dk_of I2.hok hp
  obtain ⟨_, hsA, va, ra, da⟩ := dk_of I2.hok ha
  cases rp
  have la : va.length ≤ 1000 := by rw [← ra.length]; exact hl
  refine wpAny_bind (wpAny_onRaise (wpAny_tryCatch (wpAny_onRaise (wpAny_holding (wpAny_mergeMapping (mix_ref X.prog X.w) (Ne.symm hap) hsA dp da (fun h' dd' oo' hs => ?_) (by rw [sizeLine_eq, List.length_nil]; omega))))))
  refine wpAny_pure ?_
  have hm1 : (mergeK [] ks).length ≤ sizeLine := by
    have := length_mergeK ks []
    rw [List.length_nil] at this
    rw [sizeLine_eq]; omega
  have I3 : Inv X pins σ (upd H1 s.heap.objs.size (.dK (mergeK [] ks))) { s1 with heap := h' } := by
    have hex : ∃ q, h'.get? s.heap.objs.size = some q := let ⟨q, _, _, hq, _⟩ := dd'; ⟨q, hq⟩
    exact d_write (t' := s1.toks) I2 (by rw [hp]; exact True.intro) hs hex (dk_new hm1 hsP (KV.merge ra .nil) dd')
  dsimp only
  rw [List.forIn_cons]
  dsimp only
  rw [if_neg (by simp)]
  refine wpAny_bind (wpAny_bind (wpAny_pure ?_))
  refine wpAny_pure ?_
  dsimp only
  rw [List.forIn_nil]
  refine wpAny_pure ?_
  dsimp only
  rw [if_neg (by simp)]
  have hn2 := I3.hok.fresh (Nat.le_refl h'.objs.size)
  have I4 := I3.laid (a := h'.objs.size) (o := .dK []) (h' := h'.push { cls := .type "dict", data := .dict #[] }) (t' := s1.toks) (fun _ _ q => Heap.get?_push_of_some _ q) (Nat.le_refl _) (dk_empty h' I3.big)
  refine wpAny_bind (wpAny_bind (wpAny_holding (wpAny_subDict (knd := mixKind X.prog X.w) (by simp) ?_)))
  refine wpAny_mono ((pps_cons (pos := pos) hk hv pps_nil).run pins _ σ _ (fun ps H3 => match ps with
    | [(y, z)] => ∃ (kk : Key) (ks1 : List (Key × V)), y = kV kk ∧ H3 h'.objs.size = some (.dK []) ∧ H3 s.heap.objs.size = some (.dK ks1) ∧ ks1.length ≤ 1000 ∧
        Q (.ref s.heap.objs.size) (upd (upd H3 h'.objs.size (.dK [(kk, z)])) s.heap.objs.size (.dK (putK ks1 kk z)))
    | _ => False) I4 (q1 _ hn2)) (fun ws s3 ⟨ps, H3, I5, rel, q3⟩ => ?_) fun _ _ e => e
  match ps, rel, q3 with
  | [(y, z)], rel, ⟨kk, ks1, ey, hq3, hp3, hl3, q3⟩ =>
    subst ey
    obtain ⟨rs, c, rk⟩ := carries_of (P := X.prog) (w := X.w) (kvs := [(kk, z)]) rel
    obtain ⟨_, hsQ, vq, rq, dq⟩ := dk_of I5.hok hq3
    cases rq
    refine ⟨rs, c, dq, fun h2 dd2 hs2 => ?_⟩
    have hex2 : ∃ q, h2.get? h'.objs.size = some q := let ⟨q, _, _, hq, _⟩ := dd2; ⟨q, hq⟩
    have I6 := d_write (t' := s3.toks + ws.length) I5 (by rw [hq3]; exact True.intro) hs2 hex2 (dk_new (kvs := mergeK [] [(kk, z)]) (by show 1 ≤ sizeLine; decide) hsQ (KV.merge rk .nil) dd2)
    have eM : mergeK [] [(kk, z)] = [(kk, z)] := rfl
    rw [eM] at I6
    have hne : s.heap.objs.size ≠ h'.objs.size := fun e => by
      rw [← e, upd_same] at hn2
      exact nomatch hn2
    have hp4 : upd H3 h'.objs.size (.dK [(kk, z)]) s.heap.objs.size = some (.dK ks1) := by rw [upd_ne hne]; exact hp3
    have hq4 : upd H3 h'.objs.size (.dK [(kk, z)]) h'.objs.size = some (.dK [(kk, z)]) := upd_same
    obtain ⟨_, _, v1, r1, d1⟩ := dk_of I6.hok hp4
    obtain ⟨_, _, v2, r2, d2⟩ := dk_of I6.hok hq4
    have l1 : v1.length ≤ 1000 := by rw [← r1.length]; exact hl3
    have l2 : v2.length = 1 := by rw [← r2.length]; rfl
    refine wpAny_bind (wpAny_onRaise (wpAny_holding (wpAny_mergeMapping (mix_ref X.prog X.w) hne hsQ d1 d2 (fun h3 dd3 oo3 hs3 => ?_) (by rw [sizeLine_eq]; omega))))
    refine wpAny_pure ?_
    have hex3 : ∃ q, h3.get? s.heap.objs.size = some q := let ⟨q, _, _, hq, _⟩ := dd3; ⟨q, hq⟩
    have hm3 : (mergeK ks1 [(kk, z)]).length ≤ sizeLine := by
      have := length_mergeK [(kk, z)] ks1
      have e1 : [(kk, z)].length = 1 := rfl
      rw [sizeLine_eq]; omega
    have I7 := d_write (t' := s3.toks + ws.length) I6 (by rw [hp4]; exact True.intro) hs3 hex3 (dk_new hm3 hsP (KV.merge r2 r1) dd3)
    exact wpAny_pure ⟨.ref s.heap.objs.size, _, I7, rfl, q3⟩
  | [], _, q3 => exact q3.elim
  | _ :: _ :: _, _, q3 => exact q3.elim
/-- a local name that holds one of the text's defs, called -/
def tCallT (P : Program) (w : World) (K : PySem.W.Frag) (mg : Str → Option Value) (base : Heap) (j i : Nat) (t : TA) : TE := fun σ H Q => ∃ (x : Str) (k : Nat) (sp : Sp) (f : Addr), k ≤ j ∧ Cal P w K mg base k x sp ∧ mg x = some (.ref f) ∧
  σ[i]? = some (some (.ref f)) ∧ t σ H fun vs H1 => sp vs H1 Q E0
section
variable {X : Cx} {j i : Nat} {x : Str} {p pos : Pos} {e : Expr} {es : List Expr} {t : TA}
theorem pe_callT (hr : Room j X.A) (hN : X.N[i]? = some x) (hv : Vis X.env.scope x) (ha : PA X (e :: es) t)
    (hd : (x == ("__debug__" : Str)) = false := by decide) (hcd : (x == ("__classdict__" : Str)) = false := by decide)
    (he : starEach (e :: es) X.env = (false, eval e X.env) :: starEach es X.env := by rfl) (hpl : (backTo pos (starEach es X.env)).any (·.1) = false := by rfl) :
    PE X (.Call (.Name x p) (e :: es) [] pos) (tCallT X.prog X.w X.K X.mg X.base j i t) := by
  refine ⟨fun pins s σ H Q I h => ?_⟩
  obtain ⟨y, k, sp, f, hk, c, hm, hs, ht⟩ := h
  obtain ⟨f2, fd, ps, F, hm2, kp, b⟩ := c.ex
  obtain rfl : f = f2 := by
    rw [hm] at hm2
    injection hm2 with e1
    injection e1
  refine wpAny_Call_Name_kw (thn ((pe_var (pos := p) hN hv hd hcd).run pins s σ H (fun v H1 => v = .ref f ∧ H1 = H) I ⟨.ref f, hs, rfl, rfl⟩) fun u s1 ⟨v, H1, I1, r1, q1⟩ => ?_)
  obtain ⟨rfl, rfl⟩ := q1
  cases r1
  refine PySem.W.callWith_K (h₀ := X.base) I.ok.mod.kin kp (thn (ha.run pos pins s1 σ _ _ I1 ht) fun us s2 ⟨vs, H2, I2, r, q⟩ => ⟨I2.kIn, ?_⟩) he hpl
  exact run_fn F (hr.mono hk) b .nil pass0 I2 r (by rw [List.append_nil]; exact q)
end
/-- an entry of a dict of the module that holds a def -/
def EntT (K : PySem.W.Frag) (w : World) (mg : Str → Option Value) (a : Addr) (key x : Str) : Prop := ∃ f, mg x = some (.ref f) ∧ KDct K w a key (.ref f)
end VL

set_option Elab.async false
set_option linter.all false
set_option maxRecDepth 100000
set_option maxHeartbeats 4000000
namespace VL
open PySem PySem.Spec PyProof.Rows L2
/-! ### copies of values: what may be copied, what is new -/
mutual
def cpy : PyData → Bool
  | .list ds => decide (ds.length ≤ 1000) && cpyAll ds
  | .dict kvs => decide (kvs.length ≤ 1000) && cpyKv kvs
  | .tuple _ => false
  | .none | .bool _ | .int _ | .str _ => true
def cpyAll : List PyData → Bool
  | [] => true
  | d :: ds => cpy d && cpyAll ds
def cpyKv : List (PyData × PyData) → Bool
  | [] => true
  | (_, d) :: r => cpy d && cpyKv r
end
theorem cpyAll_mem : ∀ {ds : List PyData}, cpyAll ds = true → ∀ d ∈ ds, cpy d = true
  | e :: ds, h, d, hd => by
    have h' : cpy e = true ∧ cpyAll ds = true := by simpa [cpyAll] using h
    rcases List.mem_cons.mp hd with rfl | hd
    · exact h'.1
    · exact cpyAll_mem h'.2 d hd
theorem cpyKv_zip : ∀ {ks : List (Key × V)} {ds : List PyData}, ks.length = ds.length → cpyKv (zipK ks ds) = true → cpyAll ds = true
  | [], [], _, _ => rfl
  | p :: ks, d :: ds, hl, h => by
    have h' : cpy d = true ∧ cpyKv (zipK ks ds) = true := by
      have e : cpyKv (zipK (p :: ks) (d :: ds)) = (cpy d && cpyKv (zipK ks ds)) := rfl
      rw [e] at h
      simpa using h
    show (cpy d && cpyAll ds) = true
    rw [h'.1, cpyKv_zip (Nat.succ.inj hl) h'.2]
    rfl
/-- what has come since H -/
def newer (H H' : Hp) : Hp := fun b => match H b with
  | none => H' b
  | some _ => none
theorem newer_some {H H' : Hp} {b : Addr} {o : HO} (h : newer H H' b = some o) : H b = none ∧ H' b = some o := by
  unfold newer at h
  cases e : H b with
  | none => rw [e] at h; exact ⟨rfl, h⟩
  | some u => rw [e] at h; exact nomatch h
theorem newer_mk {H H' : Hp} {b : Addr} {o : HO} (h1 : H b = none) (h2 : H' b = some o) : newer H H' b = some o := by
  unfold newer
  rw [h1]
  exact h2
theorem newer_same (H H' : Hp) : Same (newer H H') H' := fun b o h => (newer_some h).2
def spCopy (n : Nat) : Sp := fun vs H Q _ => ∃ (v : V) (d : PyData), vs = [v] ∧ Dq H v d ∧ cpy d = true ∧ PyData.depth d ≤ n ∧ ∀ v' H', Same H H' → Dq (newer H H') v' d → Q v' H'
end VL

set_option Elab.async false
set_option linter.all false
set_option maxRecDepth 100000
set_option maxHeartbeats 4000000
namespace VL
open PySem PySem.Spec PyProof.Rows L2
/-! ### a part of a heap, and a few objects beside it that change -/
structure Sb (G H : Hp) (M : List (Addr × HO)) : Prop where
  s : Same G H
  m : ∀ p ∈ M, G p.1 = none ∧ H p.1 = some p.2
  nd : (M.map (·.1)).Nodup
def joinH (G N : Hp) : Hp := fun b => match G b with
  | some o => some o
  | none => N b
theorem joinH_l {G N : Hp} : Same G (joinH G N) := fun b o e => by
  unfold joinH
  rw [e]
theorem joinH_r {G H H' : Hp} (s : Same G H) : Same (newer H H') (joinH G (newer H H')) := fun b o e => by
  obtain ⟨z, _⟩ := newer_some e
  unfold joinH
  cases g : G b with
  | none => exact e
  | some u => rw [s _ _ g] at z; exact nomatch z
theorem Sb.alloc {G H : Hp} {M : List (Addr × HO)} {t : Addr} {o : HO} (S : Sb G H M) (h : H t = none) : Sb (upd G t o) (upd H t o) M := by
  refine ⟨fun b u e => ?_, fun p hp => ?_, S.nd⟩
  · by_cases z : b = t
    · subst z
      rw [upd_same] at e ⊢
      exact e
    · rw [upd_ne z] at e ⊢
      exact S.s _ _ e
  · obtain ⟨h1, h2⟩ := S.m p hp
    have n : p.1 ≠ t := ne_of_none h2 h
    rw [upd_ne n, upd_ne n]
    exact ⟨h1, h2⟩
theorem Sb.gnone {G H : Hp} {M : List (Addr × HO)} {t : Addr} (S : Sb G H M) (h : H t = none) : G t = none := Same.free S.s h
theorem Sb.grow {G H : Hp} {M : List (Addr × HO)} {t : Addr} {o : HO} (S : Sb G H M) (h : H t = none) : Same G (upd G t o) := fun b u e => by rw [upd_ne (ne_of_none e (S.gnone h))]; exact e
theorem Sb.call {G H H' : Hp} {M : List (Addr × HO)} (S : Sb G H M) (s : Same H H') : Sb (joinH G (newer H H')) H' M := by
  refine ⟨fun b u e => ?_, fun p hp => ?_, S.nd⟩
  · unfold joinH at e
    cases g : G b with
    | some o => rw [g] at e; rw [← e]; exact s _ _ (S.s _ _ g)
    | none => rw [g] at e; exact (newer_some e).2
  · obtain ⟨h1, h2⟩ := S.m p hp
    refine ⟨?_, s _ _ h2⟩
    unfold joinH
    rw [h1]
    show newer H H' p.1 = none
    unfold newer
    rw [h2]
theorem Sb.add {G H : Hp} {M : List (Addr × HO)} {t : Addr} {o : HO} (S : Sb G H M) (h : H t = none) : Sb G (upd H t o) ((t, o) :: M) := by
  refine ⟨fun b u e => by rw [upd_ne (ne_of_none (S.s _ _ e) h)]; exact S.s _ _ e, fun p hp => ?_, ?_⟩
  · rcases List.mem_cons.mp hp with rfl | hp
    · exact ⟨S.gnone h, upd_same⟩
    · obtain ⟨h1, h2⟩ := S.m p hp
      exact ⟨h1, by rw [upd_ne (ne_of_none h2 h)]; exact h2⟩
  · rw [List.map_cons, List.nodup_cons]
    refine ⟨fun hm => ?_, S.nd⟩
    obtain ⟨p, hp, e⟩ := List.mem_map.mp hm
    have := (S.m p hp).2
    rw [e] at this
    rw [show H (t, o).1 = none from h] at this
    exact nomatch this
theorem Sb.put {G H : Hp} {M : List (Addr × HO)} {t : Addr} {o : HO} {u : HO} (S : Sb G H ((t, o) :: M)) : Sb G (upd H t u) ((t, u) :: M) := by
  have nd := S.nd
  rw [List.map_cons, List.nodup_cons] at nd
  have gt := (S.m (t, o) List.mem_cons_self).1
  refine ⟨fun b v e => by rw [upd_ne (ne_of_none e gt)]; exact S.s _ _ e, fun p hp => ?_, ?_⟩
  · rcases List.mem_cons.mp hp with rfl | hp
    · exact ⟨gt, upd_same⟩
    · obtain ⟨h1, h2⟩ := S.m p (List.mem_cons_of_mem _ hp)
      have n : p.1 ≠ t := fun z => nd.1 (List.mem_map.mpr ⟨p, hp, z⟩)
      exact ⟨h1, by rw [upd_ne n]; exact h2⟩
  · rw [List.map_cons, List.nodup_cons]
    exact nd
theorem Sb.swap {G H : Hp} {M : List (Addr × HO)} {p q : Addr × HO} (S : Sb G H (p :: q :: M)) : Sb G H (q :: p :: M) := by
  have nd := S.nd
  refine ⟨S.s, fun r hr => S.m r ?_, ?_⟩
  · rcases List.mem_cons.mp hr with rfl | hr
    · exact List.mem_cons_of_mem _ List.mem_cons_self
    · rcases List.mem_cons.mp hr with rfl | hr
      · exact List.mem_cons_self
      · exact List.mem_cons_of_mem _ (List.mem_cons_of_mem _ hr)
  · simp only [List.map_cons, List.nodup_cons, List.mem_cons] at nd ⊢
    refine ⟨fun z => ?_, fun z => nd.1 (.inr z), nd.2.2⟩
    rcases z with z | z
    · exact nd.1 (.inl z.symm)
    · exact nd.2.1 z
theorem Sb.drop {G H : Hp} {M : List (Addr × HO)} {t : Addr} {o : HO} (S : Sb G H ((t, o) :: M)) : Sb (upd G t o) H M ∧ Same G (upd G t o) := by
  have nd := S.nd
  rw [List.map_cons, List.nodup_cons] at nd
  obtain ⟨gt, ht⟩ := S.m (t, o) List.mem_cons_self
  refine ⟨⟨fun b u e => ?_, fun p hp => ?_, nd.2⟩, fun b u e => by rw [upd_ne (ne_of_none e gt)]; exact e⟩
  · by_cases z : b = t
    · subst z
      rw [upd_same] at e
      rw [← e]
      exact ht
    · rw [upd_ne z] at e
      exact S.s _ _ e
  · obtain ⟨h1, h2⟩ := S.m p (List.mem_cons_of_mem _ hp)
    have n : p.1 ≠ t := fun z => nd.1 (List.mem_map.mpr ⟨p, hp, z⟩)
    exact ⟨by rw [upd_ne n]; exact h1, h2⟩
theorem Sb.hd {G H : Hp} {M : List (Addr × HO)} {p : Addr × HO} (S : Sb G H (p :: M)) : H p.1 = some p.2 := (S.m p List.mem_cons_self).2
theorem Sb.hd2 {G H : Hp} {M : List (Addr × HO)} {p q : Addr × HO} (S : Sb G H (q :: p :: M)) : H p.1 = some p.2 := (S.m p (List.mem_cons_of_mem _ List.mem_cons_self)).2
theorem Sb.nil {H : Hp} : Sb H H [] := ⟨Same.refl _, (fun _ h => nomatch h), List.nodup_nil⟩
end VL

set_option Elab.async false
set_option linter.all false
set_option maxRecDepth 100000
set_option maxHeartbeats 4000000
namespace VL
open PySem PySem.Spec PyProof.Rows L2
theorem Sb.put2 {G H : Hp} {M : List (Addr × HO)} {p : Addr × HO} {t : Addr} {o u : HO} (S : Sb G H (p :: (t, o) :: M)) : Sb G (upd H t u) (p :: (t, u) :: M) := S.swap.put.swap
theorem Sb.more {G H H' : Hp} {M : List (Addr × HO)} (S : Sb G H M) (s : Same H H') : ∃ G', Sb G' H' M ∧ Same G G' := ⟨_, S.call s, joinH_l⟩
theorem flat_one {α : Type} (l : List α) : (l.map fun c => [c]).flatten = l := by
  induction l with
  | nil => rfl
  | cons c cs ih => simp [ih]
theorem valV_in2 {k : Key} : ∀ {ks : List (Key × V)}, k ∈ ks.map (·.1) → (valV ks k).isSome = true
  | p :: ks, h => by
    by_cases e : p.1 = k
    · rw [valV_pos e]
      rfl
    · rw [valV_neg e]
      refine valV_in2 ?_
      rcases List.mem_cons.mp (show k ∈ p.1 :: ks.map (·.1) from h) with z | z
      · exact absurd z.symm e
      · exact z
end VL

set_option Elab.async false
set_option linter.all false
set_option maxRecDepth 100000
set_option maxHeartbeats 4000000
namespace PySem.W
open PySem PyProof.Rows
section
variable {prog : Program} {w : World} {A A₀ : Around} {E : Value → Shared → Prop} {s : Shared} {K : Frag} {x C L f : Addr} {h₀ : Heap} {m : Str → Option Value} {ox : Obj} {od : Option Obj} {name : Str} {b tb : Value}
theorem ifBound_B {M : Model} {id : String} {T : String} {nm : Str} {args : List Value} {Q : Option Value → Shared → Prop} (X : K.In s.heap) (I : InstAt s.heap x ox C od) (hs : findIn K (.ref C) name = some (some (.builtin id))) (S : Slot T nm id)
    (h : wpAny M A (call (.builtin id) (.ref x :: args)) (fun v => Q (some v)) E s) : wpAny M A (callSpecialIfBound? (.ref x) name args) Q E s := by
  simp only [callSpecialIfBound?, bindSpecialIfBound?]
  refine wpAny_holding (wpAny_bind (wpAny_bind (wpAny_bind (I.type.here ((looks_findIn X hs).here ?_)))))
  simp only [S.bind]
  refine wpAny_bind (wpAny_askSetting (wpAny_ite ?_))
  have fin : wpAny M A (call (.builtin id) ([.ref x] ++ args) >>= fun v => pure (some v)) Q E s := wpAny_bind (wpAny_mono h (fun v s' h' => wpAny_pure h') fun _ _ h' => h')
  split
  · exact wpAny_bind (wpAny_pure (wpAny_pure (by exact fin)))
  · exact wpAny_tryCatch (wpAny_bind (wpAny_pure (wpAny_pure (by exact fin))))
theorem objNe_K {Q : Fin → Shared → Prop} (X : K.In s.heap) (I : InstAt s.heap x ox C od) (hs : findIn K (.ref C) "__eq__" = some (some (.ref f))) (hf : isFn K (.ref f) = true) (hu : A.units < cLine)
    (hcall : wpAny (model prog w) A (call (.ref f) [.ref x, b]) (fun v s' => ∃ r, v = .bool r ∧ Q (.done (.ret (.bool (!r)))) s') E s) :
    wpAny (model prog w) A (Builtin.«object.__ne__» ⟨[.ref x, b], []⟩) Q E s := by
  obtain ⟨hp, g, d, t, os⟩ := s
  unfold Builtin.«object.__ne__»
  repeat (first
    | with_reducible refine wpAny_cRoomFor hu ?_
    | (refine wpAny_bind (m := callSpecialIfBound? (.ref x) (Str.ofString "__eq__") [b])
        (ifBound_K X I hs hf (wpAny_mono hcall (fun r s' hr => by
          obtain ⟨z, rfl, hq⟩ := hr
          repeat (first | exact hq | exact wpAny_pure hq | exact wpAny_truthy_bool hq | (refine wpAny_bind (m := truthy (.bool _)) (wpAny_truthy_bool ?_)) | wp_step)) fun _ _ e => e)))
    | wp_step)
/-- x != b by the own == of x's class -/
theorem ne_K {Q : Value → Shared → Prop} (hu : A.units + 1 < cLine) (F : Fr h₀ L s.heap m) (X₀ : K.In h₀) (I : InstAt s.heap x ox C od) (hb : Looks (model prog w) s.heap (typeOf b) tb) (hn : notFirst K C tb = true)
    (hN : findIn K (.ref C) "__ne__" = some (some (.builtin "object.__ne__"))) (hob : mroIn K C (.type "object") = some true) (hs : findIn K (.ref C) "__eq__" = some (some (.ref f))) (hf : isFn K (.ref f) = true)
    (h : wpAny (model prog w) A.in1 (call (.ref f) [.ref x, b]) (fun v s' => ∃ r, v = .bool r ∧ Q (.bool (!r)) s') E s) : wpAny (model prog w) A (richCompare .NotEq (.ref x) b) Q E s := by
  have X := X₀.keeps F.keep
  have S : Slot "zip" "__ne__" "object.__ne__" := PySem.F.slot_zip_ne
  have sub : Looks (model prog w) s.heap (isInstance (.ref x) (.type "object")) true := I.type.andThen (looks_mroIn X hob)
  have one : wpAny (model prog w) A (tryCompare (.ref x) "__ne__" b) (fun r s' => ∃ v, r = some v ∧ Q v s') E s := by
    unfold tryCompare
    refine wpAny_bind (ifBound_B X I hN S (wpAny_call (codeAny_call_builtin S.plain PySem.F.cmpEntry_ne
      (@check_slot (model prog w) _ _ s "object.__ne__" "object" "__ne__" (.ref x) [b] [] _ PySem.F.cmpKind_ne PySem.F.cmpSplit_ne sub (PySem.F.cmpArgs_ne _ _)
        (objNe_K (A := A.in1) X I hs hf hu (wpAny_mono h (fun v s' hv => ?_) fun _ _ e => e))))))
    obtain ⟨r, rfl, hq⟩ := hv
    exact ⟨r, rfl, wpAny_pure ⟨_, rfl, hq⟩⟩
  unfold richCompare
  simp only [oneThing_ref]
  refine wpAny_holding (wpAny_bind (wpAny_cRoomFor (Nat.lt_of_succ_lt hu) ?_))
  rw [show (cmpInfo .NotEq).2.1 = "__ne__" from rfl]
  refine wpAny_bind (I.type.here (wpAny_bind (hb.here ?_)))
  split
  · rename_i q
    have e : subIn K tb (.ref C) = some false := by
      rcases Bool.or_eq_true_iff.mp hn with e | e
      · rw [beq_iff_eq.mp e] at q; simp at q
      · exact beq_iff_eq.mp e
    refine wpAny_bind ((looks_subIn X e).here ?_)
    simp only [Bool.false_eq_true, if_false]
    refine wpAny_bind (wpAny_mono one (fun r s' z => ?_) fun _ _ e => e)
    obtain ⟨v, rfl, hq⟩ := z
    exact wpAny_pure hq
  · refine wpAny_bind (wpAny_pure ?_)
    simp only [Bool.false_eq_true, if_false]
    refine wpAny_bind (wpAny_mono one (fun r s' z => ?_) fun _ _ e => e)
    obtain ⟨v, rfl, hq⟩ := z
    exact wpAny_pure hq
end
end PySem.W
namespace L2
open PySem PySem.Spec PyProof.Rows
def rNeG (D : Eqv) : R2 := fun x y H Q => D x y H ∧ ∀ H', Ext H H' → Q (.bl false) H'
section
variable {X : Cx} {n : Nat}
theorem op_neIns {CX : CXT} {C f : Addr} {fd : FuncData} {ps : List Str} {R : Addr → Addr → Hp → Prop} {E : XK} (F : FnOk X.prog X.w X.K X.mg X.base CX n f fd ps (spEq R))
    (hN : PySem.W.findIn X.K (.ref C) "__ne__" = some (some (.builtin "object.__ne__"))) (hob : PySem.W.mroIn X.K C (.type "object") = some true)
    (hs : PySem.W.findIn X.K (.ref C) "__eq__" = some (some (.ref f))) (hf : PySem.W.isFn X.K (.ref f) = true) (hb : Binds X.K fd ps []) (hx : Passes CX X E) (hr : Room (n + 1) X.A) : OpR X (compareOp .NotEq) (rNeG (DIns C R)) := by
  intro pins s σ H x y v u Q I rx ry hq
  obtain ⟨⟨a, b, dx, dy, fs, gs, rfl, rfl, ha, hb', hR⟩, q⟩ := hq
  cases rx
  cases ry
  show wpAny (model X.prog X.w) X.A (richCompare .NotEq (.ref a) (.ref b)) (EP X pins σ Q) X.xe s
  obtain ⟨mA, J, _⟩ := ins_get I.hok ha
  obtain ⟨mB, J', _⟩ := ins_get I.hok hb'
  obtain ⟨od, J, _⟩ := J.look
  obtain ⟨od', J', _⟩ := J'.look
  obtain ⟨m, hF⟩ := I.fr
  refine PySem.W.ne_K (tb := .ref C) (by have := hr.units; omega) hF I.ok.mod.kin J J'.type (by simp [PySem.W.notFirst]) hN hob hs hf ?_
  have hsp : spEq R [.ref a, .ref b] H (fun v H' => v = .bl true ∧ Ext H H') E := ⟨a, b, rfl, hR, fun H' e => ⟨rfl, e⟩⟩
  have e0 : Env0 X.prog X.w X.K X.mg X.base X.A.in1 X.stack s H := by
    have e := I.env0
    exact ⟨e.frames, e.mod, e.bs, e.bsz, e.funs, e.frf, e.hok, e.bare⟩
  have hl := F.len _ _ _ _ hsp
  have r2 : Vals [V.ref a, V.ref b] [Value.ref a, Value.ref b] := .cons rfl (.cons rfl .nil)
  refine wpAny_call (codeAny_mono (F.run X.A.in1 X.stack s H ⟨[.ref a, .ref b], []⟩ [.ref a, .ref b] [.ref a, .ref b] _ E hr.in1 e0 (by
    have := hb s [.ref a, .ref b] I.kIn (by simpa using hl)
    simpa using this) r2 hsp) fun r s' hq => ?_)
  cases r with
  | error e => exact hx pins σ H s e s' I hq
  | ok fl =>
    cases fl with
    | ret w =>
      obtain ⟨z, H', I', rz, ez, ex⟩ := I.after hq
      subst ez
      cases rz
      exact ⟨true, rfl, .bl false, H', I', rfl, q H' ex⟩
    | next => exact False.elim hq
    | brk => exact False.elim hq
    | cont => exact False.elim hq
end
end L2

set_option Elab.async false
set_option linter.all false
set_option maxRecDepth 100000
namespace VL
open PySem PySem.Spec PyProof.Rows L2
/-! ### != of lists of any texts; repr of a truth value or None -/
section
variable {X : Cx}
def rNeP (K : PySem.W.Frag) : R2 := fun x y H Q => ∃ d e, Dp K H x d ∧ Dp K H y e ∧ d.plain = true ∧ e.plain = true ∧ PyData.depth d ≤ 60 ∧ Q (.bl (!PyData.eqv d e)) H
theorem op_neP (hu : X.A.units + 64 < cLine) : OpR X (compareOp .NotEq) (rNeP X.K) := by
  intro pins s σ H x y v u Q I rx ry h
  obtain ⟨d, e, hd, he, sd, se, dp, q⟩ := h
  obtain ⟨as, r1⟩ := Dp.reads I d x v hd rx
  obtain ⟨bs, r2⟩ := Dp.reads I e y u he ry
  exact SeqAt.ne_plain r1 r2 sd se (by have := Nat.min_le_left d.depth e.depth; omega) ⟨.bl _, H, I, rfl, q⟩
def rEqP (K : PySem.W.Frag) : R2 := fun x y H Q => ∃ d e, Dp K H x d ∧ Dp K H y e ∧ d.plain = true ∧ e.plain = true ∧ PyData.depth d ≤ 60 ∧ Q (.bl (PyData.eqv d e)) H
theorem op_eqP {K : PySem.W.Frag} (hK : X.K = K) (hu : X.A.units + 64 < cLine) : OpR X (compareOp .Eq) (rEqP K) := by
  subst hK
  intro pins s σ H x y v u Q I rx ry h
  obtain ⟨d, e, hd, he, sd, se, dp, q⟩ := h
  obtain ⟨as, r1⟩ := Dp.reads I d x v hd rx
  obtain ⟨bs, r2⟩ := Dp.reads I e y u he ry
  exact SeqAt.eq_plain r1 r2 sd se (by have := Nat.min_le_left d.depth e.depth; omega) ⟨.bl _, H, I, rfl, q⟩
def rRepB : List V → Hp → VK → Prop := fun xs H Q => ∃ x : Str, (xs = [.non] ∧ x = "None" ∨ ∃ b : Bool, xs = [.bl b] ∧ x = if b then "True" else "False") ∧ Q (.str x) H
theorem call_repB : CallR X (.builtin "repr") rRepB := by
  intro pins s σ H xs us Q I r h
  obtain ⟨x, h, q⟩ := h
  have fin : ∀ (t : Tok) (tk : Nat), EP X pins σ Q (.str x t) { s with toks := tk } := fun t tk => ⟨.str _, H, I.kept (h' := s.heap) (fun _ _ e => e), ⟨t, rfl⟩, q⟩
  rcases h with ⟨rfl, rfl⟩ | ⟨b, rfl, rfl⟩
  · obtain ⟨u, rfl, ru⟩ := vals1 r
    cases (show u = Value.none from ru)
    exact P.repr_of_none (fin _ _)
  · obtain ⟨u, rfl, ru⟩ := vals1 r
    cases (show u = Value.bool b from ru)
    refine P.repr_of_bool ?_
    cases b
    · exact fin _ _
    · exact fin _ _
theorem dpAll_strT {K : PySem.W.Frag} {H : Hp} : ∀ ns : List Str, DpAll K H (ns.map V.str) (ns.map PyData.str)
  | [] => .nil
  | a :: ns => .cons (.str a) (dpAll_strT ns)
theorem plain_strs (ns : List Str) : PyData.plain (.list (ns.map PyData.str)) = true := by
  show PyData.plainAll _ = true
  induction ns with
  | nil => rfl
  | cons a ns ih =>
    show (PyData.plain (.str a) && PyData.plainAll (ns.map PyData.str)) = true
    rw [ih]
    rfl
theorem depth_strs (ns : List Str) : PyData.depth (.list (ns.map PyData.str)) = 1 := by
  have : ∀ ns : List Str, PyData.depthAll (ns.map PyData.str) = 0 := by
    intro ns
    induction ns with
    | nil => rfl
    | cons a ns ih => simp [PyData.depthAll, PyData.depth, ih]
  simp [PyData.depth, this]
end
end VL

set_option Elab.async false
set_option linter.all false
set_option maxRecDepth 100000
set_option maxHeartbeats 4000000
namespace VL
open PySem PySem.Spec PyProof.Rows L2
open PySem.SeqAt (EqP)
open AutoSeq1 (wpAny_loadPart')
/-! ### == and != of nested data with dicts that read as the same -/
/-- both read as one thing of depth n -/
def SameD (H : Hp) (n : Nat) (x y : V) : Prop := ∃ d, PyData.depth d ≤ n ∧ Dq H x d ∧ Dq H y d
theorem pairD_of {H : Hp} {n : Nat} : ∀ {ds : List PyData} {xs ys : List V}, PyData.depthAll ds ≤ n → DqAll H xs ds → DqAll H ys ds → Paired (SameD H n) xs ys
  | [], _, _, _, h1, h2 => by cases h1; cases h2; exact .nil
  | d :: ds, _, _, hd, h1, h2 => by
    have hd' : max (PyData.depth d) (PyData.depthAll ds) ≤ n := hd
    cases h1 with
    | cons a1 b1 => cases h2 with
      | cons a2 b2 => exact .cons ⟨d, by omega, a1, a2⟩ (pairD_of (by omega) b1 b2)
section
variable {X : Cx} {pins : List (Addr × Obj)} {σ : L2.St} {H : Hp} {s : Shared}
theorem lkp_depth {k : Key} {d : PyData} : ∀ {kvs : List (PyData × PyData)}, lkp kvs k = some d → PyData.depth d ≤ PyData.depthKv kvs
  | [], h => nomatch h
  | (a, b) :: r, h => by
    have e : PyData.depthKv ((a, b) :: r) = max (max (PyData.depth a) (PyData.depth b)) (PyData.depthKv r) := rfl
    rw [e]
    unfold lkp at h
    split at h
    · cases h
      show PyData.depth b ≤ _
      omega
    · have := lkp_depth h
      omega
theorem rcQ_dict (I : Inv X pins σ H s) {A : Around} {n : Nat} (hu : A.units < cLine) (ih : ∀ x y v u, SameD H n x y → RelV x v → RelV y u → EqP X.prog X.w A.in1 s v u true) {kvs : List (PyData × PyData)} {x y : V} {v u : Value} (hn : PyData.depthKv kvs ≤ n)
    (h1 : Dq H x (.dict kvs)) (h2 : Dq H y (.dict kvs)) (rx : RelV x v) (ry : RelV y u) (E Q : Value → Shared → Prop) (q : Q (.bool true) s) : wpAny (model X.prog X.w) A (richCompare .Eq v u) Q E s := by
  obtain ⟨a, ks, rfl, ha, nd1, l1, k1⟩ := dq_dict h1
  obtain ⟨b, ls, rfl, hb, nd2, l2, k2⟩ := dq_dict h2
  cases (show v = Value.ref a from rx)
  cases (show u = Value.ref b from ry)
  obtain ⟨_, ya, va, ra, da⟩ := (show ObjOk X.prog X.w H s.heap a (.dK ks) from I.hok a _ ha)
  obtain ⟨_, yb, vb, rb, db⟩ := (show ObjOk X.prog X.w H s.heap b (.dK ls) from I.hok b _ hb)
  have hit : ∀ p ∈ ks, ∃ w, valV ls p.1 = some w ∧ SameD H n p.2 w := fun p hp => by
    obtain ⟨i, hi, hip⟩ := List.getElem_of_mem hp
    have hv : valV ks p.1 = some p.2 := valV_nd (i := i) nd1 (by rw [List.getElem?_eq_getElem hi, hip])
    rcases k1 p.1 with ⟨_, z⟩ | ⟨d, w1, e1, e2, e3⟩
    · rw [hv] at z; cases z
    · rw [hv] at e2
      cases e2
      rcases k2 p.1 with ⟨z, _⟩ | ⟨d', w2, f1, f2, f3⟩
      · rw [e1] at z; cases z
      · rw [e1] at f1
        cases f1
        exact ⟨w2, f2, d, Nat.le_trans (lkp_depth e1) hn, e3, f3⟩
  refine PySem.W.rcP_dicts (knd := mixKind X.prog X.w) (r := true) ya yb da db hu (fun _ => hits_run ih rb ra hit) E Q ?_
  have e : va.length = vb.length := by rw [← ra.length, ← rb.length, l1, l2]
  rw [show (va.length == vb.length && true) = true by rw [e]; simp]
  exact q
theorem all_true {n : Nat} : ((List.range n).all fun _ => true) = true := List.all_eq_true.mpr fun _ _ => rfl
theorem eqQ_run (I : Inv X pins σ H s) : ∀ (n : Nat) (A : Around), A.units + n < cLine → ∀ (x y : V) (v u : Value), SameD H n x y → RelV x v → RelV y u → EqP X.prog X.w A s v u true := by
  intro n
  induction n with
  | zero =>
    intro A hu x y v u h rx ry
    obtain ⟨d, hd, h1, h2⟩ := h
    have flat : x = y ∧ flatB x = true := by
      cases h1 with
      | non => cases h2; exact ⟨rfl, rfl⟩
      | bl b => cases h2; exact ⟨rfl, rfl⟩
      | int i => cases h2; exact ⟨rfl, rfl⟩
      | str x => cases h2; exact ⟨rfl, rfl⟩
      | lst _ _ => exact absurd hd (by simp [PyData.depth])
      | tup _ _ => exact absurd hd (by simp [PyData.depth])
      | dic _ _ _ => exact absurd hd (by simp [PyData.depth])
    obtain ⟨rfl, f⟩ := flat
    exact (eqAt_same rx ry f).eqP
  | succ n ihn =>
    intro A hu x y v u h rx ry
    obtain ⟨d, hd, h1, h2⟩ := h
    have ih := ihn A.in1 (by show A.units + 1 + n < cLine; omega)
    have refs : ∀ {a b : Addr}, x = .ref a → y = .ref b → (∀ (E Q : Value → Shared → Prop), Q (.bool true) s → wpAny (model X.prog X.w) A (richCompare .Eq v u) Q E s) → EqP X.prog X.w A s v u true := fun {a b} ex ey step => by
      subst ex ey
      cases (show v = Value.ref a from rx)
      cases (show u = Value.ref b from ry)
      by_cases e : a = b
      · subst e
        exact (SeqAt.EqAt.same _).eqP
      · exact SeqAt.eqP_refs e step
    cases d with
    | none => cases h1; cases h2; exact (eqAt_same rx ry rfl).eqP
    | bool b => cases h1; cases h2; exact (eqAt_same rx ry rfl).eqP
    | int i => cases h1; cases h2; exact (eqAt_same rx ry rfl).eqP
    | str z => cases h1; cases h2; exact (eqAt_same rx ry rfl).eqP
    | list ds =>
      have hd' : PyData.depthAll ds ≤ n := by simp only [PyData.depth] at hd; omega
      obtain ⟨a, xs, rfl, ha, da⟩ := dq_list h1
      obtain ⟨b, ys, rfl, hb, db⟩ := dq_list h2
      refine refs rfl rfl fun E Q q => ?_
      cases (show v = Value.ref a from rx)
      cases (show u = Value.ref b from ry)
      obtain ⟨us, r1, p1, _⟩ := I.list (SqL.of ha)
      obtain ⟨ws, r2, p2, _⟩ := I.list (SqL.of hb)
      have hp := pairD_of hd' da db
      have hsz : us.toArray.size = ws.toArray.size := by
        rw [List.size_toArray, List.size_toArray, ← r1.length, ← r2.length]
        exact Paired.length hp
      refine SeqAt.rcP_lists (e := fun _ => true) p1.isList p2.isList hsz (by omega) (fun j h1 h2 => ?_) E Q ?_
      · have k := items_run ih hp r1 r2 j (by simpa using h1) (by simpa using h2)
        simpa using k
      · rw [all_true]
        exact q
    | tuple ds =>
      have hd' : PyData.depthAll ds ≤ n := by simp only [PyData.depth] at hd; omega
      obtain ⟨a, xs, rfl, ha, da⟩ := dq_tup h1
      obtain ⟨b, ys, rfl, hb, db⟩ := dq_tup h2
      refine refs rfl rfl fun E Q q => ?_
      cases (show v = Value.ref a from rx)
      cases (show u = Value.ref b from ry)
      obtain ⟨us, r1, p1, _⟩ := I.tuple (SqT.of ha)
      obtain ⟨ws, r2, p2, _⟩ := I.tuple (SqT.of hb)
      have hp := pairD_of hd' da db
      have hsz : us.toArray.size = ws.toArray.size := by
        rw [List.size_toArray, List.size_toArray, ← r1.length, ← r2.length]
        exact Paired.length hp
      refine PySem.SeqAt.rcIn_tuples (e := fun _ => true) p1 p2 (by omega) (fun j h1 h2 => ?_) ?_
      · have k := items_run ih hp r1 r2 j (by simpa using h1) (by simpa using h2)
        have k' : EqP X.prog X.w A.in1 s us.toArray[j] ws.toArray[j] true := by simpa using k
        exact k'
      · rw [all_true, hsz]
        simpa using q
    | dict kvs =>
      have hd' : PyData.depthKv kvs ≤ n := by simp only [PyData.depth] at hd; omega
      obtain ⟨a, _, ex, _⟩ := dq_dict h1
      obtain ⟨b, _, ey, _⟩ := dq_dict h2
      exact refs ex ey fun E Q q => rcQ_dict I (by omega) ih hd' h1 h2 rx ry E Q q
end
/-! ### != -/
section
open MeetsSeq MeetsSeq2 MeetsSeq3
variable {prog : Program} {w : World}
/-- two lists all of whose items are equal, from the i-th on -/
theorem neL_loop {l b : Addr} {us ws : Array Value} {n n2 : Nat} {dd dd2 : Option Addr} {sl sl2 : Array (Option Value)} (hsz : us.size = ws.size) : ∀ (m i : Nat), us.size - i = m → MeetsIn prog w (Builtin.«list.__eq__.loop» ⟨[.ref l, .ref b, rawInt i, rawInt 3], []⟩)
      (fun A R s => s.heap.get? l = some { cls := .type "list", dict := dd, data := .seq us n, slots := sl } ∧ s.heap.get? b = some { cls := .type "list", dict := dd2, data := .seq ws n2, slots := sl2 } ∧
        (∀ j (h1 : j < us.size) (h2 : j < ws.size), EqP prog w A.in1 s us[j] ws[j] true) ∧ R (.ok (.ret (.bool false))) s) := by
  intro m
  induction m with
  | zero =>
    rintro i hm A R ⟨hp, g, d, tk, os⟩ ⟨ea, eb, _, fin⟩
    have o1 : us[((i : Nat) : Int).toNat]? = none := by simp; omega
    have o2 : ws[((i : Nat) : Int).toNat]? = none := by simp; omega
    wp_walk using wpAny_loadPart' ea, wpAny_loadPart' eb
    rw [o1, o2]
    wp_walk using wpAny_loadPart' ea, wpAny_loadPart' eb
    show R (.ok (.ret (.bool (us.size != ws.size)))) _
    rw [hsz, show (ws.size != ws.size) = false by simp]
    exact fin
  | succ m ih =>
    rintro i hm A R ⟨hp, g, d, tk, os⟩ ⟨ea, eb, each, fin⟩
    have i1 : i < us.size := by omega
    have i2 : i < ws.size := by omega
    have o1 : us[((i : Nat) : Int).toNat]? = some us[i] := by simp [i1]
    have o2 : ws[((i : Nat) : Int).toNat]? = some ws[i] := by simp [i2]
    wp_walk using wpAny_loadPart' ea, wpAny_loadPart' eb
    rw [o1, o2]
    refine wpAny_bind (each i i1 i2 _ _ ?_)
    wp_walk
    rw [show ((i : Int) + 1) = ((i + 1 : Nat) : Int) by omega]
    refine ⟨plainId_quiet plain_eq_loop _, codeAny_builtin entry_eq_loop ?_⟩
    rw [Around.under_plainId plain_eq_loop _]
    exact ih (i + 1) (by omega) A R _ ⟨ea, eb, each, fin⟩
theorem neL {l b : Addr} {us ws : Array Value} {n n2 : Nat} {dd dd2 : Option Addr} {sl sl2 : Array (Option Value)} (hsz : us.size = ws.size) : MeetsIn prog w (Builtin.«list.__ne__» ⟨[.ref l, .ref b], []⟩)
      (fun A R s => s.heap.get? l = some { cls := .type "list", dict := dd, data := .seq us n, slots := sl } ∧ s.heap.get? b = some { cls := .type "list", dict := dd2, data := .seq ws n2, slots := sl2 } ∧
        (∀ j (h1 : j < us.size) (h2 : j < ws.size), EqP prog w A.in1 s us[j] ws[j] true) ∧ R (.ok (.ret (.bool false))) s) := by
  rintro A R ⟨hp, g, d, tk, os⟩ ⟨ea, eb, each, fin⟩
  have f3 := AutoSeq1.sub_list_list
  have hne : ¬ (us.size != ws.size) = true := by simp [hsz]
  wp_walk using wpAny_loadPart' ea, wpAny_loadPart' eb
  refine ⟨plainId_quiet plain_eq_loop _, codeAny_builtin entry_eq_loop ?_⟩
  rw [Around.under_plainId plain_eq_loop _]
  exact neL_loop hsz _ 0 rfl A R _ ⟨ea, eb, each, fin⟩
theorem rneL {A : Around} {s : Shared} {l b : Addr} {us ws : Array Value} (hl : s.heap.IsList l us) (hb : s.heap.IsList b ws) (hsz : us.size = ws.size) (hu : A.units < cLine)
    (each : ∀ j (h1 : j < us.size) (h2 : j < ws.size), EqP prog w A.in1 s us[j] ws[j] true) {E Q : Value → Shared → Prop} (q : Q (.bool false) s) : wpAny (model prog w) A (richCompare .NotEq (.ref l) (.ref b)) Q E s := by
  obtain ⟨⟨c1, d1, t1, s1⟩, e1, k1, n1, m1⟩ := hl
  obtain ⟨⟨c2, d2, t2, s2⟩, e2, k2, n2, m2⟩ := hb
  simp only at k1 m1 k2 m2
  subst k1 m1 k2 m2
  exact wpAny_richCompare_same_room (T := "list") (op := .NotEq) ⟨_, e1, rfl⟩ ⟨_, e2, rfl⟩ F.slot_list_ne (call_meetsIn F.slot_list_ne ⟨_, e1, rfl⟩ F.entry_list_ne (F.args_list_ne_2 _ _) (neL hsz)
    ⟨e1, e2, each, show Value.bool false ≠ Value.notImplemented ∧ Q (.bool false) s from ⟨(fun x => nomatch x), q⟩⟩) hu
end
section
variable {X : Cx}
def rEqQ : R2 := fun x y H Q => ∃ d, PyData.depth d ≤ 60 ∧ Dq H x d ∧ Dq H y d ∧ Q (.bl true) H
def rNeQ : R2 := fun x y H Q => ∃ ds, PyData.depthAll ds ≤ 60 ∧ Dq H x (.list ds) ∧ Dq H y (.list ds) ∧ Q (.bl false) H
/-- a != b, two lists that read as the same -/
theorem op_neQ (hu : X.A.units + 64 < cLine) : OpR X (compareOp .NotEq) rNeQ := by
  intro pins s σ H x y v u Q I rx ry h
  obtain ⟨ds, dp, h1, h2, q⟩ := h
  obtain ⟨a, xs, rfl, ha, da⟩ := dq_list h1
  obtain ⟨b, ys, rfl, hb, db⟩ := dq_list h2
  cases (show v = Value.ref a from rx)
  cases (show u = Value.ref b from ry)
  obtain ⟨us, r1, p1, _⟩ := I.list (SqL.of ha)
  obtain ⟨ws, r2, p2, _⟩ := I.list (SqL.of hb)
  have hp := pairD_of dp da db
  have hsz : us.toArray.size = ws.toArray.size := by
    rw [List.size_toArray, List.size_toArray, ← r1.length, ← r2.length]
    exact Paired.length hp
  have ih := eqQ_run I 60 X.A.in1 (by show X.A.units + 1 + 60 < cLine; omega)
  refine rneL p1.isList p2.isList hsz (by omega) (fun j k1 k2 => ?_) ⟨.bl false, H, I, rfl, q⟩
  have k := items_run ih hp r1 r2 j (by simpa using k1) (by simpa using k2)
  simpa using k
end
end VL

set_option Elab.async false
set_option linter.all false
set_option maxRecDepth 100000
set_option maxHeartbeats 4000000
namespace VL
open PySem PySem.Spec PyProof.Rows L2
open PySem.SeqAt (EqP)
open AutoSeq1 (wpAny_loadPart')
/-! ### != of two tuples that read as the same -/
section
open MeetsSeq MeetsSeq2 MeetsSeq3
variable {prog : Program} {w : World}
theorem neT {l b : Addr} {us ws : Array Value} {n n2 : Nat} {dd dd2 : Option Addr} {sl sl2 : Array (Option Value)} (hsz : us.size = ws.size) : MeetsIn prog w (Builtin.«tuple.__ne__» ⟨[.ref l, .ref b], []⟩)
      (fun A R s => s.heap.get? l = some { cls := .type "tuple", dict := dd, data := .seq us n, slots := sl } ∧ s.heap.get? b = some { cls := .type "tuple", dict := dd2, data := .seq ws n2, slots := sl2 } ∧
        (∀ j (h1 : j < us.size) (h2 : j < ws.size), EqP prog w A.in1 s us[j] ws[j] true) ∧ R (.ok (.ret (.bool false))) s) := by
  rintro A R ⟨hp, g, d, tk, os⟩ ⟨ea, eb, each, fin⟩
  have f2 := AutoSeq1.sub_tuple_tuple
  wp_walk using wpAny_loadPart' ea, wpAny_loadPart' eb, wpAny_forIn_list _ (fun rest b s' => b.1 = none ∧ s' = ⟨hp, g, d, tk, os⟩ ∧ ∃ i, rest = (us.toList.zip ws.toList).drop i) _
  case turn =>
    rintro ⟨x, y⟩ rest b s' ⟨hb', rfl, i, hz⟩
    have hZ : (us.toList.zip ws.toList).length = us.size := by simp [hsz]
    have hlt : i < (us.toList.zip ws.toList).length := by
      rcases Nat.lt_or_ge i (us.toList.zip ws.toList).length with h | h
      · exact h
      · rw [List.drop_of_length_le h] at hz
        exact nomatch hz
    have h1 : i < us.size := hZ ▸ hlt
    have h2 : i < ws.size := hsz ▸ h1
    rw [List.drop_eq_getElem_cons hlt, List.getElem_zip] at hz
    obtain ⟨hxy, hrest⟩ := List.cons.inj hz
    obtain ⟨ex, ey⟩ := Prod.mk.inj hxy
    have ex' : x = us[i] := by rw [ex]; simp
    have ey' : y = ws[i] := by rw [ey]; simp
    rw [ex', ey']
    refine wpAny_bind (each i h1 h2 _ _ ?_)
    wp_walk
    exact ⟨rfl, rfl, i + 1, hrest⟩
  case fin =>
    rintro b s' ⟨hb', rfl, _⟩
    obtain ⟨b1, b2⟩ := b
    have hb' : b1 = none := hb'
    subst hb'
    wp_walk
    show R (.ok (.ret (.bool (us.size != ws.size)))) _
    rw [hsz, show (ws.size != ws.size) = false by simp]
    exact fin
  exact ⟨rfl, rfl, 0, rfl⟩
theorem rneT {A : Around} {s : Shared} {l b : Addr} {us ws : Array Value} (hl : s.heap.IsTuple l us) (hb : s.heap.IsTuple b ws) (hsz : us.size = ws.size) (hu : A.units < cLine)
    (each : ∀ j (h1 : j < us.size) (h2 : j < ws.size), EqP prog w A.in1 s us[j] ws[j] true) {E Q : Value → Shared → Prop} (q : Q (.bool false) s) : wpAny (model prog w) A (richCompare .NotEq (.ref l) (.ref b)) Q E s := by
  obtain ⟨⟨c1, d1, t1, s1⟩, e1, k1, n1, m1⟩ := hl
  obtain ⟨⟨c2, d2, t2, s2⟩, e2, k2, n2, m2⟩ := hb
  simp only at k1 m1 k2 m2
  subst k1 m1 k2 m2
  exact wpAny_richCompare_same_room (T := "tuple") (op := .NotEq) ⟨_, e1, rfl⟩ ⟨_, e2, rfl⟩ F.slot_tuple_ne (call_meetsIn F.slot_tuple_ne ⟨_, e1, rfl⟩ F.entry_tuple_ne (F.args_tuple_ne_2 _ _) (neT hsz)
    ⟨e1, e2, each, show Value.bool false ≠ Value.notImplemented ∧ Q (.bool false) s from ⟨(fun x => nomatch x), q⟩⟩) hu
end
section
variable {X : Cx}
def rNeQT : R2 := fun x y H Q => ∃ ds, PyData.depthAll ds ≤ 60 ∧ Dq H x (.tuple ds) ∧ Dq H y (.tuple ds) ∧ Q (.bl false) H
/-- a != b, two tuples that read as the same -/
theorem op_neQT (hu : X.A.units + 64 < cLine) : OpR X (compareOp .NotEq) rNeQT := by
  intro pins s σ H x y v u Q I rx ry h
  obtain ⟨ds, dp, h1, h2, q⟩ := h
  obtain ⟨a, xs, rfl, ha, da⟩ := dq_tup h1
  obtain ⟨b, ys, rfl, hb, db⟩ := dq_tup h2
  cases (show v = Value.ref a from rx)
  cases (show u = Value.ref b from ry)
  obtain ⟨us, r1, p1, _⟩ := I.tuple (SqT.of ha)
  obtain ⟨ws, r2, p2, _⟩ := I.tuple (SqT.of hb)
  have hp := pairD_of dp da db
  have hsz : us.toArray.size = ws.toArray.size := by
    rw [List.size_toArray, List.size_toArray, ← r1.length, ← r2.length]
    exact Paired.length hp
  have ih := eqQ_run I 60 X.A.in1 (by show X.A.units + 1 + 60 < cLine; omega)
  refine rneT p1 p2 hsz (by omega) (fun j k1 k2 => ?_) ⟨.bl false, H, I, rfl, q⟩
  have k := items_run ih hp r1 r2 j (by simpa using k1) (by simpa using k2)
  simpa using k
end
end VL

set_option Elab.async false
set_option linter.all false
set_option maxRecDepth 100000
set_option maxHeartbeats 4000000
namespace VL
open PySem PySem.Spec PyProof.Rows L2
open PySem.SeqAt (EqP)
/-! ### == of dicts on the heap whose values are compared one by one, with any outcome -/
/-- the outcome for each key of the first -/
inductive DecP (F : V → V → Bool → Prop) (ls : List (Key × V)) : List (Key × V) → Bool → Prop
  | nil : DecP F ls [] true
  | hit {k : Key} {x y : V} {r : List (Key × V)} {e b : Bool} : valV ls k = some y → F x y e → DecP F ls r b → DecP F ls ((k, x) :: r) (e && b)
theorem hits_any {P : Program} {w : World} {A : Around} {s : Shared} {F : V → V → Bool → Prop} (ih : ∀ x y e v u, F x y e → RelV x v → RelV y u → EqP P w A s v u e) {ls : List (Key × V)} {vb : List (Key × Value)} (rb : KV ls vb) : ∀ {ks : List (Key × V)} {va : List (Key × Value)} {r : Bool}, DecP F ls ks r → KV ks va → PySem.W.KeqHitsP P w A s vb va r
  | _, _, _, .nil, ra => by
    cases ra with
    | nil => exact .nil
  | _, _, _, .hit (k := k) (y := y) hv hf t, ra => by
    cases ra with
    | @cons _ q _ qs h tl =>
      obtain ⟨key, v⟩ := q
      obtain ⟨h1, h2⟩ := h
      have h1' : k = key := h1
      subst h1'
      have rr : RelO (some y) (valueAt vb k) := by rw [← hv]; exact rb.val k
      obtain ⟨y', hy, ry⟩ := rr.some_of
      exact .hit hy (ih _ _ _ _ _ hf h2 ry) (hits_any ih rb t tl)
section
variable {X : Cx} {pins : List (Addr × Obj)} {σ : L2.St} {H : Hp} {s : Shared}
/-- two dicts of the same length, apart -/
theorem dictC_run (I : Inv X pins σ H s) {A : Around} {F : V → V → Bool → Prop} (hu : A.units < cLine) (ih : ∀ x y e v u, F x y e → RelV x v → RelV y u → EqP X.prog X.w A.in1 s v u e) {a b : Addr} {ks ls : List (Key × V)} {r : Bool} (hab : a ≠ b) (ha : H a = some (.dK ks)) (hb : H b = some (.dK ls))
    (hl : ks.length = ls.length) (hd : DecP F ls ks r) : EqP X.prog X.w A s (.ref a) (.ref b) r := by
  obtain ⟨_, ya, va, ra, da⟩ := (show ObjOk X.prog X.w H s.heap a (.dK ks) from I.hok a _ ha)
  obtain ⟨_, yb, vb, rb, db⟩ := (show ObjOk X.prog X.w H s.heap b (.dK ls) from I.hok b _ hb)
  have e : va.length = vb.length := by rw [← ra.length, ← rb.length, hl]
  refine SeqAt.eqP_refs hab fun E Q q => ?_
  refine PySem.W.rcP_dicts (knd := mixKind X.prog X.w) (r := r) ya yb da db hu (fun _ => hits_any ih rb hd ra) E Q ?_
  rw [show (va.length == vb.length && r) = r by rw [e]; simp]
  exact q
end
end VL

set_option Elab.async false
set_option linter.all false
set_option maxRecDepth 100000
set_option maxHeartbeats 4000000
namespace VL
open PySem PySem.Spec PyProof.Rows L2
open PySem.SeqAt (EqP)
open AutoSeq1 (wpAny_loadPart')
/-! ### list.remove of an item whose == is known -/
section
open MeetsSeq MeetsSeq2 MeetsSeq3
variable {prog : Program} {w : World}
theorem remP_loop {l : Addr} {us : Array Value} {n : Nat} {x : Value} {j : Nat} (hj : j < us.size) (hs : us.size ≤ sizeLine) : ∀ (m i : Nat), j - i = m → i ≤ j → MeetsIn prog w (Builtin.«list.remove.loop» ⟨[.ref l, x, rawInt i], []⟩)
      (fun A R s => s.heap.get? l = some { cls := .type "list", dict := none, data := .seq us n, slots := #[] } ∧ (∀ k (h : k < us.size), k < j → EqP prog w A.in1 s us[k] x false) ∧ EqP prog w A.in1 s us[j] x true ∧
        R (.ok (.ret .none)) { s with heap := s.heap.update l (Obj.mapSeq fun xs => xs.eraseIdxIfInBounds j) }) := by
  intro m
  induction m with
  | zero =>
    rintro i hm hij A R ⟨hp, g, d, tk, os⟩ ⟨ea, each, hit, fin⟩
    have ei : i = j := by omega
    subst ei
    have o1 : us[((i : Nat) : Int).toNat]? = some us[i] := by simp [hj]
    wp_walk using wpAny_loadPart' ea
    rw [o1]
    refine wpAny_bind (hit _ _ ?_)
    have hz : (us.eraseIdxIfInBounds i).size ≤ sizeLine + 1 := Nat.le_trans (size_erased us _) (Nat.le_succ_of_le hs)
    wp_walk using (wpAny_updateSeq ea rfl (hz := hs) (_hz' := hz)), wpAny_loadPart' ea
    simpa using fin
  | succ m ih =>
    rintro i hm hij A R ⟨hp, g, d, tk, os⟩ ⟨ea, each, hit, fin⟩
    have i1 : i < us.size := by omega
    have o1 : us[((i : Nat) : Int).toNat]? = some us[i] := by simp [i1]
    wp_walk using wpAny_loadPart' ea
    rw [o1]
    refine wpAny_bind (each i i1 (by omega) _ _ ?_)
    wp_walk
    rw [show ((i : Int) + 1) = ((i + 1 : Nat) : Int) by omega]
    refine ⟨plainId_quiet plain_remove_loop _, codeAny_builtin entry_remove_loop ?_⟩
    rw [Around.under_plainId plain_remove_loop _]
    exact ih (i + 1) (by omega) (by omega) A R _ ⟨ea, each, hit, fin⟩
theorem remP {l : Addr} {us : Array Value} {n : Nat} {x : Value} {j : Nat} (hj : j < us.size) (hs : us.size ≤ sizeLine) : MeetsIn prog w (Builtin.«list.remove» ⟨[.ref l, x], []⟩)
      (fun A R s => s.heap.get? l = some { cls := .type "list", dict := none, data := .seq us n, slots := #[] } ∧ (∀ k (h : k < us.size), k < j → EqP prog w A.in1 s us[k] x false) ∧ EqP prog w A.in1 s us[j] x true ∧
        R (.ok (.ret .none)) { s with heap := s.heap.update l (Obj.mapSeq fun xs => xs.eraseIdxIfInBounds j) }) := by
  rintro A R ⟨hp, g, d, tk, os⟩ ⟨ea, each, hit, fin⟩
  wp_walk using wpAny_loadPart' ea
  refine ⟨plainId_quiet plain_remove_loop _, codeAny_builtin entry_remove_loop ?_⟩
  rw [Around.under_plainId plain_remove_loop _]
  exact remP_loop hj hs _ 0 rfl (Nat.zero_le _) A R _ ⟨ea, each, hit, fin⟩
end
end VL

set_option Elab.async false
set_option linter.all false
set_option maxRecDepth 100000
set_option maxHeartbeats 4000000
namespace VL
open PySem PySem.Spec PyProof.Rows L2
open PySem.SeqAt (EqP)
/-! ### == with a known outcome, and list.remove by it -/
def CmpB (H : Hp) (x y : V) (e : Bool) : Prop := (SameD H 40 x y ∧ e = true) ∨ ∃ i j : Int, x = .int i ∧ y = .int j ∧ e = decide (i = j)
def CmpV (H : Hp) : Nat → V → V → Bool → Prop
  | 0, x, y, e => CmpB H x y e
  | n + 1, x, y, e => CmpB H x y e ∨ ∃ a b ks ls, x = .ref a ∧ y = .ref b ∧ a ≠ b ∧ H a = some (.dK ks) ∧ H b = some (.dK ls) ∧ ks.length = ls.length ∧ DecP (CmpV H n) ls ks e
section
variable {X : Cx} {pins : List (Addr × Obj)} {σ : L2.St} {H : Hp} {s : Shared}
theorem cmpB_run (I : Inv X pins σ H s) {A : Around} (hu : A.units + 40 < cLine) {x y : V} {v u : Value} {e : Bool} (h : CmpB H x y e) (rx : RelV x v) (ry : RelV y u) : EqP X.prog X.w A s v u e := by
  rcases h with ⟨h, rfl⟩ | ⟨i, j, rfl, rfl, rfl⟩
  · exact eqQ_run I 40 A hu x y v u h rx ry
  · obtain ⟨t, rfl⟩ := (show ∃ t, v = Value.int i t from rx)
    obtain ⟨t', rfl⟩ := (show ∃ t, u = Value.int j t from ry)
    have := (SeqAt.EqAt.int_int (A := A) (s := s) i t j t').eqP (prog := X.prog) (w := X.w)
    have e : (i == j) = decide (i = j) := by by_cases c : i = j <;> simp [c]
    rw [e] at this
    exact this
theorem cmpV_run (I : Inv X pins σ H s) : ∀ (n : Nat) (A : Around), A.units + n + 40 < cLine → ∀ (x y : V) (e : Bool) (v u : Value), CmpV H n x y e → RelV x v → RelV y u → EqP X.prog X.w A s v u e
  | 0, A, hu, x, y, e, v, u, h, rx, ry => cmpB_run I (by omega) h rx ry
  | n + 1, A, hu, x, y, e, v, u, h, rx, ry => by
    rcases h with h | ⟨a, b, ks, ls, rfl, rfl, hab, ha, hb, hl, hd⟩
    · exact cmpB_run I (by omega) h rx ry
    · cases (show v = Value.ref a from rx)
      cases (show u = Value.ref b from ry)
      exact dictC_run I (by omega) (cmpV_run I n A.in1 (by show A.units + 1 + n + 40 < cLine; omega)) hab ha hb hl hd
end
def rRemQ (n : Nat) : V → List V → Hp → VK → Prop := fun x xs H Q => ∃ (l : Addr) (zs : List V) (p : Addr) (j : Nat), x = .ref l ∧ xs = [.ref p] ∧ H l = some (.lst zs) ∧ zs[j]? = some (.ref p) ∧ (∀ i y, i < j → zs[i]? = some y → CmpV H n y (.ref p) false) ∧
  Q .non (upd H l (.lst (zs.eraseIdx j)))
section
variable {X : Cx} {n : Nat}
/-- o.remove(p): p stands at the j-th place, what stands before it is other than it -/
theorem mt_remQ (hu : X.A.units + n + 50 < cLine) : MtR X "list.remove" (rRemQ n) := by
  intro pins s σ H x xs v us Q I rx rxs h
  obtain ⟨l, zs, p, j, rfl, rfl, hH, hj, hno, q⟩ := h
  cases rx
  obtain ⟨u, rfl, ru⟩ := rxs.one
  cases (show u = Value.ref p from ru)
  obtain ⟨z, its, m, r, hl, e0⟩ := I.lstM hH
  have hjz := (List.getElem?_eq_some_iff.mp hj).1
  have hji : j < its.length := by omega
  have hsz : its.toArray.size ≤ sizeLine := by rw [List.size_toArray, ← hl]; exact z
  obtain ⟨y, hy, ry⟩ := r.get hj
  have ey : its[j] = Value.ref p := by
    have h1 := List.getElem?_eq_getElem hji
    rw [hy] at h1
    exact (Option.some.inj h1).symm.trans ry
  have hr := r.eraseIdx j
  refine call_meetsIn PySem.F.slot_list_remove ⟨_, e0, rfl⟩ PySem.F.entry_list_remove (PySem.F.args_list_remove_2 _ _) (remP (j := j) (by rw [List.size_toArray]; exact hji) hsz) ⟨e0, fun k h1 h2 => ?_, ?_, ?_⟩
  · have hk : k < its.length := by simpa using h1
    have hkz : k < zs.length := by omega
    have hkg : zs[k]? = some zs[k] := List.getElem?_eq_getElem hkz
    obtain ⟨y', hy', ry'⟩ := r.get hkg
    have e1 : its.toArray[k] = y' := by
      have h1 := List.getElem?_eq_getElem hk
      rw [hy'] at h1
      simpa using (Option.some.inj h1).symm
    rw [e1]
    exact cmpV_run I n _ (by show X.A.units + 1 + n + 40 < cLine; omega) _ _ _ _ _ (hno k _ h2 hkg) ry' rfl
  · have e1 : its.toArray[j] = Value.ref p := by simpa using ey
    rw [e1]
    exact (SeqAt.EqAt.same _).eqP
  · refine ⟨.non, _, I.lset (its' := its.eraseIdx j) hH e0 ?_ hr ?_, rfl, q⟩
    · show its.toArray.eraseIdxIfInBounds j = (its.eraseIdx j).toArray
      rw [List.eraseIdxIfInBounds_toArray]
    · have := List.length_eraseIdx_le zs j
      omega
end
end VL

set_option Elab.async false
set_option linter.all false
set_option maxRecDepth 100000
set_option maxHeartbeats 4000000
/-! timers with environments and blocks: the mathematics, the heap, the promises -/
namespace VL
namespace N5
open PySem PySem.Spec PyProof.Rows L2
structure Tm where
  num : Int
  due : Int
  per : Int
  own : Int
  lane : Int
  env : Int
  run : Int
def ltm (t u : Tm) : Bool := HT.lexLt [t.due, t.num] [u.due, u.num]
theorem ltm_iff {t u : Tm} : ltm t u = true ↔ t.due < u.due ∨ (t.due = u.due ∧ t.num < u.num) := by
  unfold ltm
  show (if t.due = u.due then (if t.num = u.num then false else decide (t.num < u.num)) else decide (t.due < u.due)) = true ↔ _
  by_cases e : t.due = u.due
  · rw [if_pos e]
    by_cases e2 : t.num = u.num
    · rw [if_pos e2]
      constructor
      · intro h; cases h
      · omega
    · rw [if_neg e2, decide_eq_true_eq]
      omega
  · rw [if_neg e, decide_eq_true_eq]
    omega
abbrev Tl := List (Addr × Tm)
def cntT (L : Tl) (t : Tm) : Nat := (L.filter fun e => ltm e.2 t).length
def insT (L : Tl) (e : Addr × Tm) : Tl := L.take (cntT L e.2) ++ [e] ++ L.drop (cntT L e.2)
abbrev SrtT (L : Tl) : Prop := L.Pairwise fun e f => ltm e.2 f.2 = true
theorem mem_ins {L : Tl} {e f : Addr × Tm} : f ∈ insT L e ↔ f = e ∨ f ∈ L := by
  unfold insT
  conv => rhs; rw [← List.take_append_drop (cntT L e.2) L]
  simp only [List.mem_append, List.mem_singleton]
  constructor
  · rintro ((h | h) | h)
    · exact .inr (.inl h)
    · exact .inl h
    · exact .inr (.inr h)
  · rintro (h | h | h)
    · exact .inl (.inr h)
    · exact .inl (.inl h)
    · exact .inr h
theorem ins_len {L : Tl} {e : Addr × Tm} : (insT L e).length = L.length + 1 := by
  unfold insT
  rw [List.length_append, List.length_append, List.length_take, List.length_drop, List.length_singleton]
  have := List.length_filter_le (fun f : Addr × Tm => ltm f.2 e.2) L
  unfold cntT
  omega
theorem ins_cons_lt {a : Addr × Tm} {L : Tl} {e : Addr × Tm} (h : ltm a.2 e.2 = true) : insT (a :: L) e = a :: insT L e := by
  unfold insT
  have : cntT (a :: L) e.2 = cntT L e.2 + 1 := by unfold cntT; rw [List.filter_cons, if_pos h, List.length_cons]
  rw [this]
  rfl
theorem ins_all_ge {L : Tl} {e : Addr × Tm} (h : ∀ f ∈ L, ltm f.2 e.2 = false) : insT L e = e :: L := by
  unfold insT
  have : cntT L e.2 = 0 := by
    unfold cntT
    rw [List.length_eq_zero_iff, List.filter_eq_nil_iff]
    intro f hf
    rw [h f hf]
    exact Bool.false_ne_true
  rw [this]
  rfl
theorem ins_srt : ∀ {L : Tl} {e : Addr × Tm}, SrtT L → (∀ f ∈ L, f.2.num ≠ e.2.num) → SrtT (insT L e)
  | [], e, _, _ => by
    show SrtT [e]
    exact List.pairwise_singleton _ _
  | a :: L, e, hs, hn => by
    have hs' := List.pairwise_cons.mp hs
    cases q : ltm a.2 e.2 with
    | true =>
      rw [ins_cons_lt q]
      refine List.pairwise_cons.mpr ⟨fun f hf => ?_, ins_srt hs'.2 fun f hf => hn f (List.mem_cons_of_mem _ hf)⟩
      rcases mem_ins.mp hf with rfl | hf
      · exact q
      · exact hs'.1 f hf
    | false =>
      have lt : ltm e.2 a.2 = true := by
        have h1 := hn a List.mem_cons_self
        have h2 : ¬ (a.2.due < e.2.due ∨ (a.2.due = e.2.due ∧ a.2.num < e.2.num)) := fun z => by rw [ltm_iff.mpr z] at q; cases q
        refine ltm_iff.mpr ?_
        omega
      have all : ∀ f ∈ a :: L, ltm e.2 f.2 = true := fun f hf => by
        rcases List.mem_cons.mp hf with rfl | hf
        · exact lt
        · have h1 := ltm_iff.mp lt
          have h2 := ltm_iff.mp (hs'.1 f hf)
          refine ltm_iff.mpr ?_
          omega
      rw [ins_all_ge fun f hf => ?_]
      · exact List.pairwise_cons.mpr ⟨all, hs⟩
      · have h1 := ltm_iff.mp (all f hf)
        cases z : ltm f.2 e.2 with
        | false => rfl
        | true =>
          have h2 := ltm_iff.mp z
          omega
/-! ### timers on the heap -/
abbrev eX (n : Int) : List (Key × V) := [(.inr "x", .int n)]
def fsS (l : Addr) (n : Int) : List (Str × V) := [("running", .ref l), ("last", .int n)]
def fsT (t : Tm) (p : Addr) : List (Str × V) := [("number", .int t.num), ("due", .int t.due), ("period", .int t.per), ("owner", .int t.own), ("performed", .ref p)]
theorem fsS_running (l : Addr) (n : Int) : (fsS l n).lookup ("running" : Str) = some (.ref l) := by rfl
theorem fsS_last (l : Addr) (n : Int) : (fsS l n).lookup ("last" : Str) = some (.int n) := by rfl
theorem putS_last (l : Addr) (n n' : Int) : putF "last" (.int n') (fsS l n) = fsS l n' := by rfl
theorem fsT_number (t : Tm) (p : Addr) : (fsT t p).lookup ("number" : Str) = some (.int t.num) := by rfl
theorem fsT_due (t : Tm) (p : Addr) : (fsT t p).lookup ("due" : Str) = some (.int t.due) := by rfl
theorem fsT_period (t : Tm) (p : Addr) : (fsT t p).lookup ("period" : Str) = some (.int t.per) := by rfl
theorem fsT_owner (t : Tm) (p : Addr) : (fsT t p).lookup ("owner" : Str) = some (.int t.own) := by rfl
theorem fsT_performed (t : Tm) (p : Addr) : (fsT t p).lookup ("performed" : Str) = some (.ref p) := by rfl
theorem putT_due (t : Tm) (p : Addr) (d : Int) : putF "due" (.int d) (fsT t p) = fsT { t with due := d } p := by rfl
/-- a timer stands at x; what it performs stands in G -/
def PfA (G : Hp) (p : Addr) (t : Tm) : Prop := ∃ e b q, G p = some (.tup [.int t.lane, .ref e, .ref b, .int t.run]) ∧ G e = some (.dK (eX t.env)) ∧ G b = some (.lst [.ref q]) ∧ G q = some (.tup [.str "stop"])
theorem PfA.mono {G G' : Hp} {p : Addr} {t : Tm} (h : PfA G p t) (s : Same G G') : PfA G' p t := by
  obtain ⟨e, b, q, h1, h2, h3, h4⟩ := h
  exact ⟨e, b, q, s _ _ h1, s _ _ h2, s _ _ h3, s _ _ h4⟩
def TmA (CT : Addr) (G H : Hp) (x : Addr) (t : Tm) : Prop := ∃ dx p, H x = some (.ins CT dx (fsT t p)) ∧ PfA G p t
/-- timers stand at a, their list at l; G stays -/
structure TsA (CT CS : Addr) (G H : Hp) (a l : Addr) (L : Tl) (n : Int) : Prop where
  ob : ∃ dx, H a = some (.ins CS dx (fsS l n))
  ls : H l = some (.lst (L.map fun e => V.ref e.1))
  tm : ∀ e ∈ L, TmA CT G H e.1 e.2
  nd : (L.map (·.1)).Nodup
  sm : Same G H
  ga : G a = none
  gl : G l = none
  gx : ∀ e ∈ L, G e.1 = none
/-- what is not of the timers is kept -/
def Fr3 (a l : Addr) (L : Tl) (H H' : Hp) : Prop := ∀ b o, H b = some o → b ≠ a → b ≠ l → (∀ e ∈ L, b ≠ e.1) → H' b = some o
/-- G grows by what is new -/
structure Gro (H G G' : Hp) : Prop where
  sm : Same G G'
  nw : ∀ b o, H b = some o → G' b = G b
theorem Gro.refl {H G : Hp} : Gro H G G := ⟨fun _ _ e => e, fun _ _ _ => rfl⟩
theorem TsA.al {CT CS : Addr} {G H : Hp} {a l : Addr} {L : Tl} {n : Int} (S : TsA CT CS G H a l L n) : a ≠ l := by
  obtain ⟨dx, h⟩ := S.ob
  exact ne_of h S.ls (by intro e; cases e)
theorem TsA.lx {CT CS : Addr} {G H : Hp} {a l : Addr} {L : Tl} {n : Int} (S : TsA CT CS G H a l L n) : ∀ e ∈ L, e.1 ≠ l := fun e he => by
  obtain ⟨dx, p, h, _⟩ := S.tm e he
  exact ne_of h S.ls (by intro e; cases e)
theorem fs_ne {CT CS : Addr} {dx dy l p : Addr} {n : Int} {t : Tm} : HO.ins CT dx (fsT t p) ≠ HO.ins CS dy (fsS l n) := by
  intro e
  injection e with _ _ e
  exact absurd (congrArg List.length e) (by show ¬ (5 = 2); decide)
theorem TsA.ax {CT CS : Addr} {G H : Hp} {a l : Addr} {L : Tl} {n : Int} (S : TsA CT CS G H a l L n) : ∀ e ∈ L, e.1 ≠ a := fun e he => by
  obtain ⟨dx, p, h, _⟩ := S.tm e he
  obtain ⟨dy, h2⟩ := S.ob
  exact ne_of h h2 fs_ne
theorem TsA.mono {CT CS : Addr} {G H H' : Hp} {a l : Addr} {L : Tl} {n : Int} (S : TsA CT CS G H a l L n) (s : Same H H') : TsA CT CS G H' a l L n := by
  obtain ⟨⟨dx, h⟩, h2, h3, h4, h5, h6, h7, h8⟩ := S
  exact ⟨⟨dx, s _ _ h⟩, s _ _ h2, fun e he => by
    obtain ⟨dx, p, h, r⟩ := h3 e he
    exact ⟨dx, p, s _ _ h, r⟩, h4, h5.trans s, h6, h7, h8⟩
/-- something else changes at q -/
theorem TsA.other {CT CS : Addr} {G H H' : Hp} {a l q : Addr} {L : Tl} {n : Int} (S : TsA CT CS G H a l L n) (k : ∀ b o, H b = some o → b ≠ q → H' b = some o) (gq : G q = none) (qa : a ≠ q) (ql : l ≠ q) (qx : ∀ e ∈ L, e.1 ≠ q) : TsA CT CS G H' a l L n := by
  obtain ⟨⟨dx, h⟩, h2, h3, h4, h5, h6, h7, h8⟩ := S
  exact ⟨⟨dx, k _ _ h qa⟩, k _ _ h2 ql, fun e he => by
    obtain ⟨dx, p, h, r⟩ := h3 e he
    exact ⟨dx, p, k _ _ h (qx e he), r⟩, h4, fun b o e => k _ _ (h5 _ _ e) (ne_of_none e gq), h6, h7, h8⟩
theorem ins_perm {L : Tl} {e : Addr × Tm} : (insT L e).Perm (e :: L) := by
  unfold insT
  have h1 : (L.take (cntT L e.2) ++ [e] ++ L.drop (cntT L e.2)).Perm ([e] ++ L.take (cntT L e.2) ++ L.drop (cntT L e.2)) := List.Perm.append_right _ List.perm_append_comm
  refine h1.trans ?_
  rw [List.append_assoc, List.take_append_drop]
  exact List.Perm.refl _
theorem TsA.put {CT CS : Addr} {G H : Hp} {a l x : Addr} {L : Tl} {n : Int} {t : Tm} (S : TsA CT CS G H a l L n) (h : TmA CT G H x t) (gx : G x = none) (xL : x ∉ L.map (·.1)) : TsA CT CS G (upd H l (.lst ((insT L (x, t)).map fun e => V.ref e.1))) a l (insT L (x, t)) n := by
  have al := S.al
  have lx := S.lx
  obtain ⟨⟨dx, h1⟩, h2, h3, h4, h5, h6, h7, h8⟩ := S
  obtain ⟨dz, pz, hz, gz⟩ := h
  have xl : x ≠ l := ne_of hz h2 (by intro e; cases e)
  refine ⟨⟨dx, by rw [upd_ne al]; exact h1⟩, upd_same, fun e he => ?_, ?_, fun b o e => by rw [upd_ne (ne_of_none e h7)]; exact h5 _ _ e, h6, h7, fun e he => ?_⟩
  · rcases mem_ins.mp he with rfl | he
    · exact ⟨dz, pz, by rw [upd_ne xl]; exact hz, gz⟩
    · obtain ⟨dy, p, q, r⟩ := h3 e he
      exact ⟨dy, p, by rw [upd_ne (lx e he)]; exact q, r⟩
  · exact ((ins_perm.map _).nodup_iff).mpr (List.nodup_cons.mpr ⟨xL, h4⟩)
  · rcases mem_ins.mp he with rfl | he
    · exact gx
    · exact h8 e he
/-- G with all that is new, but what stands at x -/
def grow (H G H2 : Hp) (x : Addr) : Hp := fun b => if b = x then none else match H b with
  | some _ => G b
  | none => H2 b
theorem grow_x {H G H2 : Hp} {x : Addr} : grow H G H2 x x = none := by unfold grow; rw [if_pos rfl]
theorem grow_old {H G H2 : Hp} {x b : Addr} {o : HO} (h : H b = some o) (n : b ≠ x) : grow H G H2 x b = G b := by unfold grow; rw [if_neg n, h]
theorem grow_new {H G H2 : Hp} {x b : Addr} (h : H b = none) (n : b ≠ x) : grow H G H2 x b = H2 b := by unfold grow; rw [if_neg n, h]
theorem grow_gro {H G H2 : Hp} {x : Addr} (s : Same G H) (hx : H x = none) : Gro H G (grow H G H2 x) :=
  ⟨fun b o e => by rw [grow_old (s _ _ e) (ne_of_none (s _ _ e) hx)]; exact e, fun b o e => grow_old e (ne_of_none e hx)⟩
/-- what is new stands in G from now on -/
theorem TsA.lay {CT CS : Addr} {G H H2 : Hp} {a l x dy : Addr} {L : Tl} {n m : Int} (S : TsA CT CS G H a l L n) (hx : H x = none) (ha : H2 a = some (.ins CS dy (fsS l m))) (hk : ∀ b o, H b = some o → b ≠ a → H2 b = some o) :
    TsA CT CS (grow H G H2 x) H2 a l L m := by
  have al := S.al
  have ax := S.ax
  obtain ⟨⟨dx, h1⟩, h2, h3, h4, h5, h6, h7, h8⟩ := S
  have g := grow_gro (H2 := H2) h5 hx
  refine ⟨⟨dy, ha⟩, hk _ _ h2 al.symm, fun e he => ?_, h4, fun b o e => ?_, ?_, ?_, fun e he => ?_⟩
  · obtain ⟨dz, q, r1, r2⟩ := h3 e he
    exact ⟨dz, q, hk _ _ r1 (ax e he), r2.mono g.sm⟩
  · have bx : b ≠ x := fun z => by rw [z, grow_x] at e; cases e
    cases z : H b with
    | some u =>
      rw [grow_old z bx] at e
      have := h5 _ _ e
      exact hk _ _ this (ne_of_none e h6)
    | none => rw [grow_new z bx] at e; exact e
  · rw [g.nw a _ h1]; exact h6
  · rw [g.nw l _ h2]; exact h7
  · obtain ⟨dz, q, r1, _⟩ := h3 e he
    rw [g.nw e.1 _ r1]
    exact h8 e he
/-! ### promises -/
def nextT (t : Tm) : Tm := { t with due := t.due + t.per }
def spInt1 : Sp := fun vs H Q _ => ∃ i : Int, vs = [.int i] ∧ Q (.int i) H
def spCopyN : Sp := fun vs H Q _ => ∃ e k, vs = [.ref e] ∧ H e = some (.dK (eX k)) ∧ ∀ d, H d = none → Q (.ref d) (upd H d (.dK (eX k)))
def spS0 : Sp := fun vs H Q _ => ∃ x, vs = [.str x] ∧ Q (.str x) H
def spS1 : Sp := fun vs H Q _ => ∃ t x, vs = [.ref t] ∧ H t = some (.tup [.str x]) ∧ ∀ t' H', Same H H' → H t' = none → H' t' = some (.tup [.str x]) → Q (.ref t') H'
def spS2 : Sp := fun vs H Q _ => ∃ b t x, vs = [.ref b] ∧ H b = some (.lst [.ref t]) ∧ H t = some (.tup [.str x]) ∧ ∀ b' t' H', Same H H' → H b' = none → H t' = none → H' b' = some (.lst [.ref t']) → H' t' = some (.tup [.str x]) → Q (.ref b') H'
def spTmInit (CT : Addr) : Sp := fun vs H Q _ => ∃ (x dx p : Addr) (nu du pe ow : Int), vs = [.ref x, .int nu, .int du, .int pe, .int ow, .ref p] ∧ H x = some (.ins CT dx []) ∧ ∀ lane env run H', H' x = some (.ins CT dx (fsT ⟨nu, du, pe, ow, lane, env, run⟩ p)) → (∀ b o, H b = some o → b ≠ x → H' b = some o) → Q .non H'
def spTsInit (CS : Addr) : Sp := fun vs H Q _ => ∃ (a dx : Addr), vs = [.ref a] ∧ H a = some (.ins CS dx []) ∧ ∀ l H', H l = none → H' a = some (.ins CS dx (fsS l 0)) → H' l = some (.lst []) → (∀ b o, H b = some o → b ≠ a → H' b = some o) → Q .non H'
def spBel (CT : Addr) : Sp := fun vs H Q _ => ∃ (G : Hp) (x : Addr) (t : Tm) (r : Int), vs = [.ref x, .int r] ∧ Same G H ∧ TmA CT G H x t ∧ Q (.bl (decide (t.run = r))) H
def spTold (CT CS : Addr) : Sp := fun vs H Q _ => ∃ (G : Hp) (a l : Addr) (L : Tl) (n : Int), vs = [.ref a] ∧ TsA CT CS G H a l L n ∧ L.length ≤ 20 ∧ ∀ r (ps : List Addr) H', Same H H' → H r = none → H' r = some (.lst (ps.map V.ref)) → Paired (fun p (e : Addr × Tm) => H' p = some (.tup [.int e.2.num, .int e.2.due, .int e.2.per])) ps L → Q (.ref r) H'
def spLen (CT CS : Addr) : Sp := fun vs H Q _ => ∃ (G : Hp) (a l : Addr) (L : Tl) (n : Int), vs = [.ref a] ∧ TsA CT CS G H a l L n ∧ Q (.int L.length) H
def spNext (CT CS : Addr) : Sp := fun vs H Q _ => ∃ (G : Hp) (a l : Addr) (L : Tl) (n : Int), vs = [.ref a] ∧ TsA CT CS G H a l L n ∧ (L = [] → Q .non H) ∧ ∀ e L', L = e :: L' → Q (.int e.2.due) H
def spPut (CT CS : Addr) : Sp := fun vs H Q _ => ∃ (G : Hp) (a l x : Addr) (t : Tm) (L : Tl) (n : Int), vs = [.ref a, .ref x] ∧ TsA CT CS G H a l L n ∧ TmA CT G H x t ∧ G x = none ∧ x ∉ L.map (·.1) ∧ L.length < 21 ∧
  ∀ v H', TsA CT CS G H' a l (insT L (x, t)) n → (∀ b o, H b = some o → b ≠ l → H' b = some o) → Q v H'
def spStartT (CT CS : Addr) : Sp := fun vs H Q _ => ∃ (G : Hp) (a l e b q : Addr) (L : Tl) (n : Int) (ow now tk : Int) (ag : Bool) (lane env run : Int), vs = [.ref a, .int ow, .int now, .int tk, .bl ag, .int lane, .ref e, .ref b, .int run] ∧ TsA CT CS G H a l L n ∧ H e = some (.dK (eX env)) ∧ H b = some (.lst [.ref q]) ∧ H q = some (.tup [.str "stop"]) ∧ L.length ≤ 20 ∧
  (L.length = 20 → Q .non H) ∧
  (L.length < 20 → ∀ x G' H', H x = none → Gro H G G' → TsA CT CS G' H' a l (insT L (x, ⟨n + 1, now + tk, if ag = true then tk else 0, ow, lane, env, run⟩)) (n + 1) → Fr3 a l L H H' → Q (.int (n + 1)) H')
def spFire (CT CS : Addr) : Sp := fun vs H Q _ => ∃ (G : Hp) (a l x : Addr) (t : Tm) (L : Tl) (n : Int), vs = [.ref a] ∧ TsA CT CS G H a l ((x, t) :: L) n ∧ L.length < 20 ∧
  ∀ p e b q H', H p = none → H e = none → H' p = some (.tup [.int t.own, .int t.lane, .ref e, .ref b, .int t.run]) → H' e = some (.dK (eX t.env)) → H' b = some (.lst [.ref q]) → H' q = some (.tup [.str "stop"]) → TsA CT CS G H' a l (if t.per > 0 then insT L (x, nextT t) else L) n → Fr3 a l ((x, t) :: L) H H' → Q (.ref p) H'
/-- the timers that stay: a new list -/
def spKeep (CT CS : Addr) (args : List V) (keep : Tm → Bool) : Sp := fun vs H Q _ => ∃ (G : Hp) (a l : Addr) (L : Tl) (n : Int), vs = .ref a :: args ∧ TsA CT CS G H a l L n ∧ L.length ≤ 20 ∧
  ∀ l' H', H l' = none → TsA CT CS G H' a l' (L.filter fun e => keep e.2) n → (∀ b o, H b = some o → b ≠ a → H' b = some o) → Q .non H'
end N5
end VL

set_option Elab.async false
set_option linter.all false
set_option maxRecDepth 100000
set_option maxHeartbeats 4000000
namespace VL
open PySem PySem.Spec PyProof.Rows L2

def top (i : Nat) : Stmt := PySem.Challenge.pw_viewloom_k45_timers.main.body.getD i (.Pass ⟨0, 0, 0, 0⟩)
abbrev s_copied : Stmt := top 1
abbrev s_copy_of : Stmt := top 2
abbrev s_copied_names : Stmt := top 4
abbrev s_copied_source : Stmt := top 5
abbrev s_Timer___init__ : Stmt := inClass (top 8) 0
abbrev s_Timer_belongs_to : Stmt := inClass (top 8) 1
abbrev s_Timers___init__ : Stmt := inClass (top 9) 0
abbrev s_Timers___len__ : Stmt := inClass (top 9) 1
abbrev s_Timers_told : Stmt := inClass (top 9) 2
abbrev s_Timers_start : Stmt := inClass (top 9) 3
abbrev s_Timers_put : Stmt := inClass (top 9) 4
abbrev s_Timers_next_due : Stmt := inClass (top 9) 5
abbrev s_Timers_fire : Stmt := inClass (top 9) 6
abbrev s_Timers_end_run : Stmt := inClass (top 9) 7
abbrev s_Timers_end_owners : Stmt := inClass (top 9) 8
abbrev s_Timers_clear : Stmt := inClass (top 9) 9
abbrev s__law_cell : Stmt := top 11
abbrev s__law_is_integer : Stmt := top 12
abbrev s__law_start : Stmt := top 13
abbrev s__law_digit : Stmt := top 14
abbrev s__law_told : Stmt := top 15
abbrev s__law_shows : Stmt := top 16
abbrev s__law_starts : Stmt := top 17
abbrev s__law_fires : Stmt := top 18
abbrev s_law : Stmt := top 19
structure Ad where
  u0 : Unit
  Timer : Addr
  Timers : Addr
structure Txt (K : PySem.W.Frag) (w : World) (mg : Str → Option Value) (C : Ad) : Prop where
  g_Timer : GV mg "Timer" (.ref C.Timer)
  cl_Timer : Cls K C.Timer
  n_Timer_number : NoAttr K C.Timer "number"
  n_Timer_due : NoAttr K C.Timer "due"
  n_Timer_period : NoAttr K C.Timer "period"
  n_Timer_owner : NoAttr K C.Timer "owner"
  n_Timer_performed : NoAttr K C.Timer "performed"
  g_Timers : GV mg "Timers" (.ref C.Timers)
  cl_Timers : Cls K C.Timers
  n_Timers_running : NoAttr K C.Timers "running"
  n_Timers_last : NoAttr K C.Timers "last"
  z_bool : mg "bool" = none
  z_dict : mg "dict" = none
  z_int : mg "int" = none
  z_isinstance : mg "isinstance" = none
  z_len : mg "len" = none
  z_list : mg "list" = none
  z_max : mg "max" = none
  z_min : mg "min" = none
  z_property : mg "property" = none
  z_range : mg "range" = none
  z_sorted : mg "sorted" = none
  z_str : mg "str" = none
  z_tuple : mg "tuple" = none
  g_MOST_TIMERS : GV mg "MOST_TIMERS" (V.int 20)
  d_copied : DefE K mg "copied" s_copied ["value"]
  d_copy_of : DefE K mg "copy_of" s_copy_of ["value"]
  d_copied_names : DefE K mg "copied_names" s_copied_names ["environment"]
  d_copied_source : DefE K mg "copied_source" s_copied_source ["part"]
  i_Timer : InitE K mg "Timer" C.Timer "Timer.__init__" s_Timer___init__ ["self", "number", "due", "period", "owner", "performed"]
  m_Timer_belongs_to : MethE K C.Timer "belongs_to" "Timer.belongs_to" s_Timer_belongs_to ["self", "run"]
  i_Timers : InitE K mg "Timers" C.Timers "Timers.__init__" s_Timers___init__ ["self"]
  m_Timers___len__ : MethE K C.Timers "__len__" "Timers.__len__" s_Timers___len__ ["self"]
  p_Timers_told : PropE K C.Timers "told" "Timers.told" s_Timers_told
  m_Timers_start : MethKE K C.Timers "start" "Timers.start" s_Timers_start ["self", "owner", "now", "ticks", "again", "lane", "environment", "block", "run"] 2 ["now", "ticks", "again", "lane", "environment", "block", "run"]
  m_Timers_put : MethE K C.Timers "put" "Timers.put" s_Timers_put ["self", "timer"]
  m_Timers_next_due : MethE K C.Timers "next_due" "Timers.next_due" s_Timers_next_due ["self"]
  m_Timers_fire : MethE K C.Timers "fire" "Timers.fire" s_Timers_fire ["self"]
  m_Timers_end_run : MethE K C.Timers "end_run" "Timers.end_run" s_Timers_end_run ["self", "run"]
  m_Timers_end_owners : MethE K C.Timers "end_owners" "Timers.end_owners" s_Timers_end_owners ["self", "ids"]
  m_Timers_clear : MethE K C.Timers "clear" "Timers.clear" s_Timers_clear ["self"]
  d__law_cell : DefE K mg "_law_cell" s__law_cell ["script", "k"]
  d__law_is_integer : DefE K mg "_law_is_integer" s__law_is_integer ["told"]
  d__law_start : DefE K mg "_law_start" s__law_start ["cell", "k"]
  d__law_digit : DefE K mg "_law_digit" s__law_digit ["state", "many"]
  d__law_told : DefE K mg "_law_told" s__law_told ["rows"]
  d__law_shows : DefE K mg "_law_shows" s__law_shows ["timers", "rows"]
  d__law_starts : DefE K mg "_law_starts" s__law_starts ["timers", "rows", "counts", "now", "state"]
  d__law_fires : DefE K mg "_law_fires" s__law_fires ["timers", "rows"]
end VL

set_option Elab.async false
set_option linter.all false
set_option maxRecDepth 100000
set_option maxHeartbeats 4000000
namespace VL
open PySem PySem.Spec PyProof.Rows L2

abbrev MM : Int := 18446744073709551557
/-- a state of drawing -/
def StA (H : Hp) (a : Addr) : Prop := ∃ z, H a = some (.lst [.int z]) ∧ 0 ≤ z ∧ z < MM
/-- all but a is kept -/
def Kp (a : Addr) (H H' : Hp) : Prop := ∀ b o, H b = some o → b ≠ a → H' b = some o
theorem Kp.trans {a : Addr} {H H' H'' : Hp} (h : Kp a H H') (k : Kp a H' H'') : Kp a H H'' := fun b o e n => k b o (h b o e n) n
theorem Kp.refl {a : Addr} {H : Hp} : Kp a H H := fun _ _ e _ => e
theorem Kp.new {a t : Addr} {o : HO} {H : Hp} (h : H t = none) : Kp a H (upd H t o) := fun b u e _ => by rw [upd_ne (ne_of_none e h)]; exact e
theorem StA.new {a t : Addr} {o : HO} {H : Hp} (S : StA H a) (h : H t = none) : StA (upd H t o) a := by
  obtain ⟨z, e, r⟩ := S
  exact ⟨z, by rw [upd_ne (ne_of_none e h)]; exact e, r⟩
theorem StA.same {a : Addr} {H H' : Hp} (S : StA H a) (s : Same H H') : StA H' a := by
  obtain ⟨z, e, r⟩ := S
  exact ⟨z, s _ _ e, r⟩
theorem Same.new {t : Addr} {o : HO} {H : Hp} (h : H t = none) : Same H (upd H t o) := fun b u e => by rw [upd_ne (ne_of_none e h)]; exact e
theorem Kp.same {a : Addr} {H0 H H' : Hp} (k : Kp a H H') (s : Same H0 H) (n : H0 a = none) : Same H0 H' := fun b o e => k _ _ (s _ _ e) (ne_of_none e n)
def spLaw (K : PySem.W.Frag) : Sp := fun vs H Q _ => ∃ (a : Addr) (ns : List Int), vs = [.ref a] ∧ SqL K H a (ns.map V.int) ∧ ns.length ≤ 63 ∧ ∀ H', Q (.bl true) H'
def spCellA (K : PySem.W.Frag) : Sp := fun vs H Q _ => ∃ (a : Addr) (ns : List Int) (j : Int), vs = [.ref a, .int j] ∧ SqL K H a (ns.map V.int) ∧ 0 ≤ j ∧ ∀ z, Q (.int z) H
def spIsInt : Sp := fun vs H Q _ => ∃ i : Int, vs = [.int i] ∧ Q (.bl true) H
def spStart : Sp := fun vs H Q _ => ∃ c k : Int, vs = [.int c, .int k] ∧ ∀ p H', H p = none → Same H H' → StA H' p → Q (.ref p) H'
def spDigit : Sp := fun vs H Q _ => ∃ (a : Addr) (m : Int), vs = [.ref a, .int m] ∧ StA H a ∧ 0 < m ∧ ∀ r H', StA H' a → Kp a H H' → 0 ≤ r → r < m → Q (.int r) H'
theorem map_int_at {ns : List Int} {j : Int} (h0 : 0 ≤ j) (h1 : j < (ns.length : Int)) : ∃ z, atI (ns.map V.int) j = some (.int z) := by
  have hj : j.toNat < ns.length := by omega
  refine ⟨ns[j.toNat], ?_⟩
  unfold atI ixN
  rw [if_pos h0, if_pos (by rw [List.length_map]; exact h1)]
  show (ns.map V.int)[j.toNat]? = _
  rw [List.getElem?_map, List.getElem?_eq_getElem hj]
  rfl
theorem atI_map {α : Type} {rs : List α} {f : α → V} {r : Int} (h0 : 0 ≤ r) (h1 : r.toNat < rs.length) : atI (rs.map f) r = some (f rs[r.toNat]) := by
  unfold atI ixN
  rw [if_pos h0, if_pos (by rw [List.length_map]; omega)]
  show (rs.map f)[r.toNat]? = _
  rw [List.getElem?_map, List.getElem?_eq_getElem h1]
  rfl
theorem atI_get {α : Type} {xs : List α} {r : Int} (h0 : 0 ≤ r) (h1 : r.toNat < xs.length) : atI xs r = some xs[r.toNat] := by
  unfold atI ixN
  rw [if_pos h0, if_pos (by omega)]
  show xs[r.toNat]? = _
  rw [List.getElem?_eq_getElem h1]
section
variable {P : Program} {w : World} {K : PySem.W.Frag} {mg : Str → Option Value} {base : Heap} {C : Ad}
theorem sc__law_cell : FnScope ["script", "k"] ["script", "k"] (defScope s__law_cell) := ⟨rfl, rfl, rfl, by decide +kernel, rfl, by decide +kernel, by decide +kernel⟩
theorem ok_cell (T : Txt K w mg C) : Cal P w K mg base 1 "_law_cell" (spCellA K) := by
  refine cal_of T.d__law_cell sc__law_cell (fun vs H Q E h => ?_) (fun f cdv A outer s H vs Q E hr h => ?_)
  · obtain ⟨a, ns, j, rfl, _⟩ := h
    rfl
  · obtain ⟨a, ns, j, rfl, hS, h0, k⟩ := h
    refine ⟨_, (pss_cons (ps_if (pt_cmpR op_lt (pv 1) (pe_callB call_len_seq (by rfl) T.z_len PySem.boot_len (pa_cons (pv 0) pa_nil)) (nomark _)) (pss_one (ps_ret (pe_ix ix_list (pv 0) (pv 1) (fun _ _ => rfl)))) pss_nil) (pss_one (ps_ret pe_int))), ?_⟩
    refine ⟨_, rfl, _, rfl, a, _, rfl, .inl hS, _, _, rfl, rfl, _, rfl, ?_⟩
    refine ite2 (fun q => ?_) (fun q => ?_)
    · have q' := of_decide_eq_true q
      rw [List.length_map] at q'
      obtain ⟨z, hz⟩ := map_int_at h0 q'
      exact ⟨_, rfl, _, rfl, a, _, j, _, rfl, rfl, hS, hz, k z⟩
    · exact k 0
theorem sc__law_start : FnScope ["cell", "k"] ["cell", "k"] (defScope s__law_start) := ⟨rfl, rfl, rfl, by decide +kernel, rfl, by decide +kernel, by decide +kernel⟩
theorem ok_start (T : Txt K w mg C) : Cal P w K mg base 1 "_law_start" spStart := by
  refine cal_of T.d__law_start sc__law_start (fun vs H Q E h => ?_) (fun f cdv A outer s H vs Q E hr h => ?_)
  · obtain ⟨c, k, rfl, _⟩ := h
    rfl
  · obtain ⟨c, j, rfl, k⟩ := h
    refine ⟨_, (pss_one (ps_ret (pe_lst (pa_cons (pe_op op_mod (pe_callTy call_int1 (by rfl) T.z_int (by decide +kernel) (pa_cons (pe_op op_add (pe_op op_mul (pv 0) pe_int) (pe_op op_mul (pe_op op_add (pv 1) pe_int) pe_int)) pa_nil)) pe_int) pa_nil)))), ?_⟩
    refine ⟨_, rfl, _, _, rfl, rfl, .inr ⟨by decide, by decide⟩, _, rfl, _, _, rfl, rfl, _, _, rfl, rfl, .inr ⟨by decide, by decide⟩, _, _, rfl, rfl, .inl ⟨_, rfl, _, _, rfl, rfl, (by show (0 : Int) < MM; decide), ?_⟩⟩
    refine ⟨by show 1 ≤ sizeLine; decide, fun p hp => ?_⟩
    refine k p _ hp (fun b o e => by rw [upd_ne (ne_of_none e hp)]; exact e) ⟨_, upd_same, Int.emod_nonneg _ (by decide), Int.emod_lt_of_pos _ (by decide)⟩
theorem sc__law_digit : FnScope ["state", "many"] ["state", "many"] (defScope s__law_digit) := ⟨rfl, rfl, rfl, by decide +kernel, rfl, by decide +kernel, by decide +kernel⟩
theorem ok_digit (T : Txt K w mg C) : Cal P w K mg base 1 "_law_digit" spDigit := by
  refine cal_of T.d__law_digit sc__law_digit (fun vs H Q E h => ?_) (fun f cdv A outer s H vs Q E hr h => ?_)
  · obtain ⟨a, m, rfl, _⟩ := h
    rfl
  · obtain ⟨a, m, rfl, ⟨z, hS, h0, h1⟩, hm, k⟩ := h
    refine ⟨_, (pss_cons (ps_asg (pe_op op_mod (pe_callTy call_int1 (by rfl) T.z_int (by decide +kernel) (pa_cons (pe_op op_add (pe_op op_mul (pe_ix ix_list (pv 0) pe_int (fun _ _ => rfl)) pe_int) pe_int) pa_nil)) pe_int) (pg_sub (pv 0) pe_int set_list)) (pss_one (ps_ret (pe_op op_mod (pe_callTy call_int1 (by rfl) T.z_int (by decide +kernel) (pa_cons (pe_op op_fdiv (pe_ix ix_list (pv 0) pe_int (fun _ _ => rfl)) pe_int) pa_nil)) (pv 1))))), ?_⟩
    refine ⟨_, rfl, a, _, 0, _, rfl, rfl, SqL.of hS, rfl, _, _, rfl, rfl, .inr ⟨by decide, by decide⟩, _, _, rfl, rfl, .inl ⟨_, rfl, _, _, rfl, rfl, (by show (0 : Int) < MM; decide), ?_⟩⟩
    refine ⟨_, rfl, a, _, 0, 0, rfl, rfl, hS, rfl, ?_⟩
    refine ⟨_, rfl, a, _, 0, _, rfl, rfl, SqL.of upd_same, rfl, _, _, rfl, rfl, ⟨by decide, by decide⟩, .inl ⟨_, rfl, _, rfl, _, _, rfl, rfl, hm, ?_⟩⟩
    exact k _ _ ⟨_, upd_same, Int.emod_nonneg _ (by decide), Int.emod_lt_of_pos _ (by decide)⟩ (fun b o e n => by rw [upd_ne n]; exact e) (Int.emod_nonneg _ (by omega)) (Int.emod_lt_of_pos _ hm)
end
end VL

set_option Elab.async false
set_option linter.all false
set_option maxRecDepth 100000
set_option maxHeartbeats 4000000
namespace VL
namespace N5
open PySem PySem.Spec PyProof.Rows L2
section
variable {P : Program} {w : World} {K : PySem.W.Frag} {mg : Str → Option Value} {base : Heap} {C : Ad}
theorem unlock_eq {H : Hp} {D d : Addr} {x y u : HO} (h : D ≠ d) (hd : H d = some u) : upd (upd (upd H d x) D y) d u = upd H D y := by
  funext b
  by_cases e : b = d
  · subst e
    rw [upd_same, upd_ne h.symm, hd]
  · rw [upd_ne e]
    by_cases e2 : b = D
    · subst e2
      rw [upd_same, upd_same]
    · rw [upd_ne e2, upd_ne e2, upd_ne e]
theorem ty_int {H : Hp} {i : Int} : TyX K H (.int i) (.type "int") := .base (.int i)
theorem sc_copy_of : FnScope ["value", "part", "name"] ["value"] (defScope s_copy_of) := ⟨rfl, rfl, rfl, by decide +kernel, rfl, by decide +kernel, by decide +kernel⟩
theorem ok_copy (T : Txt K w mg C) : Cal P w K mg base 1 "copy_of" spInt1 := by
  refine cal_of T.d_copy_of sc_copy_of (fun vs H Q E h => ?_) (fun f cdv A outer s H vs Q E hr h => ?_)
  · obtain ⟨i, rfl, _⟩ := h
    rfl
  · obtain ⟨i, rfl, k⟩ := h
    refine ⟨_, (pss_cons (ps_if (pt_val (pe_callB call_isi (by rfl) T.z_isinstance (by decide +kernel) (pa_cons (pv 0) (pa_cons (pe_bltn (v := .ty "list") (by rfl) T.z_list (by decide +kernel) rfl) pa_nil)))) (pss_one ps_never) pss_nil) (pss_cons (ps_if (pt_val (pe_callB call_isi (by rfl) T.z_isinstance (by decide +kernel) (pa_cons (pv 0) (pa_cons (pe_bltn (v := .ty "dict") (by rfl) T.z_dict (by decide +kernel) rfl) pa_nil)))) (pss_one ps_never) pss_nil) (pss_cons (ps_if (pt_val (pe_callB call_isi (by rfl) T.z_isinstance (by decide +kernel) (pa_cons (pv 0) (pa_cons (pe_bltn (v := .ty "tuple") (by rfl) T.z_tuple (by decide +kernel) rfl) pa_nil)))) (pss_one ps_never) pss_nil) (pss_one (ps_ret (pv 0)))))), ?_⟩
    refine ⟨_, rfl, .int i, .ty "list", _, _, false, rfl, .ty _, ty_int, kit_ty (by decide +kernel), false, rfl, iteF ?_⟩
    refine ⟨_, rfl, .int i, .ty "dict", _, _, false, rfl, .ty _, ty_int, kit_ty (by decide +kernel), false, rfl, iteF ?_⟩
    refine ⟨_, rfl, .int i, .ty "tuple", _, _, false, rfl, .ty _, ty_int, kit_ty (by decide +kernel), false, rfl, iteF ?_⟩
    exact ⟨_, rfl, k⟩
theorem sc_copied : FnScope ["value"] ["value"] (defScope s_copied) := ⟨rfl, rfl, rfl, by decide +kernel, rfl, by decide +kernel, by decide +kernel⟩
theorem ok_copied (T : Txt K w mg C) : Cal P w K mg base 2 "copied" spInt1 := by
  have Gcopy_of : Cal P w K mg base 1 "copy_of" spInt1 := ok_copy T
  refine cal_of T.d_copied sc_copied (fun vs H Q E h => ?_) (fun f cdv A outer s H vs Q E hr h => ?_)
  · obtain ⟨i, rfl, _⟩ := h
    rfl
  · obtain ⟨i, rfl, k⟩ := h
    refine ⟨_, (pss_one (ps_ret (pe_c Gcopy_of hr (by decide) (by rfl) (pa_cons (pv 0) pa_nil)))), ?_⟩
    exact ⟨_, rfl, i, rfl, k⟩
theorem sc_copied_names : FnScope ["environment", "name"] ["environment"] (defScope s_copied_names) := ⟨rfl, rfl, rfl, by decide +kernel, rfl, by decide +kernel, by decide +kernel⟩
theorem ok_names (T : Txt K w mg C) : Cal P w K mg base 3 "copied_names" spCopyN := by
  have Gcopied : Cal P w K mg base 2 "copied" spInt1 := ok_copied T
  refine cal_of T.d_copied_names sc_copied_names (fun vs H Q E h => ?_) (fun f cdv A outer s H vs Q E hr h => ?_)
  · obtain ⟨e, k, rfl, _⟩ := h
    rfl
  · obtain ⟨e, kk, rfl, he, k⟩ := h
    have hu := hu_of hr
    refine ⟨_, (pss_one (ps_ret (pe_lock (pe_dc (own := [("name", 1)]) (g := gName 1) (tt := tYes) rfl sc_copied_names.nd (pi_keys (pv 0)) (blkOk_by (N := ["environment", "name"]) (sc := (defScope s_copied_names)) (by decide +kernel)) (fun _ _ _ _ _ => pg_name (i := 1) sc_copied_names.nd rfl (Or.inl rfl)) (fun _ _ _ _ _ => pts_nil) (fun _ _ _ _ _ => (pv 1)) (fun _ _ _ _ _ => (pe_c Gcopied hr (by decide) (by rfl) (pa_cons (pe_dget hu (pv 0) (pv 1) (fun _ _ => rfl)) pa_nil))))))), ?_⟩
    refine ⟨e, _, he, trivial, fun od => ?_⟩
    have hlk : upd H e (.frz od (.dK (eX kk))) e = some (.frz od (.dK (eX kk))) := upd_same
    refine ⟨_, rfl, e, od, rfl, .inl ⟨_, hlk, fun D hD => ?_⟩⟩
    have hDe : D ≠ e := fun z => by rw [z, upd_same] at hD; cases hD
    have hDn : H D = none := by rw [upd_ne hDe] at hD; exact hD
    refine dc_itQ (walk_keys (d := e) (o := od) (kvs := eX kk)) (fun i H' => H' = upd (upd H e (.frz od (.dK (eX kk)))) D (.dK ((eX kk).take i))) rfl (fun i H' _ z => by rw [z, upd_ne hDe.symm]; exact upd_same) ?_ ?_
    · rintro i x H1 H2 hi rfl ⟨rfl, k1, v1, hkv, rfl⟩
      obtain rfl : i = 0 := by
        have : i < 1 := hi
        omega
      cases hkv
      refine ⟨rfl, ?_⟩
      have hl2 : (upd (upd H e (.frz od (.dK (eX kk)))) D (.dK [])) e = some (.frz od (.dK (eX kk))) := by rw [upd_ne hDe.symm]; exact upd_same
      refine ⟨_, rfl, _, rfl, _, rfl, e, .int kk, rfl, dget_fz (k := .inr "x") hl2, kk, rfl, ?_⟩
      refine ⟨[], .inr "x", rfl, upd_same, by show 0 < _; decide, ?_⟩
      rw [upd_upd]
      rfl
    · rintro H1 rfl
      refine ⟨by rw [upd_ne hDe.symm]; exact upd_same, ?_⟩
      rw [unlock_eq hDe he]
      exact k D hDn
theorem sc_copied_source : FnScope ["part", "inner"] ["part"] (defScope s_copied_source) := ⟨rfl, rfl, rfl, by decide +kernel, rfl, by decide +kernel, by decide +kernel⟩
theorem ok_S0 (T : Txt K w mg C) : Cal P w K mg base 1 "copied_source" spS0 := by
  refine cal_of T.d_copied_source sc_copied_source (fun vs H Q E h => ?_) (fun f cdv A outer s H vs Q E hr h => ?_)
  · obtain ⟨x, rfl, _⟩ := h
    rfl
  · obtain ⟨x, rfl, k⟩ := h
    refine ⟨_, (pss_cons (ps_if (pt_val (pe_callB call_isi (by rfl) T.z_isinstance (by decide +kernel) (pa_cons (pv 0) (pa_cons (pe_bltn (v := .ty "tuple") (by rfl) T.z_tuple (by decide +kernel) rfl) pa_nil)))) (pss_one ps_never) pss_nil) (pss_cons (ps_if (pt_val (pe_callB call_isi (by rfl) T.z_isinstance (by decide +kernel) (pa_cons (pv 0) (pa_cons (pe_bltn (v := .ty "list") (by rfl) T.z_list (by decide +kernel) rfl) pa_nil)))) (pss_one ps_never) pss_nil) (pss_one (ps_ret (pv 0))))), ?_⟩
    refine ⟨_, rfl, .str x, .ty "tuple", _, _, false, rfl, .ty _, .base (.str x), kit_ty (by decide +kernel), false, rfl, iteF ?_⟩
    refine ⟨_, rfl, .str x, .ty "list", _, _, false, rfl, .ty _, .base (.str x), kit_ty (by decide +kernel), false, rfl, iteF ?_⟩
    exact ⟨_, rfl, k⟩
theorem ok_S1 (T : Txt K w mg C) : Cal P w K mg base 2 "copied_source" spS1 := by
  have Gcopied_source : Cal P w K mg base 1 "copied_source" spS0 := ok_S0 T
  refine cal_of T.d_copied_source sc_copied_source (fun vs H Q E h => ?_) (fun f cdv A outer s H vs Q E hr h => ?_)
  · obtain ⟨t, x, rfl, _⟩ := h
    rfl
  · obtain ⟨t, x, rfl, ht, k⟩ := h
    refine ⟨_, (pss_cons (ps_if (pt_val (pe_callB call_isi (by rfl) T.z_isinstance (by decide +kernel) (pa_cons (pv 0) (pa_cons (pe_bltn (v := .ty "tuple") (by rfl) T.z_tuple (by decide +kernel) rfl) pa_nil)))) (pss_one (ps_ret (pe_callTy call_tuple_of (by rfl) T.z_tuple (by decide +kernel) (pa_cons (pe_lc (own := [("inner", 1)]) (g := gName 1) (tt := tYes) rfl sc_copied_source.nd (pi_tup (pv 0)) (blkOk_by (N := ["part", "inner"]) (sc := (defScope s_copied_source)) (by decide +kernel)) (fun _ _ _ _ _ => pg_name (i := 1) sc_copied_source.nd rfl (Or.inl rfl)) (fun _ _ _ _ _ => pts_nil) (fun _ _ _ _ _ => (pe_c Gcopied_source hr (Nat.le_refl _) (by rfl) (pa_cons (pv 1) pa_nil)))) pa_nil)))) pss_nil) (pss_cons (ps_if (pt_val (pe_callB call_isi (by rfl) T.z_isinstance (by decide +kernel) (pa_cons (pv 0) (pa_cons (pe_bltn (v := .ty "list") (by rfl) T.z_list (by decide +kernel) rfl) pa_nil)))) (pss_one ps_never) pss_nil) (pss_one (ps_ret (pv 0))))), ?_⟩
    refine ⟨_, rfl, .ref t, .ty "tuple", _, _, true, rfl, .ty _, .base (.tup ht), kit_ty (by decide +kernel), true, rfl, iteT ?_⟩
    refine ⟨_, rfl, t, rfl, ⟨_, SqT.of ht⟩, fun D hD => ?_⟩
    have tD : t ≠ D := ne_of_none ht hD
    refine lc_it (walk_tup (K := K) (a := t) (xs := [V.str x])) (fun i H' => H' = upd H D (.lst ([V.str x].take i))) rfl (fun i H' _ z => SqT.of (by rw [z, upd_ne tD]; exact ht)) ?_ ?_
    · rintro i y H1 H2 hi rfl ⟨rfl, hx⟩
      obtain rfl : i = 0 := by
        have : i < 1 := hi
        omega
      cases hx
      refine ⟨rfl, ?_⟩
      refine ⟨_, rfl, x, rfl, ?_⟩
      refine ⟨[], upd_same, by show 0 < _; decide, ?_⟩
      rw [upd_upd]
      rfl
    · rintro H1 rfl
      refine ⟨D, [V.str x], rfl, .inl ⟨SqL.of upd_same, fun l hl => ?_⟩⟩
      have lD : l ≠ D := fun z => by rw [z, upd_same] at hl; cases hl
      refine k l _ (fun b o e => ?_) (by rw [upd_ne lD] at hl; exact hl) upd_same
      rw [upd_ne (ne_of_none (Same.new hD _ _ e) hl), upd_ne (ne_of_none e hD)]
      exact e
theorem ok_S2 (T : Txt K w mg C) : Cal P w K mg base 3 "copied_source" spS2 := by
  have Gcopied_source : Cal P w K mg base 2 "copied_source" spS1 := ok_S1 T
  refine cal_of T.d_copied_source sc_copied_source (fun vs H Q E h => ?_) (fun f cdv A outer s H vs Q E hr h => ?_)
  · obtain ⟨b, t, x, rfl, _⟩ := h
    rfl
  · obtain ⟨b, t, x, rfl, hb, ht, k⟩ := h
    refine ⟨_, (pss_cons (ps_if (pt_val (pe_callB call_isi (by rfl) T.z_isinstance (by decide +kernel) (pa_cons (pv 0) (pa_cons (pe_bltn (v := .ty "tuple") (by rfl) T.z_tuple (by decide +kernel) rfl) pa_nil)))) (pss_one ps_never) pss_nil) (pss_cons (ps_if (pt_val (pe_callB call_isi (by rfl) T.z_isinstance (by decide +kernel) (pa_cons (pv 0) (pa_cons (pe_bltn (v := .ty "list") (by rfl) T.z_list (by decide +kernel) rfl) pa_nil)))) (pss_one (ps_ret (pe_lc (own := [("inner", 1)]) (g := gName 1) (tt := tYes) rfl sc_copied_source.nd (pi_list (pv 0)) (blkOk_by (N := ["part", "inner"]) (sc := (defScope s_copied_source)) (by decide +kernel)) (fun _ _ _ _ _ => pg_name (i := 1) sc_copied_source.nd rfl (Or.inl rfl)) (fun _ _ _ _ _ => pts_nil) (fun _ _ _ _ _ => (pe_c Gcopied_source hr (Nat.le_refl _) (by rfl) (pa_cons (pv 1) pa_nil)))))) pss_nil) (pss_one (ps_ret (pv 0))))), ?_⟩
    refine ⟨_, rfl, .ref b, .ty "tuple", _, _, false, rfl, .ty _, .base (.lst hb), kit_ty (by decide +kernel), false, rfl, iteF ?_⟩
    refine ⟨_, rfl, .ref b, .ty "list", _, _, true, rfl, .ty _, .base (.lst hb), kit_ty (by decide +kernel), true, rfl, iteT ?_⟩
    refine ⟨_, rfl, b, rfl, ⟨_, SqL.of hb⟩, fun D hD => ?_⟩
    have s0 := Same.new (o := .lst []) hD
    refine lc_it (walk_list (K := K) (a := b) (xs := [V.ref t])) (fun i H' => Same H H' ∧ (i = 0 → H' D = some (.lst [])) ∧ (i = 1 → ∃ t', H t' = none ∧ H' D = some (.lst [.ref t']) ∧ H' t' = some (.tup [.str x]))) ⟨s0, fun _ => upd_same, fun z => by cases z⟩ (fun i H' _ z => SqL.of (z.1 _ _ hb)) ?_ ?_
    · rintro i y H1 H2 hi ⟨s1, z0, _⟩ ⟨rfl, hx⟩
      obtain rfl : i = 0 := by
        have : i < 1 := hi
        omega
      cases hx
      have hd := z0 rfl
      refine ⟨rfl, ?_⟩
      refine ⟨_, rfl, t, x, rfl, s1 _ _ ht, fun t' H3 s3 n3 h3 => ?_⟩
      have tD : t' ≠ D := fun z => by rw [z, hd] at n3; cases n3
      refine ⟨[], s3 _ _ hd, by show 0 < _; decide, fun b o e => ?_, fun z => (by cases z), fun _ => ⟨t', ?_, upd_same, by rw [upd_ne tD]; exact h3⟩⟩
      · rw [upd_ne (ne_of_none e hD)]
        exact s3 _ _ (s1 _ _ e)
      · cases z : H t' with
        | none => rfl
        | some u => rw [s1 _ _ z] at n3; cases n3
    · rintro H1 ⟨s1, _, z1⟩
      obtain ⟨t', n, h1, h2⟩ := z1 rfl
      exact k D t' H1 s1 hD n h1 h2
theorem sc_Timer___init__ : FnScope ["self", "number", "due", "period", "owner", "performed"] ["self", "number", "due", "period", "owner", "performed"] (defScope s_Timer___init__) := ⟨rfl, rfl, rfl, by decide +kernel, rfl, by decide +kernel, by decide +kernel⟩
theorem ok_tminit (T : Txt K w mg C) : Mak P w K mg base 1 "Timer" C.Timer (spTmInit C.Timer) := by
  refine mak_of T.i_Timer sc_Timer___init__ (fun vs H Q E h => ?_) (fun f cdv A outer s H vs Q E hr h => ?_)
  · obtain ⟨x, dx, p, nu, du, pe, ow, rfl, _⟩ := h
    rfl
  · obtain ⟨x, dx, p, nu, du, pe, ow, rfl, hx, k⟩ := h
    refine ⟨_, (pss_cons (ps_fld (pv 0) (pv 1) rfl) (pss_cons (ps_fld (pv 0) (pv 2) rfl) (pss_cons (ps_fld (pv 0) (pv 3) rfl) (pss_cons (ps_fld (pv 0) (pv 4) rfl) (pss_one (ps_fld (pv 0) (pv 5) rfl)))))), ?_⟩
    refine ⟨_, rfl, _, rfl, x, _, dx, [], rfl, hx, T.cl_Timer, T.n_Timer_number, (by show 0 < 1000; decide), ?_⟩
    refine ⟨_, rfl, _, rfl, x, _, dx, _, rfl, upd_same, T.cl_Timer, T.n_Timer_due, (by show 1 < 1000; decide), ?_⟩
    refine ⟨_, rfl, _, rfl, x, _, dx, _, rfl, upd_same, T.cl_Timer, T.n_Timer_period, (by show 2 < 1000; decide), ?_⟩
    refine ⟨_, rfl, _, rfl, x, _, dx, _, rfl, upd_same, T.cl_Timer, T.n_Timer_owner, (by show 3 < 1000; decide), ?_⟩
    refine ⟨_, rfl, _, rfl, x, _, dx, _, rfl, upd_same, T.cl_Timer, T.n_Timer_performed, (by show 4 < 1000; decide), ?_⟩
    rw [upd_upd, upd_upd, upd_upd, upd_upd]
    exact k 0 0 0 _ upd_same fun b o e n => by rw [upd_ne n]; exact e
theorem sc_Timers___init__ : FnScope ["self"] ["self"] (defScope s_Timers___init__) := ⟨rfl, rfl, rfl, by decide +kernel, rfl, by decide +kernel, by decide +kernel⟩
theorem ok_tsinit (T : Txt K w mg C) : Mak P w K mg base 1 "Timers" C.Timers (spTsInit C.Timers) := by
  refine mak_of T.i_Timers sc_Timers___init__ (fun vs H Q E h => ?_) (fun f cdv A outer s H vs Q E hr h => ?_)
  · obtain ⟨x, dx, rfl, _⟩ := h
    rfl
  · obtain ⟨a, dx, rfl, ha, k⟩ := h
    refine ⟨_, (pss_cons (ps_fld (pv 0) (pe_lst pa_nil) rfl) (pss_one (ps_fld (pv 0) pe_int rfl))), ?_⟩
    refine ⟨by show 0 ≤ sizeLine; decide, fun l hl => ?_⟩
    have nal : a ≠ l := ne_of_none ha hl
    refine ⟨_, rfl, a, _, dx, [], rfl, (by rw [upd_ne nal]; exact ha), T.cl_Timers, T.n_Timers_running, (by show 0 < 1000; decide), ?_⟩
    refine ⟨_, rfl, a, _, dx, _, rfl, upd_same, T.cl_Timers, T.n_Timers_last, (by show 1 < 1000; decide), ?_⟩
    rw [upd_upd]
    refine k l _ hl upd_same ?_ fun b o e nb => ?_
    · rw [upd_ne nal.symm, upd_same]
    · rw [upd_ne nb, upd_ne (ne_of_none e hl)]
      exact e
end
end N5
end VL

set_option Elab.async false
set_option linter.all false
set_option maxRecDepth 100000
set_option maxHeartbeats 4000000
namespace VL
namespace N5
open PySem PySem.Spec PyProof.Rows L2
section
variable {P : Program} {w : World} {K : PySem.W.Frag} {mg : Str → Option Value} {base : Heap} {C : Ad}
theorem sc_Timer_belongs_to : FnScope ["self", "run"] ["self", "run"] (defScope s_Timer_belongs_to) := ⟨rfl, rfl, rfl, by decide +kernel, rfl, by decide +kernel, by decide +kernel⟩
theorem ok_bel (T : Txt K w mg C) : Met P w K mg base 1 C.Timer "belongs_to" (spBel C.Timer) := by
  refine met_of T.m_Timer_belongs_to T.cl_Timer sc_Timer_belongs_to (fun vs H Q E h => ?_) (fun f cdv A outer s H vs Q E hr h => ?_)
  · obtain ⟨G, x, t, r, rfl, _⟩ := h
    rfl
  · obtain ⟨G, x, t, r, rfl, sm, ⟨dx, p, h1, e, b, q, h2, h3, h4, h5⟩, k⟩ := h
    refine ⟨_, (pss_one (ps_ret (pe_cmpR op_eq (pe_ix ix_tup (pe_fld (pv 0) rfl) pe_int (fun _ _ => rfl)) (pv 1) (nomark _)))), ?_⟩
    refine ⟨_, rfl, x, _, dx, _, _, rfl, h1, T.cl_Timer, T.n_Timer_performed, fsT_performed t p, p, _, 3, _, rfl, rfl, SqT.of (sm _ _ h2), rfl, ?_⟩
    have e : (decide (V.int t.run = V.int r)) = decide (t.run = r) := by by_cases q : t.run = r <;> simp [q]
    refine ⟨_, rfl, rfl, ?_⟩
    show Q (V.bl (decide (V.int t.run = V.int r))) H
    rw [e]
    exact k
theorem sc_Timers___len__ : FnScope ["self"] ["self"] (defScope s_Timers___len__) := ⟨rfl, rfl, rfl, by decide +kernel, rfl, by decide +kernel, by decide +kernel⟩
theorem ok_len (T : Txt K w mg C) : Met P w K mg base 1 C.Timers "__len__" (spLen C.Timer C.Timers) := by
  refine met_of T.m_Timers___len__ T.cl_Timers sc_Timers___len__ (fun vs H Q E h => ?_) (fun f cdv A outer s H vs Q E hr h => ?_)
  · obtain ⟨G, a, l, L, n, rfl, _⟩ := h
    rfl
  · obtain ⟨G, a, l, L, n, rfl, S, k⟩ := h
    obtain ⟨dx, h1⟩ := S.ob
    refine ⟨_, (pss_one (ps_ret (pe_callB call_len_seq (by rfl) T.z_len PySem.boot_len (pa_cons (pe_fld (pv 0) rfl) pa_nil)))), ?_⟩
    refine ⟨_, rfl, a, _, dx, _, _, rfl, h1, T.cl_Timers, T.n_Timers_running, fsS_running l n, l, _, rfl, .inl (SqL.of S.ls), ?_⟩
    rw [List.length_map]
    exact k
theorem sc_Timers_next_due : FnScope ["self"] ["self"] (defScope s_Timers_next_due) := ⟨rfl, rfl, rfl, by decide +kernel, rfl, by decide +kernel, by decide +kernel⟩
theorem ok_tnext (T : Txt K w mg C) : Met P w K mg base 1 C.Timers "next_due" (spNext C.Timer C.Timers) := by
  refine met_of T.m_Timers_next_due T.cl_Timers sc_Timers_next_due (fun vs H Q E h => ?_) (fun f cdv A outer s H vs Q E hr h => ?_)
  · obtain ⟨G, a, l, L, n, rfl, _⟩ := h
    rfl
  · obtain ⟨G, a, l, L, n, rfl, S, k0, k1⟩ := h
    obtain ⟨dx, h1⟩ := S.ob
    refine ⟨_, (pss_cons (ps_if (pt_not (pt_truth (pe_fld (pv 0) rfl) (fun _ => rfl))) (pss_one (ps_ret pe_non)) pss_nil) (pss_one (ps_ret (pe_fld (pe_ix ix_list (pe_fld (pv 0) rfl) pe_int (fun _ _ => rfl)) rfl)))), ?_⟩
    refine ⟨_, rfl, a, _, dx, _, _, rfl, h1, T.cl_Timers, T.n_Timers_running, fsS_running l n, !(L.map fun e => V.ref e.1).isEmpty, .inl ⟨_, SqL.of S.ls, rfl⟩, ?_⟩
    cases L with
    | nil =>
      refine iteT ?_
      exact k0 rfl
    | cons e L =>
      refine iteF ?_
      obtain ⟨dy, p, h2, h3⟩ := S.tm e List.mem_cons_self
      refine ⟨_, rfl, a, _, dx, _, _, rfl, h1, T.cl_Timers, T.n_Timers_running, fsS_running l n, l, _, 0, .ref e.1, rfl, rfl, SqL.of S.ls, at0, ?_⟩
      exact ⟨e.1, _, dy, _, _, rfl, h2, T.cl_Timer, T.n_Timer_due, fsT_due e.2 p, k1 e L rfl⟩
theorem sc_Timers_told : FnScope ["self", "timer"] ["self"] (defScope s_Timers_told) := ⟨rfl, rfl, rfl, by decide +kernel, rfl, by decide +kernel, by decide +kernel⟩
theorem ok_told (T : Txt K w mg C) : Pro P w K mg base 1 C.Timers "told" (spTold C.Timer C.Timers) := by
  refine pro_of T.p_Timers_told T.cl_Timers sc_Timers_told (fun vs H Q E h => ?_) (fun f cdv A outer s H vs Q E hr h => ?_)
  · obtain ⟨G, a, l, L, n, rfl, _⟩ := h
    rfl
  · obtain ⟨G, a, l, L, n, rfl, S, hl, k⟩ := h
    obtain ⟨dx, h1⟩ := S.ob
    refine ⟨_, (pss_one (ps_ret (pe_lc (own := [("timer", 1)]) (g := gName 1) (tt := tYes) rfl sc_Timers_told.nd (pi_list (pe_fld (pv 0) rfl)) (blkOk_by (N := ["self", "timer"]) (sc := (defScope s_Timers_told)) (by decide +kernel)) (fun _ _ _ _ _ => pg_name (i := 1) sc_Timers_told.nd rfl (Or.inl rfl)) (fun _ _ _ _ _ => pts_nil) (fun _ _ _ _ _ => (pe_tup (pa_cons (pe_fldS (K := K) rfl (pv 1) rfl) (pa_cons (pe_fldS (K := K) rfl (pv 1) rfl) (pa_cons (pe_fldS (K := K) rfl (pv 1) rfl) pa_nil)))))))), ?_⟩
    refine ⟨_, rfl, a, _, dx, _, _, rfl, h1, T.cl_Timers, T.n_Timers_running, fsS_running l n, l, rfl, ⟨_, SqL.of S.ls⟩, fun D hD => ?_⟩
    refine lc_it (walk_list (K := K) (a := l) (xs := L.map fun e => V.ref e.1)) (fun i H' => ∃ ps : List Addr, Same H H' ∧ H' D = some (.lst (ps.map V.ref)) ∧ ps.length = i ∧ Paired (fun p (e : Addr × Tm) => H' p = some (.tup [.int e.2.num, .int e.2.due, .int e.2.per])) ps (L.take i)) ?_ ?_ ?_ ?_
    · exact ⟨[], Same.new hD, upd_same, rfl, .nil⟩
    · rintro i H' hi ⟨ps, s1, _, _, _⟩
      exact SqL.of (s1 _ _ S.ls)
    · rintro i x H1 H2 hi ⟨ps, s1, hd, pl, pr⟩ ⟨rfl, hx⟩
      have hi' : i < L.length := by rw [List.length_map] at hi; exact hi
      have ex : x = .ref L[i].1 := by
        rw [List.getElem?_map, List.getElem?_eq_getElem hi'] at hx
        exact (Option.some.inj hx).symm
      subst ex
      obtain ⟨dy, p, h2, h3⟩ := S.tm L[i] (List.getElem_mem hi')
      have h2' := s1 _ _ h2
      refine ⟨rfl, ?_⟩
      refine ⟨_, rfl, L[i].1, _, dy, _, _, rfl, h2', T.cl_Timer, T.n_Timer_number, fsT_number _ p, _, rfl, L[i].1, _, dy, _, _, rfl, h2', T.cl_Timer, T.n_Timer_due, fsT_due _ p, _, rfl, L[i].1, _, dy, _, _, rfl, h2', T.cl_Timer, T.n_Timer_period, fsT_period _ p, ?_⟩
      refine ⟨by show 3 ≤ sizeLine; decide, fun t ht => ?_⟩
      have tD : D ≠ t := ne_of_none hd ht
      refine ⟨_, by rw [upd_ne tD]; exact hd, ?_, ?_⟩
      · rw [List.length_map, pl]
        exact small1000 (by omega)
      · refine ⟨ps ++ [t], ?_, ?_, by rw [List.length_append, pl]; rfl, ?_⟩
        · intro c o e
          rw [upd_ne (ne_of_none e hD), upd_ne (ne_of_none (s1 _ _ e) ht)]
          exact s1 _ _ e
        · rw [upd_same, List.map_append]
          rfl
        · have e2 : L.take (i + 1) = L.take i ++ [L[i]] := by
            rw [List.take_add_one, List.getElem?_eq_getElem hi']
            rfl
          rw [e2]
          refine paired_snocT ?_ (L2.Paired.mapP pr fun c q z => ?_)
          · rw [upd_ne tD.symm, upd_same]
          · rw [upd_ne (ne_of z hd (by intro e; cases e)), upd_ne (ne_of_none z ht)]
            exact z
    · rintro H1 ⟨ps, s1, hd, pl, pr⟩
      rw [List.length_map, List.take_length] at pr
      exact k D ps H1 s1 hD hd pr
theorem sc_Timers_put : FnScope ["self", "timer", "earlier", "other"] ["self", "timer"] (defScope s_Timers_put) := ⟨rfl, rfl, rfl, by decide +kernel, rfl, by decide +kernel, by decide +kernel⟩
theorem ok_put (T : Txt K w mg C) : Met P w K mg base 1 C.Timers "put" (spPut C.Timer C.Timers) := by
  refine met_of T.m_Timers_put T.cl_Timers sc_Timers_put (fun vs H Q E h => ?_) (fun f cdv A outer s H vs Q E hr h => ?_)
  · obtain ⟨G, a, l, x, t, L, n, rfl, _⟩ := h
    rfl
  · obtain ⟨G, a, l, x, t, L, n, rfl, S, ⟨dz, pz, hz, gz⟩, gx, xL, hl, k⟩ := h
    have u0 : ∀ {k : Nat} {A : Around}, Room k A → A.units < cLine := fun r => Rn.u0 r
    obtain ⟨dx, h1⟩ := S.ob
    refine ⟨_, (pss_cons (ps_setLc (i := 2) (own := [("other", 3)]) (g := gName 3) (tt := _) rfl sc_Timers_put.nd rfl rfl (sw_true rfl rfl rfl (by decide +kernel)) (pi_list (pe_fld (pv 0) rfl)) (blkOk_by (N := ["self", "timer", "earlier", "other"]) (sc := (defScope s_Timers_put)) (by decide +kernel)) (fun _ _ _ _ _ => pg_name (i := 3) sc_Timers_put.nd rfl (Or.inl rfl)) (fun _ _ _ _ _ => pts_one (pt_cmpR (op_ltTS (K := K) rfl (u0 hr)) (pe_tup (pa_cons (pe_fldS (K := K) rfl (pv 3) rfl) (pa_cons (pe_fldS (K := K) rfl (pv 3) rfl) pa_nil))) (pe_tup (pa_cons (pe_fldS (K := K) rfl (pv 1) rfl) (pa_cons (pe_fldS (K := K) rfl (pv 1) rfl) pa_nil))) (nomark _))) (fun _ _ _ _ _ => (pv 3))) (pss_one (ps_expr (pe_bm PySem.F.plainAttrs_list PySem.F.slot_list_insert PySem.F.type_list_insert mt_insert (pe_fld (pv 0) rfl) (pa_cons (pe_callB call_len_seq (by rfl) T.z_len PySem.boot_len (pa_cons (pv 2) pa_nil)) (pa_cons (pv 1) pa_nil)))))), ?_⟩
    refine ⟨_, rfl, a, _, dx, _, _, rfl, h1, T.cl_Timers, T.n_Timers_running, fsS_running l n, l, rfl, ⟨_, SqL.of S.ls⟩, fun D hD => ?_⟩
    have Dl : D ≠ l := (ne_of_none S.ls hD).symm
    refine lc_it (walk_list (K := K) (a := l) (xs := L.map fun e => V.ref e.1)) (fun i H' => Same H H' ∧ H' D = some (.lst (((L.take i).filter fun e => ltm e.2 t).map fun e => V.ref e.1))) ⟨Same.new hD, upd_same⟩ (fun i H' _ z => SqL.of (z.1 _ _ S.ls)) ?_ ?_
    · rintro i y H1 H2 hi ⟨s1, hd⟩ ⟨rfl, hx⟩
      have hi' : i < L.length := by rw [List.length_map] at hi; exact hi
      have ex : y = .ref L[i].1 := by
        rw [List.getElem?_map, List.getElem?_eq_getElem hi'] at hx
        exact (Option.some.inj hx).symm
      subst ex
      obtain ⟨dy, p, h2, h3⟩ := S.tm L[i] (List.getElem_mem hi')
      have h2' := s1 _ _ h2
      have hz' := s1 _ _ hz
      have et := take_filter (L := L) (p := fun e => ltm e.2 t) (f := fun e => V.ref e.1) hi'
      refine ⟨rfl, ?_⟩
      refine ⟨_, rfl, L[i].1, _, dy, _, _, rfl, h2', T.cl_Timer, T.n_Timer_due, fsT_due _ p, _, rfl, L[i].1, _, dy, _, _, rfl, h2', T.cl_Timer, T.n_Timer_number, fsT_number _ p, ?_⟩
      refine ⟨by show 2 ≤ sizeLine; decide, fun u hu => ?_⟩
      have uz : x ≠ u := ne_of_none hz' hu
      refine ⟨_, rfl, x, _, dz, _, _, rfl, (by rw [upd_ne uz]; exact hz'), T.cl_Timer, T.n_Timer_due, fsT_due _ pz, _, rfl, x, _, dz, _, _, rfl, (by rw [upd_ne uz]; exact hz'), T.cl_Timer, T.n_Timer_number, fsT_number _ pz, ?_⟩
      refine ⟨by show 2 ≤ sizeLine; decide, fun v hv => ?_⟩
      have uv : u ≠ v := fun z => by rw [z] at hv; rw [← z, upd_same] at hv; cases hv
      refine ⟨u, v, [L[i].2.due, L[i].2.num], [t.due, t.num], rfl, rfl, SqT.of (by rw [upd_ne uv, upd_same]; rfl), SqT.of (by rw [upd_same]; rfl), _, rfl, ?_⟩
      have hvn : H2 v = none := by rw [upd_ne uv.symm] at hv; exact hv
      have Du : D ≠ u := ne_of_none hd hu
      have Dv : D ≠ v := ne_of_none hd hvn
      have s2 : ∀ o1 o2, Same H (upd (upd H2 u o1) v o2) := fun o1 o2 c o e => by
        have := s1 _ _ e
        rw [upd_ne (ne_of_none this hvn), upd_ne (ne_of_none this hu)]
        exact this
      show if ltm L[i].2 t = true then _ else _
      refine ite2 (fun q => ?_) (fun q => ?_)
      · rw [if_pos q] at et
        refine ⟨_, rfl, _, by rw [upd_ne Dv, upd_ne Du]; exact hd, ?_, ?_⟩
        · rw [List.length_map]
          have h1 := List.length_filter_le (fun e : Addr × Tm => ltm e.2 t) (L.take i)
          have h2 := List.length_take_le i L
          exact small1000 (by omega)
        · refine ⟨fun c o e => ?_, ?_⟩
          · rw [upd_ne (ne_of_none e hD)]
            exact s2 _ _ _ _ e
          · rw [upd_same, et]
      · rw [if_neg q, List.append_nil] at et
        exact ⟨s2 _ _, by rw [upd_ne Dv, upd_ne Du, hd, et]⟩
    · rintro H1 ⟨s1, hd⟩
      rw [List.length_map, List.take_length] at hd
      have h1' := s1 _ _ h1
      have hls := s1 _ _ S.ls
      refine ⟨_, rfl, a, _, dx, _, _, rfl, h1', T.cl_Timers, T.n_Timers_running, fsS_running l n, ?_⟩
      have hlen : ((L.filter fun e => ltm e.2 t).map fun e => V.ref e.1).length = cntT L t := List.length_map _
      have hle : cntT L t ≤ L.length := List.length_filter_le _ _
      refine ⟨.inl ⟨rfl, _, SqL.of hls⟩, _, rfl, D, _, rfl, .inl (SqL.of hd), _, rfl, l, _, _, _, rfl, rfl, hls, ?_, ?_, ?_, ?_⟩
      · rw [List.length_map]
        exact small1000 (by omega)
      · exact Int.natCast_nonneg _
      · rw [hlen]
        omega
      · rw [hlen]
        have e3 : (L.map fun e => V.ref e.1).take ((cntT L t : Nat) : Int).toNat ++ [V.ref x] ++ (L.map fun e => V.ref e.1).drop ((cntT L t : Nat) : Int).toNat = (insT L (x, t)).map fun e => V.ref e.1 := by
          rw [Int.toNat_natCast]
          unfold insT
          rw [List.map_append, List.map_append, List.map_take, List.map_drop]
          rfl
        rw [e3]
        have S1 := S.mono s1
        exact k .non _ (S1.put ⟨dz, pz, s1 _ _ hz, gz⟩ gx xL) fun b o e nb => by rw [upd_ne nb]; exact s1 _ _ e
end
end N5
end VL

set_option Elab.async false
set_option linter.all false
set_option maxRecDepth 100000
set_option maxHeartbeats 4000000
namespace VL
namespace N5
open PySem PySem.Spec PyProof.Rows L2
section
variable {P : Program} {w : World} {K : PySem.W.Frag} {mg : Str → Option Value} {base : Heap} {C : Ad}
theorem sc_Timers_start : FnScope ["self", "owner", "now", "ticks", "again", "lane", "environment", "block", "run", "performed", "timer"] ["self", "owner", "now", "ticks", "again", "lane", "environment", "block", "run"] (defScope s_Timers_start) := ⟨rfl, rfl, rfl, by decide +kernel, rfl, by decide +kernel, by decide +kernel⟩
theorem ok_startT (T : Txt K w mg C) : MetK P w K mg base 4 C.Timers "start" (spStartT C.Timer C.Timers) 2 ["now", "ticks", "again", "lane", "environment", "block", "run"] (fun vs zs => vs ++ zs) := by
  have Gcopied_names : Cal P w K mg base 3 "copied_names" spCopyN := ok_names T
  have Gcopied_source : Cal P w K mg base 3 "copied_source" spS2 := ok_S2 T
  have KTimer : Mak P w K mg base 1 "Timer" C.Timer (spTmInit C.Timer) := ok_tminit T
  have Mput : Met P w K mg base 1 C.Timers "put" (spPut C.Timer C.Timers) := ok_put T
  refine metK_of T.m_Timers_start T.cl_Timers sc_Timers_start (fun vs H Q E h => ?_) (fun f cdv A outer s H vs Q E hr h => ?_)
  · obtain ⟨G, a, l, e, b, q, L, n, ow, now, tk, ag, lane, env, run, rfl, _⟩ := h
    rfl
  · obtain ⟨G, a, l, e, b, q, L, n, ow, now, tk, ag, lane, env, run, rfl, S, he, hb, hq, hl, kf, k⟩ := h
    obtain ⟨dx, h1⟩ := S.ob
    refine ⟨_, (pss_cons (ps_if (pt_cmpR op_ge (pe_callB call_len_seq (by rfl) T.z_len PySem.boot_len (pa_cons (pe_fld (pv 0) rfl) pa_nil)) (C8.pe_gc (by rfl) T.g_MOST_TIMERS) (nomark _)) (pss_one (ps_ret pe_non)) pss_nil) (pss_cons (ps_fldaug (pv 0) pe_int in_add) (pss_cons (ps_set (i := 9) sc_Timers_start.nd rfl (Or.inl rfl) (pe_tup (pa_cons (pv 5) (pa_cons (pe_c Gcopied_names hr (by decide) (by rfl) (pa_cons (pv 6) pa_nil)) (pa_cons (pe_c Gcopied_source hr (by decide) (by rfl) (pa_cons (pv 7) pa_nil)) (pa_cons (pv 8) pa_nil)))))) (pss_cons (ps_set (i := 10) sc_Timers_start.nd rfl (Or.inl rfl) (pe_mk KTimer hr (by decide) (by rfl) (pa_cons (pe_fld (pv 0) rfl) (pa_cons (pe_op op_add (pv 2) (pv 3)) (pa_cons (pe_ifExp (pt_val (pv 4)) (pv 3) pe_int) (pa_cons (pv 1) (pa_cons (pv 9) pa_nil))))))) (pss_cons (ps_expr (pe_mt Mput hr (by decide) (pv 0) (pa_cons (pv 10) pa_nil))) (pss_one (ps_ret (pe_fld (pv 10) rfl)))))))), ?_⟩
    refine ⟨_, rfl, a, _, dx, _, _, rfl, h1, T.cl_Timers, T.n_Timers_running, fsS_running l n, l, _, rfl, .inl (SqL.of S.ls), _, _, rfl, rfl, _, rfl, ?_⟩
    refine ite2 (fun qq => ?_) (fun qq => ?_)
    · have := of_decide_eq_true qq
      rw [List.length_map] at this
      exact kf (by omega)
    have hlt : L.length < 20 := by
      have := of_decide_eq_false (Bool.eq_false_iff.mpr qq)
      rw [List.length_map] at this
      omega
    refine ⟨_, rfl, a, _, dx, _, _, rfl, h1, T.cl_Timers, T.n_Timers_last, fsS_last l n, _, _, rfl, rfl, dx, _, h1, (by show 2 < 1000; decide), ?_⟩
    rw [putS_last]
    have ea : e ≠ a := ne_of he h1 (by intro e; cases e)
    have ba : b ≠ a := ne_of hb h1 (by intro e; cases e)
    have qa : q ≠ a := ne_of hq h1 (by intro e; cases e)
    have k1 : ∀ c o, H c = some o → c ≠ a → upd H a (.ins C.Timers dx (fsS l (n + 1))) c = some o := fun c o z nc => by rw [upd_ne nc]; exact z
    have a1 : upd H a (.ins C.Timers dx (fsS l (n + 1))) a = some (.ins C.Timers dx (fsS l (n + 1))) := upd_same
    generalize upd H a (.ins C.Timers dx (fsS l (n + 1))) = H1 at k1 a1 ⊢
    refine ⟨_, rfl, _, rfl, e, env, rfl, k1 _ _ he ea, fun d hd => ?_⟩
    have s2 : Same H1 (upd H1 d (.dK (eX env))) := Same.new hd
    have d2 : upd H1 d (.dK (eX env)) d = some (.dK (eX env)) := upd_same
    generalize upd H1 d (.dK (eX env)) = H2 at s2 d2 ⊢
    refine ⟨_, rfl, b, q, _, rfl, s2 _ _ (k1 _ _ hb ba), s2 _ _ (k1 _ _ hq qa), fun b' q' H3 s3 nb nq hb3 hq3 => ?_⟩
    refine ⟨_, rfl, by show 4 ≤ sizeLine; decide, fun p hp => ?_⟩
    have s4 : Same H3 (upd H3 p (.tup [.int lane, .ref d, .ref b', .int run])) := Same.new hp
    have p4 : upd H3 p (.tup [.int lane, .ref d, .ref b', .int run]) p = some (.tup [.int lane, .ref d, .ref b', .int run]) := upd_same
    have up : ∀ c o, H c = some o → c ≠ a → (upd H3 p (.tup [.int lane, .ref d, .ref b', .int run])) c = some o := fun c o z nc => s4 _ _ (s3 _ _ (s2 _ _ (k1 _ _ z nc)))
    have a4 := s4 _ _ (s3 _ _ (s2 _ _ a1))
    have nn : ∀ c, (upd H3 p (.tup [.int lane, .ref d, .ref b', .int run])) c = none → H c = none := fun c hc => by
      cases z : H c with
      | none => rfl
      | some o =>
        exfalso
        by_cases qa : c = a
        · rw [qa, a4] at hc; cases hc
        · rw [up c o z qa] at hc; cases hc
    have n1 : ∀ c, H1 c = none → H c = none := fun c hc => by
      cases z : H c with
      | none => rfl
      | some o =>
        exfalso
        by_cases qa : c = a
        · rw [qa, a1] at hc; cases hc
        · rw [k1 c o z qa] at hc; cases hc
    have n2 : ∀ c, H2 c = none → H c = none := fun c hc => n1 c (by
      cases z : H1 c with
      | none => rfl
      | some o => rw [s2 _ _ z] at hc; cases hc)
    have n3 : ∀ c, H3 c = none → H c = none := fun c hc => n2 c (by
      cases z : H2 c with
      | none => rfl
      | some o => rw [s3 _ _ z] at hc; cases hc)
    have d4 := s4 _ _ (s3 _ _ d2)
    have b4 := s4 _ _ hb3
    have q4 := s4 _ _ hq3
    refine ⟨_, rfl, a, _, dx, _, _, rfl, a4, T.cl_Timers, T.n_Timers_last, fsS_last l (n + 1), ?_⟩
    refine ⟨_, rfl, _, rfl, _, _, rfl, rfl, ?_⟩
    refine ⟨_, rfl, ag, rfl, ?_⟩
    cases ag with
    | true =>
      refine iteT ?_
      refine ⟨_, rfl, ?_⟩
      refine ⟨_, rfl, _, rfl, fun x dxx hx hdx nx => ?_⟩
      refine ⟨x, dxx, p, n + 1, now + tk, tk, ow, rfl, upd_same, fun lane' env' run' H5 hx5 keep => ⟨rfl, ?_⟩⟩
      have up5 : ∀ c o, (upd H3 p (.tup [.int lane, .ref d, .ref b', .int run])) c = some o → H5 c = some o := fun c o z => by
        refine keep c o ?_ (ne_of_none z hx)
        rw [upd_ne (ne_of_none z hx), upd_ne (ne_of_none z hdx)]
        exact z
      have hxn := nn x hx
      have S2 : TsA C.Timer C.Timers (grow H G H5 x) H5 a l L (n + 1) := S.lay hxn (up5 _ _ a4) fun c o z nc => up5 _ _ (up c o z nc)
      have gro : Gro H G (grow H G H5 x) := grow_gro S.sm hxn
      have pf : PfA (grow H G H5 x) p ⟨n + 1, now + tk, tk, ow, lane, env, run⟩ := ⟨d, b', q',
        by rw [grow_new (n3 p hp) (ne_of_none p4 hx)]; exact up5 _ _ p4,
        by rw [grow_new (n1 d hd) (ne_of_none d4 hx)]; exact up5 _ _ d4,
        by rw [grow_new (n2 b' nb) (ne_of_none b4 hx)]; exact up5 _ _ b4,
        by rw [grow_new (n2 q' nq) (ne_of_none q4 hx)]; exact up5 _ _ q4⟩
      have xL : x ∉ L.map (·.1) := fun z => by
        obtain ⟨e2, he2, rfl⟩ := List.mem_map.mp z
        obtain ⟨_, _, r, _⟩ := S.tm e2 he2
        rw [r] at hxn
        cases hxn
      obtain ⟨dx2, h12⟩ := S2.ob
      refine ⟨_, rfl, a, dx2, _, rfl, h12, rfl, _, rfl, grow H G H5 x, a, l, x, ⟨n + 1, now + tk, tk, ow, lane, env, run⟩, L, n + 1, rfl, S2, ⟨dxx, p, hx5, pf⟩, grow_x, xL, by omega, fun v H6 S3 keep3 => ?_⟩
      obtain ⟨dy, py, hx3, _⟩ := S3.tm (x, ⟨n + 1, now + tk, tk, ow, lane, env, run⟩) (mem_ins.mpr (.inl rfl))
      refine ⟨_, rfl, x, _, dy, _, _, rfl, hx3, T.cl_Timer, T.n_Timer_number, fsT_number _ py, ?_⟩
      refine k hlt x (grow H G H5 x) H6 hxn gro S3 fun c o z na nl _ => ?_
      exact keep3 c o (up5 _ _ (up c o z na)) nl
    | false =>
      refine iteF ?_
      refine ⟨_, rfl, _, rfl, fun x dxx hx hdx nx => ?_⟩
      refine ⟨x, dxx, p, n + 1, now + tk, 0, ow, rfl, upd_same, fun lane' env' run' H5 hx5 keep => ⟨rfl, ?_⟩⟩
      have up5 : ∀ c o, (upd H3 p (.tup [.int lane, .ref d, .ref b', .int run])) c = some o → H5 c = some o := fun c o z => by
        refine keep c o ?_ (ne_of_none z hx)
        rw [upd_ne (ne_of_none z hx), upd_ne (ne_of_none z hdx)]
        exact z
      have hxn := nn x hx
      have S2 : TsA C.Timer C.Timers (grow H G H5 x) H5 a l L (n + 1) := S.lay hxn (up5 _ _ a4) fun c o z nc => up5 _ _ (up c o z nc)
      have gro : Gro H G (grow H G H5 x) := grow_gro S.sm hxn
      have pf : PfA (grow H G H5 x) p ⟨n + 1, now + tk, 0, ow, lane, env, run⟩ := ⟨d, b', q',
        by rw [grow_new (n3 p hp) (ne_of_none p4 hx)]; exact up5 _ _ p4,
        by rw [grow_new (n1 d hd) (ne_of_none d4 hx)]; exact up5 _ _ d4,
        by rw [grow_new (n2 b' nb) (ne_of_none b4 hx)]; exact up5 _ _ b4,
        by rw [grow_new (n2 q' nq) (ne_of_none q4 hx)]; exact up5 _ _ q4⟩
      have xL : x ∉ L.map (·.1) := fun z => by
        obtain ⟨e2, he2, rfl⟩ := List.mem_map.mp z
        obtain ⟨_, _, r, _⟩ := S.tm e2 he2
        rw [r] at hxn
        cases hxn
      obtain ⟨dx2, h12⟩ := S2.ob
      refine ⟨_, rfl, a, dx2, _, rfl, h12, rfl, _, rfl, grow H G H5 x, a, l, x, ⟨n + 1, now + tk, 0, ow, lane, env, run⟩, L, n + 1, rfl, S2, ⟨dxx, p, hx5, pf⟩, grow_x, xL, by omega, fun v H6 S3 keep3 => ?_⟩
      obtain ⟨dy, py, hx3, _⟩ := S3.tm (x, ⟨n + 1, now + tk, 0, ow, lane, env, run⟩) (mem_ins.mpr (.inl rfl))
      refine ⟨_, rfl, x, _, dy, _, _, rfl, hx3, T.cl_Timer, T.n_Timer_number, fsT_number _ py, ?_⟩
      refine k hlt x (grow H G H5 x) H6 hxn gro S3 fun c o z na nl _ => ?_
      exact keep3 c o (up5 _ _ (up c o z na)) nl
end
end N5
end VL

set_option Elab.async false
set_option linter.all false
set_option maxRecDepth 100000
set_option maxHeartbeats 4000000
namespace VL
namespace N5
open PySem PySem.Spec PyProof.Rows L2
section
variable {P : Program} {w : World} {K : PySem.W.Frag} {mg : Str → Option Value} {base : Heap} {C : Ad}
theorem sc_Timers_fire : FnScope ["self", "timer", "lane", "environment", "block", "run"] ["self"] (defScope s_Timers_fire) := ⟨rfl, rfl, rfl, by decide +kernel, rfl, by decide +kernel, by decide +kernel⟩
theorem ok_fire (T : Txt K w mg C) : Met P w K mg base 4 C.Timers "fire" (spFire C.Timer C.Timers) := by
  have Gcopied_names : Cal P w K mg base 3 "copied_names" spCopyN := ok_names T
  have Gcopied_source : Cal P w K mg base 3 "copied_source" spS2 := ok_S2 T
  have Mput : Met P w K mg base 1 C.Timers "put" (spPut C.Timer C.Timers) := ok_put T
  refine met_of T.m_Timers_fire T.cl_Timers sc_Timers_fire (fun vs H Q E h => ?_) (fun f cdv A outer s H vs Q E hr h => ?_)
  · obtain ⟨G, a, l, x, t, L, n, rfl, _⟩ := h
    rfl
  · obtain ⟨G, a, l, x, t, L, n, rfl, S, hl, k⟩ := h
    obtain ⟨dx, h1⟩ := S.ob
    have al := S.al
    have xl : x ≠ l := S.lx (x, t) List.mem_cons_self
    have xa : x ≠ a := S.ax (x, t) List.mem_cons_self
    have gx : G x = none := S.gx (x, t) List.mem_cons_self
    obtain ⟨xL, ndL⟩ := List.nodup_cons.mp S.nd
    obtain ⟨dz, pz, hx, ey, by_, qy, gp, ge, gb, gq⟩ := S.tm (x, t) List.mem_cons_self
    refine ⟨_, (pss_cons (ps_if (pt_not (pt_truth (pe_fld (pv 0) rfl) (fun _ => rfl))) (pss_one (ps_ret pe_non)) pss_nil) (pss_cons (ps_set (i := 1) sc_Timers_fire.nd rfl (Or.inl rfl) (pe_bm PySem.F.plainAttrs_list PySem.F.slot_list_pop PySem.F.type_list_pop mt_popAt (pe_fld (pv 0) rfl) (pa_cons pe_int pa_nil))) (pss_cons (ps_if (pt_cmpR op_gt (pe_fld (pv 1) rfl) pe_int (nomark _)) (pss_cons (ps_fldaug (pv 1) (pe_fld (pv 1) rfl) in_add) (pss_one (ps_expr (pe_mt Mput hr (by decide) (pv 0) (pa_cons (pv 1) pa_nil))))) pss_nil) (pss_cons (ps_asg (pe_fld (pv 1) rfl) (pg_tup rfl (pgs_cons (pg_name (i := 2) sc_Timers_fire.nd rfl (Or.inl rfl)) (pgs_cons (pg_name (i := 3) sc_Timers_fire.nd rfl (Or.inl rfl)) (pgs_cons (pg_name (i := 4) sc_Timers_fire.nd rfl (Or.inl rfl)) (pgs_cons (pg_name (i := 5) sc_Timers_fire.nd rfl (Or.inl rfl)) pgs_nil)))))) (pss_one (ps_ret (pe_tup (pa_cons (pe_fld (pv 1) rfl) (pa_cons (pv 2) (pa_cons (pe_c Gcopied_names hr (by decide) (by rfl) (pa_cons (pv 3) pa_nil)) (pa_cons (pe_c Gcopied_source hr (by decide) (by rfl) (pa_cons (pv 4) pa_nil)) (pa_cons (pv 5) pa_nil)))))))))))), ?_⟩
    refine ⟨_, rfl, a, _, dx, _, _, rfl, h1, T.cl_Timers, T.n_Timers_running, fsS_running l n, !(((x, t) :: L).map fun e => V.ref e.1).isEmpty, .inl ⟨_, SqL.of S.ls, rfl⟩, ?_⟩
    refine iteF ?_
    refine ⟨_, rfl, a, _, dx, _, _, rfl, h1, T.cl_Timers, T.n_Timers_running, fsS_running l n, .inl ⟨rfl, _, SqL.of S.ls⟩, l, _, 0, 0, .ref x, rfl, rfl, S.ls, by decide, by decide, (by unfold seqIndex?; simp), rfl, ?_⟩
    have S1 : TsA C.Timer C.Timers G (upd H l (.lst (L.map fun e => V.ref e.1))) a l L n := ⟨⟨dx, by rw [upd_ne al]; exact h1⟩, upd_same, fun e he => by
      obtain ⟨dy, p, r, r2⟩ := S.tm e (List.mem_cons_of_mem _ he)
      exact ⟨dy, p, by rw [upd_ne (S.lx e (List.mem_cons_of_mem _ he))]; exact r, r2⟩, ndL, fun b o e => by rw [upd_ne (ne_of_none e S.gl)]; exact S.sm _ _ e, S.ga, S.gl, fun e he => S.gx e (List.mem_cons_of_mem _ he)⟩
    have hx1 : upd H l (.lst (L.map fun e => V.ref e.1)) x = some (.ins C.Timer dz (fsT t pz)) := by rw [upd_ne xl]; exact hx
    have fr1 : ∀ b o, H b = some o → b ≠ l → upd H l (.lst (L.map fun e => V.ref e.1)) b = some o := fun b o e nb => by rw [upd_ne nb]; exact e
    show _
    generalize hH1 : upd H l (.lst (L.map fun e => V.ref e.1)) = H1 at S1 hx1 fr1
    have hH1' : upd H l (.lst ((((x, t) :: L).map fun e => V.ref e.1).eraseIdx 0)) = H1 := hH1
    rw [hH1']
    refine ⟨_, rfl, x, _, dz, _, _, rfl, hx1, T.cl_Timer, T.n_Timer_period, fsT_period t pz, _, _, rfl, rfl, _, rfl, ?_⟩
    refine ite2 (fun q => ?_) (fun q => ?_)
    · have q' : t.per > 0 := of_decide_eq_true q
      rw [if_pos q'] at k
      refine ⟨_, rfl, x, _, dz, _, _, rfl, hx1, T.cl_Timer, T.n_Timer_due, fsT_due t pz, _, rfl, x, _, dz, _, _, rfl, hx1, T.cl_Timer, T.n_Timer_period, fsT_period t pz, _, _, rfl, rfl, dz, _, hx1, (by show 5 < 1000; decide), ?_⟩
      rw [putT_due]
      have S2 : TsA C.Timer C.Timers G (upd H1 x (.ins C.Timer dz (fsT { t with due := t.due + t.per } pz))) a l L n := S1.other (fun b o e nb => by rw [upd_ne nb]; exact e) gx xa.symm xl.symm fun e he z => xL (List.mem_map.mpr ⟨e, he, z⟩)
      obtain ⟨dx2, h12⟩ := S2.ob
      refine ⟨_, rfl, a, dx2, _, rfl, h12, rfl, _, rfl, G, a, l, x, nextT t, L, n, rfl, S2, ⟨dz, pz, upd_same, ey, by_, qy, gp, ge, gb, gq⟩, gx, xL, by omega, fun v H3 S3 keep3 => ?_⟩
      obtain ⟨dy, py, hx3, ey, by_, qy, gp, ge, gb, gq⟩ := S3.tm (x, nextT t) (mem_ins.mpr (.inl rfl))
      have fr3 : ∀ b o, H b = some o → b ≠ a → b ≠ l → b ≠ x → H3 b = some o := fun b o e _ n2 n3 => keep3 b o (by rw [upd_ne n3]; exact fr1 b o e n2) n2
      have nn : ∀ c, H3 c = none → H c = none := fun c hc => by
        cases z : H c with
        | none => rfl
        | some o =>
          exfalso
          by_cases q1 : c = a
          · obtain ⟨_, r⟩ := S3.ob
            rw [q1, r] at hc; cases hc
          · by_cases q2 : c = l
            · rw [q2, S3.ls] at hc; cases hc
            · by_cases q3 : c = x
              · rw [q3, hx3] at hc; cases hc
              · rw [fr3 c o z q1 q2 q3] at hc; cases hc
      refine ⟨_, rfl, x, _, dy, _, _, rfl, hx3, T.cl_Timer, T.n_Timer_performed, fsT_performed _ py, py, _, rfl, SqT.of (S3.sm _ _ gp), rfl, ?_⟩
      refine ⟨_, _, rfl, _, _, rfl, _, _, rfl, _, _, rfl, rfl, ?_⟩
      refine ⟨_, rfl, x, _, dy, _, _, rfl, hx3, T.cl_Timer, T.n_Timer_owner, fsT_owner _ py, _, rfl, _, rfl, ey, _, rfl, S3.sm _ _ ge, fun d hd => ?_⟩
      have s5 := Same.new (o := HO.dK (eX t.env)) hd
      have d5 : upd H3 d (.dK (eX t.env)) d = some (.dK (eX t.env)) := upd_same
      refine ⟨_, rfl, by_, qy, _, rfl, s5 _ _ (S3.sm _ _ gb), s5 _ _ (S3.sm _ _ gq), fun b' q' H6 s6 nb nq hb6 hq6 => ?_⟩
      refine ⟨_, rfl, by show 5 ≤ sizeLine; decide, fun p hp => ?_⟩
      have s6' : Same (upd H3 d (.dK (eX t.env))) H6 := s6
      have s7 : Same H6 (upd H6 p (.tup [.int t.own, .int t.lane, .ref d, .ref b', .int t.run])) := Same.new hp
      have sall : Same H3 (upd H6 p (.tup [.int t.own, .int t.lane, .ref d, .ref b', .int t.run])) := fun c o z => s7 _ _ (s6' _ _ (s5 _ _ z))
      have hp3 : H3 p = none := by
        cases z : H3 p with
        | none => rfl
        | some o => rw [s6' _ _ (s5 _ _ z)] at hp; cases hp
      refine k p d b' q' _ (nn p hp3) (nn d hd) upd_same (s7 _ _ (s6' _ _ d5)) (s7 _ _ hb6) (s7 _ _ hq6) ?_ fun c o z na nl nx => sall _ _ (fr3 c o z na nl (nx (x, t) List.mem_cons_self))
      exact S3.mono sall
    · have q' : ¬ t.per > 0 := fun z => q (decide_eq_true z)
      rw [if_neg q'] at k
      have S3 := S1
      have hx3 := hx1
      have fr3 : ∀ b o, H b = some o → b ≠ a → b ≠ l → b ≠ x → H1 b = some o := fun b o e _ n2 n3 => fr1 b o e n2
      have nn : ∀ c, H1 c = none → H c = none := fun c hc => by
        cases z : H c with
        | none => rfl
        | some o =>
          exfalso
          by_cases q1 : c = a
          · obtain ⟨_, r⟩ := S3.ob
            rw [q1, r] at hc; cases hc
          · by_cases q2 : c = l
            · rw [q2, S3.ls] at hc; cases hc
            · by_cases q3 : c = x
              · rw [q3, hx3] at hc; cases hc
              · rw [fr3 c o z q1 q2 q3] at hc; cases hc
      refine ⟨_, rfl, x, _, dz, _, _, rfl, hx3, T.cl_Timer, T.n_Timer_performed, fsT_performed _ pz, pz, _, rfl, SqT.of (S3.sm _ _ gp), rfl, ?_⟩
      refine ⟨_, _, rfl, _, _, rfl, _, _, rfl, _, _, rfl, rfl, ?_⟩
      refine ⟨_, rfl, x, _, dz, _, _, rfl, hx3, T.cl_Timer, T.n_Timer_owner, fsT_owner _ pz, _, rfl, _, rfl, ey, _, rfl, S3.sm _ _ ge, fun d hd => ?_⟩
      have s5 := Same.new (o := HO.dK (eX t.env)) hd
      have d5 : upd H1 d (.dK (eX t.env)) d = some (.dK (eX t.env)) := upd_same
      refine ⟨_, rfl, by_, qy, _, rfl, s5 _ _ (S3.sm _ _ gb), s5 _ _ (S3.sm _ _ gq), fun b' q' H6 s6 nb nq hb6 hq6 => ?_⟩
      refine ⟨_, rfl, by show 5 ≤ sizeLine; decide, fun p hp => ?_⟩
      have s6' : Same (upd H1 d (.dK (eX t.env))) H6 := s6
      have s7 : Same H6 (upd H6 p (.tup [.int t.own, .int t.lane, .ref d, .ref b', .int t.run])) := Same.new hp
      have sall : Same H1 (upd H6 p (.tup [.int t.own, .int t.lane, .ref d, .ref b', .int t.run])) := fun c o z => s7 _ _ (s6' _ _ (s5 _ _ z))
      have hp3 : H1 p = none := by
        cases z : H1 p with
        | none => rfl
        | some o => rw [s6' _ _ (s5 _ _ z)] at hp; cases hp
      refine k p d b' q' _ (nn p hp3) (nn d hd) upd_same (s7 _ _ (s6' _ _ d5)) (s7 _ _ hb6) (s7 _ _ hq6) ?_ fun c o z na nl nx => sall _ _ (fr3 c o z na nl (nx (x, t) List.mem_cons_self))
      exact S3.mono sall
end
end N5
end VL

set_option Elab.async false
set_option linter.all false
set_option maxRecDepth 100000
set_option maxHeartbeats 4000000
namespace VL
namespace N5
open PySem PySem.Spec PyProof.Rows L2
theorem putS_run (l D : Addr) (n : Int) : putF "running" (.ref D) (fsS l n) = fsS D n := by rfl
theorem TsA.filt {CT CS : Addr} {G H H1 : Hp} {a l D dx : Addr} {L : Tl} {n : Int} {p : Addr × Tm → Bool} (S : TsA CT CS G H a l L n) (s1 : Same H H1) (hD : H D = none) (hd : H1 D = some (.lst ((L.filter p).map fun e => V.ref e.1))) : TsA CT CS G (upd H1 a (.ins CS dx (fsS D n))) a D (L.filter p) n := by
  have ax := S.ax
  obtain ⟨⟨dy, h1⟩, h2, h3, h4, h5, h6, h7, h8⟩ := S
  have Da : D ≠ a := (ne_of_none h1 hD).symm
  refine ⟨⟨dx, upd_same⟩, by rw [upd_ne Da]; exact hd, fun e he => ?_, h4.sublist (List.filter_sublist.map _), fun b o e => ?_, h6, ?_, fun e he => h8 e (List.mem_filter.mp he).1⟩
  · have he' := (List.mem_filter.mp he).1
    obtain ⟨dz, q, r1, r2⟩ := h3 e he'
    exact ⟨dz, q, by rw [upd_ne (ax e he')]; exact s1 _ _ r1, r2⟩
  · rw [upd_ne (ne_of_none e h6)]
    exact s1 _ _ (h5 _ _ e)
  · cases z : G D with
    | none => rfl
    | some o => rw [h5 _ _ z] at hD; cases hD
def spEndRun (CT CS : Addr) : Sp := fun vs H Q _ => ∃ (G : Hp) (a l : Addr) (L : Tl) (n r : Int), vs = [.ref a, .int r] ∧ TsA CT CS G H a l L n ∧ L.length ≤ 20 ∧
  ∀ l' H', H l' = none → TsA CT CS G H' a l' (L.filter fun e => !decide (e.2.run = r)) n → (∀ b o, H b = some o → b ≠ a → H' b = some o) → Q .non H'
def spEndOwn (CT CS : Addr) : Sp := fun vs H Q _ => ∃ (G : Hp) (a l i : Addr) (L : Tl) (n : Int) (ids : List Int), vs = [.ref a, .ref i] ∧ TsA CT CS G H a l L n ∧ H i = some (.lst (ids.map V.int)) ∧ L.length ≤ 20 ∧
  ∀ l' H', H l' = none → TsA CT CS G H' a l' (L.filter fun e => !decide (e.2.own ∈ ids)) n → (∀ b o, H b = some o → b ≠ a → H' b = some o) → Q .non H'
def spClear (CT CS : Addr) : Sp := fun vs H Q _ => ∃ (G : Hp) (a l : Addr) (L : Tl) (n : Int), vs = [.ref a] ∧ TsA CT CS G H a l L n ∧
  ∀ l' H', H l' = none → TsA CT CS G H' a l' [] n → (∀ b o, H b = some o → b ≠ a → H' b = some o) → Q .non H'
section
variable {P : Program} {w : World} {K : PySem.W.Frag} {mg : Str → Option Value} {base : Heap} {C : Ad}
theorem sc_Timers_end_run : FnScope ["self", "run", "timer"] ["self", "run"] (defScope s_Timers_end_run) := ⟨rfl, rfl, rfl, by decide +kernel, rfl, by decide +kernel, by decide +kernel⟩
theorem ok_endrun (T : Txt K w mg C) : Met P w K mg base 2 C.Timers "end_run" (spEndRun C.Timer C.Timers) := by
  have Mbelongs_to : Met P w K mg base 1 C.Timer "belongs_to" (spBel C.Timer) := ok_bel T
  refine met_of T.m_Timers_end_run T.cl_Timers sc_Timers_end_run (fun vs H Q E h => ?_) (fun f cdv A outer s H vs Q E hr h => ?_)
  · obtain ⟨G, a, l, L, n, r, rfl, _⟩ := h
    rfl
  · obtain ⟨G, a, l, L, n, r, rfl, S, hl, k⟩ := h
    obtain ⟨dx, h1⟩ := S.ob
    refine ⟨_, (pss_one (ps_fld (pv 0) (pe_lc (own := [("timer", 2)]) (g := gName 2) (tt := _) rfl sc_Timers_end_run.nd (pi_list (pe_fld (pv 0) rfl)) (blkOk_by (N := ["self", "run", "timer"]) (sc := (defScope s_Timers_end_run)) (by decide +kernel)) (fun _ _ _ _ _ => pg_name (i := 2) sc_Timers_end_run.nd rfl (Or.inl rfl)) (fun _ _ _ _ _ => pts_one (pt_not (pt_val (pe_mt Mbelongs_to hr (by decide) (pv 2) (pa_cons (pv 1) pa_nil))))) (fun _ _ _ _ _ => (pv 2))) rfl)), ?_⟩
    refine ⟨_, rfl, a, _, dx, _, _, rfl, h1, T.cl_Timers, T.n_Timers_running, fsS_running l n, l, rfl, ⟨_, SqL.of S.ls⟩, fun D hD => ?_⟩
    have Da : D ≠ a := (ne_of_none h1 hD).symm
    refine lc_it (walk_list (K := K) (a := l) (xs := L.map fun e => V.ref e.1)) (fun i H' => Same H H' ∧ H' D = some (.lst (((L.take i).filter fun e => !decide (e.2.run = r)).map fun e => V.ref e.1))) ⟨Same.new hD, upd_same⟩ (fun i H' _ z => SqL.of (z.1 _ _ S.ls)) ?_ ?_
    · rintro i y H1 H2 hi ⟨s1, hd⟩ ⟨rfl, hx⟩
      have hi' : i < L.length := by rw [List.length_map] at hi; exact hi
      have ex : y = .ref L[i].1 := by
        rw [List.getElem?_map, List.getElem?_eq_getElem hi'] at hx
        exact (Option.some.inj hx).symm
      subst ex
      have tm := S.tm L[i] (List.getElem_mem hi')
      have et := take_filter (L := L) (p := fun e => !decide (e.2.run = r)) (f := fun e => V.ref e.1) hi'
      refine ⟨rfl, ?_⟩
      obtain ⟨dy, p, h2, h3⟩ := tm
      refine ⟨_, rfl, L[i].1, dy, _, rfl, s1 _ _ h2, rfl, _, rfl, G, L[i].1, L[i].2, r, rfl, fun b o e => s1 _ _ (S.sm _ _ e), ⟨dy, p, s1 _ _ h2, h3⟩, ?_⟩
      refine ⟨_, rfl, ?_⟩
      refine ite2 (fun q => ?_) (fun q => ?_)
      · rw [if_pos q] at et
        refine ⟨_, rfl, _, hd, ?_, ?_⟩
        · rw [List.length_map]
          have h1 := List.length_filter_le (fun e : Addr × Tm => !decide (e.2.run = r)) (L.take i)
          have h2 := List.length_take_le i L
          exact small1000 (by omega)
        · refine ⟨fun c o e => ?_, ?_⟩
          · rw [upd_ne (ne_of_none e hD)]
            exact s1 _ _ e
          · rw [upd_same, et]
      · rw [if_neg q, List.append_nil] at et
        exact ⟨s1, by rw [hd, et]⟩
    · rintro H1 ⟨s1, hd⟩
      rw [List.length_map, List.take_length] at hd
      refine ⟨_, rfl, a, _, dx, _, rfl, s1 _ _ h1, T.cl_Timers, T.n_Timers_running, (by show 2 < 1000; decide), ?_⟩
      rw [putS_run]
      exact k D _ hD (S.filt s1 hD hd) fun b o e nb => by rw [upd_ne nb]; exact s1 _ _ e
theorem sc_Timers_end_owners : FnScope ["self", "ids", "timer"] ["self", "ids"] (defScope s_Timers_end_owners) := ⟨rfl, rfl, rfl, by decide +kernel, rfl, by decide +kernel, by decide +kernel⟩
theorem ok_endown (T : Txt K w mg C) : Met P w K mg base 1 C.Timers "end_owners" (spEndOwn C.Timer C.Timers) := by
  refine met_of T.m_Timers_end_owners T.cl_Timers sc_Timers_end_owners (fun vs H Q E h => ?_) (fun f cdv A outer s H vs Q E hr h => ?_)
  · obtain ⟨G, a, l, i, L, n, ids, rfl, _⟩ := h
    rfl
  · obtain ⟨G, a, l, ia, L, n, ids, rfl, S, hids, hl, k⟩ := h
    obtain ⟨dx, h1⟩ := S.ob
    refine ⟨_, (pss_one (ps_fld (pv 0) (pe_lc (own := [("timer", 2)]) (g := gName 2) (tt := _) rfl sc_Timers_end_owners.nd (pi_list (pe_fld (pv 0) rfl)) (blkOk_by (N := ["self", "ids", "timer"]) (sc := (defScope s_Timers_end_owners)) (by decide +kernel)) (fun _ _ _ _ _ => pg_name (i := 2) sc_Timers_end_owners.nd rfl (Or.inl rfl)) (fun _ _ _ _ _ => pts_one (pt_cmpR (op_notIn_seqS (K := K) rfl) (pe_fldS (K := K) rfl (pv 2) rfl) (pv 1) rfl)) (fun _ _ _ _ _ => (pv 2))) rfl)), ?_⟩
    refine ⟨_, rfl, a, _, dx, _, _, rfl, h1, T.cl_Timers, T.n_Timers_running, fsS_running l n, l, rfl, ⟨_, SqL.of S.ls⟩, fun D hD => ?_⟩
    have Da : D ≠ a := (ne_of_none h1 hD).symm
    refine lc_it (walk_list (K := K) (a := l) (xs := L.map fun e => V.ref e.1)) (fun i H' => Same H H' ∧ H' D = some (.lst (((L.take i).filter fun e => !decide (e.2.own ∈ ids)).map fun e => V.ref e.1))) ⟨Same.new hD, upd_same⟩ (fun i H' _ z => SqL.of (z.1 _ _ S.ls)) ?_ ?_
    · rintro i y H1 H2 hi ⟨s1, hd⟩ ⟨rfl, hx⟩
      have hi' : i < L.length := by rw [List.length_map] at hi; exact hi
      have ex : y = .ref L[i].1 := by
        rw [List.getElem?_map, List.getElem?_eq_getElem hi'] at hx
        exact (Option.some.inj hx).symm
      subst ex
      have tm := S.tm L[i] (List.getElem_mem hi')
      have et := take_filter (L := L) (p := fun e => !decide (e.2.own ∈ ids)) (f := fun e => V.ref e.1) hi'
      refine ⟨rfl, ?_⟩
      obtain ⟨dy, p, h2, h3⟩ := tm
      refine ⟨_, rfl, L[i].1, _, dy, _, _, rfl, s1 _ _ h2, T.cl_Timer, T.n_Timer_owner, fsT_owner _ p, _, rfl, ?_⟩
      have e0 : (if true = true then !inV (.int L[i].2.own) (ids.map V.int) else inV (.int L[i].2.own) (ids.map V.int)) = !decide (L[i].2.own ∈ ids) := by
        show (!inV (.int L[i].2.own) (ids.map V.int)) = _
        rw [inV_i]
      refine ⟨ia, _, rfl, .inl (SqL.of (s1 _ _ hids)), rfl, flat_i ids, _, rfl, ?_⟩
      rw [e0]
      refine ite2 (fun q => ?_) (fun q => ?_)
      · rw [if_pos q] at et
        refine ⟨_, rfl, _, hd, ?_, ?_⟩
        · rw [List.length_map]
          have h1 := List.length_filter_le (fun e : Addr × Tm => !decide (e.2.own ∈ ids)) (L.take i)
          have h2 := List.length_take_le i L
          exact small1000 (by omega)
        · refine ⟨fun c o e => ?_, ?_⟩
          · rw [upd_ne (ne_of_none e hD)]
            exact s1 _ _ e
          · rw [upd_same, et]
      · rw [if_neg q, List.append_nil] at et
        exact ⟨s1, by rw [hd, et]⟩
    · rintro H1 ⟨s1, hd⟩
      rw [List.length_map, List.take_length] at hd
      refine ⟨_, rfl, a, _, dx, _, rfl, s1 _ _ h1, T.cl_Timers, T.n_Timers_running, (by show 2 < 1000; decide), ?_⟩
      rw [putS_run]
      exact k D _ hD (S.filt s1 hD hd) fun b o e nb => by rw [upd_ne nb]; exact s1 _ _ e
theorem sc_Timers_clear : FnScope ["self"] ["self"] (defScope s_Timers_clear) := ⟨rfl, rfl, rfl, by decide +kernel, rfl, by decide +kernel, by decide +kernel⟩
theorem ok_clear (T : Txt K w mg C) : Met P w K mg base 1 C.Timers "clear" (spClear C.Timer C.Timers) := by
  refine met_of T.m_Timers_clear T.cl_Timers sc_Timers_clear (fun vs H Q E h => ?_) (fun f cdv A outer s H vs Q E hr h => ?_)
  · obtain ⟨G, a, l, L, n, rfl, _⟩ := h
    rfl
  · obtain ⟨G, a, l, L, n, rfl, S, k⟩ := h
    obtain ⟨dx, h1⟩ := S.ob
    refine ⟨_, (pss_one (ps_fld (pv 0) (pe_lst pa_nil) rfl)), ?_⟩
    refine ⟨by show 0 ≤ sizeLine; decide, fun D hD => ?_⟩
    refine ⟨_, rfl, a, _, dx, _, rfl, Same.new hD _ _ h1, T.cl_Timers, T.n_Timers_running, (by show 2 < 1000; decide), ?_⟩
    rw [putS_run]
    have ef : (L.filter fun _ => false) = [] := List.filter_eq_nil_iff.mpr fun e _ z => by cases z
    have S2 := S.filt (p := fun _ => false) (dx := dx) (Same.new (o := .lst []) hD) hD (by rw [ef]; exact upd_same)
    rw [ef] at S2
    exact k D _ hD S2 fun b o e nb => by rw [upd_ne nb, upd_ne (ne_of_none e hD)]; exact e
end
end N5
end VL

set_option Elab.async false
set_option linter.all false
set_option maxRecDepth 100000
set_option maxHeartbeats 4000000
namespace VL
namespace N5
open PySem PySem.Spec PyProof.Rows L2
/-! ### the rows -/
def rwK (t : Tm) (e b : Addr) : List (Key × V) := [(.inr "owner", .int t.own), (.inr "lane", .int t.lane), (.inr "env", .ref e), (.inr "block", .ref b), (.inr "run", .int t.run), (.inr "due", .int t.due), (.inr "period", .int t.per), (.inr "number", .int t.num)]
/-- a row stands at r; its environment and its block stand in G -/
def RwA (G H : Hp) (r : Addr) (t : Tm) : Prop := ∃ e b q, H r = some (.dK (rwK t e b)) ∧ G e = some (.dK (eX t.env)) ∧ G b = some (.lst [.ref q]) ∧ G q = some (.tup [.str "stop"])
theorem dgK {H : Hp} {a : Addr} {kvs : List (Key × V)} {k : Key} (e : H a = some (.dK kvs)) : DGet H a (kV k) (valV kvs k) := .inl ⟨kvs, k, .inl e, rfl, rfl⟩
def tri (t : Tm) : SI3.Trip := (t.due, t.num, t.per)
def Tr3 (H : Hp) (p : Addr) (r : SI3.Trip) : Prop := H p = some (.tup [.int r.1, .int r.2.1, .int r.2.2])
def kpI (H : Hp) (v : V) : SI3.Trip := match v with
  | .ref t => match H t with | some (.tup [.int i, .int j, .int b]) => (i, j, b) | _ => (0, 0, 0)
  | _ => (0, 0, 0)
theorem kpI_at {H : Hp} {t : Addr} {r : SI3.Trip} (h : Tr3 H t r) : kpI H (.ref t) = r := by
  show (match H t with | some (.tup [.int i, .int j, .int b]) => ((i, j, b) : SI3.Trip) | _ => (0, 0, 0)) = r
  rw [show H t = _ from h]
theorem kpI_all {H : Hp} : ∀ {ts : List Addr} {R : List SI3.Trip}, Paired (Tr3 H) ts R → (ts.map V.ref).map (kpI H) = R ∧ ∀ y ∈ ts.map V.ref, ∃ t, y = .ref t ∧ Tr3 H t (kpI H y)
  | _, _, .nil => ⟨rfl, fun y hy => by cases hy⟩
  | t :: ts, r :: R, .cons h hh => by
    obtain ⟨e1, e2⟩ := kpI_all hh
    refine ⟨?_, fun y hy => ?_⟩
    · show kpI H (.ref t) :: (ts.map V.ref).map (kpI H) = r :: R
      rw [e1, kpI_at h]
    · rcases List.mem_cons.mp hy with rfl | hy
      · exact ⟨t, rfl, by rw [kpI_at h]; exact h⟩
      · exact e2 y hy
theorem kpI_back {H : Hp} : ∀ {ys : List V}, (∀ y ∈ ys, ∃ t, y = .ref t ∧ Tr3 H t (kpI H y)) → ∃ ts : List Addr, ys = ts.map V.ref ∧ Paired (Tr3 H) ts (ys.map (kpI H))
  | [], _ => ⟨[], rfl, .nil⟩
  | y :: ys, h => by
    obtain ⟨ts, e, pr⟩ := kpI_back fun z hz => h z (List.mem_cons_of_mem _ hz)
    obtain ⟨t, e1, e2⟩ := h y List.mem_cons_self
    exact ⟨t :: ts, by rw [e1, e]; rfl, .cons e2 pr⟩
theorem tri_sorted {H : Hp} {ts : List Addr} {R : List SI3.Trip} {ys : List V} (pr : Paired (Tr3 H) ts R) (hp : ys.Perm (ts.map V.ref)) (hs : SrtO.Srtd (ltVI (kpI H)) ys) :
    ∃ ts', ys = ts'.map V.ref ∧ Paired (Tr3 H) ts' (ys.map (kpI H)) ∧ (ys.map (kpI H)).Perm R ∧ (ys.map (kpI H)).Pairwise fun x y => SI3.ltT y x = false := by
  obtain ⟨e1, e2⟩ := kpI_all pr
  obtain ⟨ts', e, pr'⟩ := kpI_back fun y hy => e2 y (hp.mem_iff.mp hy)
  exact ⟨ts', e, pr', by rw [← e1]; exact hp.map _, List.Pairwise.map _ (fun _ _ h => h) hs⟩
/-- _law_told(rows): the rows' triples, sorted -/
def spTri : Sp := fun vs H Q _ => ∃ (G : Hp) (ra : Addr) (M : Tl), vs = [.ref ra] ∧ H ra = some (.lst (M.map fun e => V.ref e.1)) ∧ (∀ e ∈ M, RwA G H e.1 e.2) ∧ M.length ≤ 20 ∧
  ∀ r (ps : List Addr) D H', Same H H' → H r = none → H' r = some (.lst (ps.map V.ref)) → Paired (Tr3 H') ps D → D.Perm (M.map fun e => tri e.2) → (D.Pairwise fun x y => SI3.ltT y x = false) → Q (.ref r) H'
section
variable {P : Program} {w : World} {K : PySem.W.Frag} {mg : Str → Option Value} {base : Heap} {C : Ad}
theorem sc__law_is_integer : FnScope ["told"] ["told"] (defScope s__law_is_integer) := ⟨rfl, rfl, rfl, by decide +kernel, rfl, by decide +kernel, by decide +kernel⟩
theorem ok_isnum (T : Txt K w mg C) : Cal P w K mg base 1 "_law_is_integer" spIsInt := by
  refine cal_of T.d__law_is_integer sc__law_is_integer (fun vs H Q E h => ?_) (fun f cdv A outer s H vs Q E hr h => ?_)
  · obtain ⟨i, rfl, _⟩ := h
    rfl
  · obtain ⟨i, rfl, k⟩ := h
    refine ⟨_, (pss_one (ps_ret (pe_and (pe_callB call_isi (by rfl) T.z_isinstance (by decide +kernel) (pa_cons (pv 0) (pa_cons (pe_bltn (v := .ty "int") (by rfl) T.z_int (by decide +kernel) rfl) pa_nil))) (pe_one (pe_not (pe_callB call_isi (by rfl) T.z_isinstance (by decide +kernel) (pa_cons (pv 0) (pa_cons (pe_bltn (v := .ty "bool") (by rfl) T.z_bool (by decide +kernel) rfl) pa_nil)))))))), ?_⟩
    refine ⟨_, rfl, .int i, .ty "int", _, _, true, rfl, .ty _, ty_int, kit_ty (by decide +kernel), true, rfl, iteT ?_⟩
    exact ⟨_, rfl, .int i, .ty "bool", _, _, false, rfl, .ty _, ty_int, kit_ty (by decide +kernel), false, rfl, k⟩
theorem sc__law_told : FnScope ["rows", "row"] ["rows"] (defScope s__law_told) := ⟨rfl, rfl, rfl, by decide +kernel, rfl, by decide +kernel, by decide +kernel⟩
theorem ok_tri (T : Txt K w mg C) : Cal P w K mg base 1 "_law_told" spTri := by
  refine cal_of T.d__law_told sc__law_told (fun vs H Q E h => ?_) (fun f cdv A outer s H vs Q E hr h => ?_)
  · obtain ⟨G, ra, M, rfl, _⟩ := h
    rfl
  · obtain ⟨G, ra, M, rfl, hra, hM, hl, k⟩ := h
    have hu := hu_of hr
    refine ⟨_, (pss_one (ps_ret (pe_callB cr_sortedI (by rfl) T.z_sorted (by decide +kernel) (pa_cons (pe_lc (own := [("row", 1)]) (g := gName 1) (tt := tYes) rfl sc__law_told.nd (pi_list (pv 0)) (blkOk_by (N := ["rows", "row"]) (sc := (defScope s__law_told)) (by decide +kernel)) (fun _ _ _ _ _ => pg_name (i := 1) sc__law_told.nd rfl (Or.inl rfl)) (fun _ _ _ _ _ => pts_nil) (fun _ _ _ _ _ => (pe_tup (pa_cons (pe_dget hu (pv 1) pe_str (fun _ _ => rfl)) (pa_cons (pe_dget hu (pv 1) pe_str (fun _ _ => rfl)) (pa_cons (pe_dget hu (pv 1) pe_str (fun _ _ => rfl)) pa_nil)))))) pa_nil)))), ?_⟩
    refine ⟨_, rfl, ra, rfl, ⟨_, SqL.of hra⟩, fun D hD => ?_⟩
    refine lc_it (walk_list (K := K) (a := ra) (xs := M.map fun e => V.ref e.1)) (fun i H' => ∃ ps : List Addr, Same H H' ∧ H' D = some (.lst (ps.map V.ref)) ∧ ps.length = i ∧ Paired (Tr3 H') ps ((M.take i).map fun e => tri e.2)) ?_ ?_ ?_ ?_
    · exact ⟨[], Same.new hD, upd_same, rfl, .nil⟩
    · rintro i H' hi ⟨ps, s1, _, _, _⟩
      exact SqL.of (s1 _ _ hra)
    · rintro i x H1 H2 hi ⟨ps, s1, hd, pl, pr⟩ ⟨rfl, hx⟩
      have hi' : i < M.length := by rw [List.length_map] at hi; exact hi
      have ex : x = .ref M[i].1 := by
        rw [List.getElem?_map, List.getElem?_eq_getElem hi'] at hx
        exact (Option.some.inj hx).symm
      subst ex
      obtain ⟨e1, b, q, h2, h3⟩ := hM M[i] (List.getElem_mem hi')
      have h2' := s1 _ _ h2
      refine ⟨rfl, ?_⟩
      refine ⟨_, rfl, M[i].1, .int M[i].2.due, rfl, dgK (k := .inr "due") h2', ?_⟩
      refine ⟨_, rfl, M[i].1, .int M[i].2.num, rfl, dgK (k := .inr "number") h2', ?_⟩
      refine ⟨_, rfl, M[i].1, .int M[i].2.per, rfl, dgK (k := .inr "period") h2', ?_⟩
      refine ⟨by show 3 ≤ sizeLine; decide, fun t ht => ?_⟩
      have tD : D ≠ t := ne_of_none hd ht
      refine ⟨_, by rw [upd_ne tD]; exact hd, ?_, ?_⟩
      · rw [List.length_map, pl]
        exact small1000 (by omega)
      · refine ⟨ps ++ [t], ?_, ?_, by rw [List.length_append, pl]; rfl, ?_⟩
        · intro c o e
          rw [upd_ne (ne_of_none e hD), upd_ne (ne_of_none (s1 _ _ e) ht)]
          exact s1 _ _ e
        · rw [upd_same, List.map_append]
          rfl
        · have e2 : (M.take (i + 1)).map (fun e => tri e.2) = (M.take i).map (fun e => tri e.2) ++ [tri M[i].2] := by
            rw [List.take_add_one, List.getElem?_eq_getElem hi', List.map_append]
            rfl
          rw [e2]
          refine paired_snocT ?_ (L2.Paired.mapP pr fun c q z => ?_)
          · show upd _ D _ t = _
            rw [upd_ne tD.symm, upd_same]
            rfl
          · show upd _ D _ c = _
            rw [upd_ne (ne_of z hd (by intro e; cases e)), upd_ne (ne_of_none z ht)]
            exact z
    · rintro H1 ⟨ps, s1, hd, pl, pr⟩
      rw [List.length_map, List.take_length] at pr
      obtain ⟨c1, c2⟩ := kpI_all pr
      refine ⟨D, _, kpI H1, rfl, SqL.of hd, fun y hy => c2 y hy, fun ys p hs hp hn => ?_⟩
      obtain ⟨ts', e, pr', pm, srt⟩ := tri_sorted pr hp hs
      have pn : H p = none := by
        cases z : H p with
        | none => rfl
        | some o => rw [s1 _ _ z] at hn; cases hn
      refine k p ts' _ _ (fun c o z => by rw [upd_ne (ne_of_none (s1 _ _ z) hn)]; exact s1 _ _ z) pn (by rw [upd_same, e]) (L2.Paired.mapP pr' fun c q z => ?_) pm srt
      show upd _ p _ c = _
      rw [upd_ne (ne_of_none z hn)]
      exact z
end
end N5
end VL

set_option Elab.async false
set_option linter.all false
set_option maxRecDepth 100000
set_option maxHeartbeats 4000000
namespace VL
open PySem PySem.Spec PyProof.Rows L2
section
variable {X : Cx} {k j : Nat} {C : Addr} {sp : Sp}
/-- len(o), o of an own class -/
theorem call_lenM (c : Met X.prog X.w X.K X.mg X.base k C "__len__" sp) (hr : Room j X.A) (hk : k + 1 ≤ j) : CallR X (.builtin "len") (rLenOwn C sp E0) := by
  obtain ⟨f, fd, ps, hc, hm, F, b⟩ := c.ex
  exact call_len_own hm.1 hm.2 F (hr.mono hk) b pass0
end
end VL

set_option Elab.async false
set_option linter.all false
set_option maxRecDepth 100000
set_option maxHeartbeats 4000000
namespace VL
namespace N5
open PySem PySem.Spec PyProof.Rows L2
theorem tri_eq {L M : Tl} {D : List SI3.Trip} (srt : SrtT L) (pm : (L.map (·.2)).Perm (M.map (·.2))) (pd : D.Perm (M.map fun e => tri e.2)) (sd : D.Pairwise fun x y => SI3.ltT y x = false) : D = L.map fun e => tri e.2 := by
  have p2 : D.Perm (L.map fun e => tri e.2) := pd.trans (by have := pm.symm.map tri; rw [List.map_map, List.map_map] at this; exact this)
  have sl : (L.map fun e => tri e.2).Pairwise fun x y => SI3.ltT x y = true := by
    rw [List.pairwise_map]
    exact srt.imp fun {e f} h => SI3.ltT_iff.mpr (by have := ltm_iff.mp h; unfold tri; dsimp only; omega)
  have irr : ∀ x : SI3.Trip, ¬ SI3.ltT x x = true := fun x h => by have := SI3.ltT_iff.mp h; omega
  have nd : D.Nodup := p2.nodup_iff.mpr (sl.imp fun {x y} h e => by subst e; exact irr _ h)
  have sd2 : D.Pairwise fun x y => SI3.ltT x y = true := (sd.and nd).imp fun {x y} h => by
    have h1 := SI3.ltT_no.mp h.1
    have h2 : x ≠ y := h.2
    have h3 : ¬ (x.1 = y.1 ∧ x.2.1 = y.2.1 ∧ x.2.2 = y.2.2) := fun z => h2 (Prod.ext z.1 (Prod.ext z.2.1 z.2.2))
    refine SI3.ltT_iff.mpr ?_
    omega
  exact eq_of_strict (lt := fun x y => SI3.ltT x y = true) irr (fun x y h k => by have := SI3.ltT_iff.mp h; have := SI3.ltT_iff.mp k; omega) sd2 sl fun x => p2.mem_iff
def dTr (L : Tl) : List PyData := L.map fun e => .tuple [.int e.2.num, .int e.2.due, .int e.2.per]
theorem dp_tr {K : PySem.W.Frag} {H : Hp} : ∀ {ts : List Addr} {L : Tl}, Paired (fun p (e : Addr × Tm) => H p = some (.tup [.int e.2.num, .int e.2.due, .int e.2.per])) ts L → DpAll K H (ts.map V.ref) (dTr L)
  | _, _, .nil => .nil
  | _, _, .cons r rr => .cons (.tup (SqT.of r) (.cons (.int _) (.cons (.int _) (.cons (.int _) .nil)))) (dp_tr rr)
theorem shaped_tr (E : Tl) : SeqAt.shaped (.list (dTr E)) = true := by
  have h1 : PyData.canLayAll0 (dTr E) = true := by
    induction E with
    | nil => rfl
    | cons e E ih =>
      show PyData.canLayAll0 (.tuple [.int e.2.num, .int e.2.due, .int e.2.per] :: dTr E) = true
      simp [PyData.canLayAll0, PyData.canLay0, ih]
  have h2 : PyData.depthAll (dTr E) ≤ 2 := by
    clear h1
    induction E with
    | nil => decide
    | cons e E ih =>
      show PyData.depthAll (.tuple [.int e.2.num, .int e.2.due, .int e.2.per] :: dTr E) ≤ 2
      simp [PyData.depthAll, PyData.depth]
      omega
  unfold SeqAt.shaped
  rw [Bool.and_eq_true]
  refine ⟨by simpa [PyData.canLay0] using h1, decide_eq_true ?_⟩
  show PyData.depth (.list (dTr E)) ≤ 64
  simp [PyData.depth]
  omega
def spShows (CT CS : Addr) : Sp := fun vs H Q _ => ∃ (G : Hp) (a l ra : Addr) (L M : Tl) (n : Int), vs = [.ref a, .ref ra] ∧ TsA CT CS G H a l L n ∧ H ra = some (.lst (M.map fun e => V.ref e.1)) ∧ (∀ e ∈ M, RwA G H e.1 e.2) ∧ L.length ≤ 20 ∧ SrtT L ∧ (L.map (·.2)).Perm (M.map (·.2)) ∧ ∀ H', Same H H' → Q (.bl true) H'
section
variable {P : Program} {w : World} {K : PySem.W.Frag} {mg : Str → Option Value} {base : Heap} {C : Ad}
theorem sc__law_shows : FnScope ["timers", "rows", "due", "tick", "number", "period"] ["timers", "rows"] (defScope s__law_shows) := ⟨rfl, rfl, rfl, by decide +kernel, rfl, by decide +kernel, by decide +kernel⟩
theorem ok_shows (T : Txt K w mg C) : Cal P w K mg base 3 "_law_shows" (spShows C.Timer C.Timers) := by
  have G_law_told : Cal P w K mg base 1 "_law_told" spTri := ok_tri T
  have G_law_is_integer : Cal P w K mg base 1 "_law_is_integer" spIsInt := ok_isnum T
  have Ptold : Pro P w K mg base 1 C.Timers "told" (spTold C.Timer C.Timers) := ok_told T
  have Mlen : Met P w K mg base 1 C.Timers "__len__" (spLen C.Timer C.Timers) := ok_len T
  have Mnext_due : Met P w K mg base 1 C.Timers "next_due" (spNext C.Timer C.Timers) := ok_tnext T
  refine cal_of T.d__law_shows sc__law_shows (fun vs H Q E h => ?_) (fun f cdv A outer s H vs Q E hr h => ?_)
  · obtain ⟨G, a, l, ra, L, M, n, rfl, _⟩ := h
    rfl
  · obtain ⟨G, a, l, ra, L, M, n, rfl, S, hra, hM, hl, srt, pm, k⟩ := h
    have lM : L.length = M.length := by have := pm.length_eq; rwa [List.length_map, List.length_map] at this
    refine ⟨_, (pss_cons (ps_setLc (i := 2) (own := [("tick", 3), ("number", 4), ("period", 5)]) (g := gTup K 3 (gCons (gName 3) (gCons (gName 4) (gCons (gName 5) (gNil))))) (tt := tYes) rfl sc__law_shows.nd rfl rfl (sw_true rfl rfl rfl (by decide +kernel)) (pi_list (pe_c G_law_told hr (by decide) (by rfl) (pa_cons (pv 1) pa_nil))) (blkOk_by (N := ["timers", "rows", "due", "tick", "number", "period"]) (sc := (defScope s__law_shows)) (by decide +kernel)) (fun _ _ _ _ _ => pg_tupS (K := K) rfl rfl (pgs_cons (pg_name (i := 3) sc__law_shows.nd rfl (Or.inl rfl)) (pgs_cons (pg_name (i := 4) sc__law_shows.nd rfl (Or.inl rfl)) (pgs_cons (pg_name (i := 5) sc__law_shows.nd rfl (Or.inl rfl)) pgs_nil)))) (fun _ _ _ _ _ => pts_nil) (fun _ _ _ _ _ => (pe_tup (pa_cons (pv 4) (pa_cons (pv 3) (pa_cons (pv 5) pa_nil)))))) (pss_cons (ps_if (PW.pt (pw_or (pt_cmpR (op_neD hr.units) (pe_pr Ptold hr (by decide) (pv 0)) (pv 2) (nomark _)) (pw_or1 (pt_cmpR op_ne (pe_callB (call_lenM Mlen hr (by decide)) (by rfl) T.z_len PySem.boot_len (pa_cons (pv 0) pa_nil)) (pe_callB call_len_seq (by rfl) T.z_len PySem.boot_len (pa_cons (pv 1) pa_nil)) (nomark _))))) (pss_one (ps_ret pe_bl)) pss_nil) (pss_cons (ps_if (pt_cmpR op_eq (pe_callB call_len_seq (by rfl) T.z_len PySem.boot_len (pa_cons (pv 1) pa_nil)) pe_int (nomark _)) (pss_one (ps_ret (pe_cmp (pc_isN (pe_mt0 Mnext_due hr (by decide) (pv 0)))))) pss_nil) (pss_one (ps_ret (pe_and (pe_c G_law_is_integer hr (by decide) (by rfl) (pa_cons (pe_mt0 Mnext_due hr (by decide) (pv 0)) pa_nil)) (pe_one (pe_cmpR op_eq (pe_mt0 Mnext_due hr (by decide) (pv 0)) (pe_ix ix_tup (pe_ix ix_list (pv 2) pe_int (fun _ _ => rfl)) pe_int (fun _ _ => rfl)) (nomark _))))))))), ?_⟩
    refine ⟨_, rfl, G, ra, M, rfl, hra, hM, by omega, fun r ps D H1 s1 nr hr1 pr pd sd => ?_⟩
    have eD := tri_eq srt pm pd sd
    subst eD
    have pl : ps.length = L.length := by have := pairedT_len pr; rwa [List.length_map] at this
    refine ⟨r, rfl, ⟨_, SqL.of hr1⟩, fun D hD => ?_⟩
    refine lc_it (walk_list (K := K) (a := r) (xs := ps.map V.ref)) (fun i H' => ∃ us : List Addr, Same H1 H' ∧ H' D = some (.lst (us.map V.ref)) ∧ us.length = i ∧ Paired (fun p (e : Addr × Tm) => H' p = some (.tup [.int e.2.num, .int e.2.due, .int e.2.per])) us (L.take i)) ?_ ?_ ?_ ?_
    · exact ⟨[], Same.new hD, upd_same, rfl, .nil⟩
    · rintro i H' hi ⟨us, s2, _, _, _⟩
      exact SqL.of (s2 _ _ hr1)
    · rintro i x H2 H3 hi ⟨us, s2, hd, ul, pu⟩ ⟨rfl, hx⟩
      have hi' : i < ps.length := by rw [List.length_map] at hi; exact hi
      have hiL : i < L.length := by omega
      have ex : x = .ref ps[i] := by
        rw [List.getElem?_map, List.getElem?_eq_getElem hi'] at hx
        exact (Option.some.inj hx).symm
      subst ex
      obtain ⟨_, g⟩ := pairedT_get pr i hi'
      rw [List.getElem_map] at g
      have g7 : H3 ps[i] = some (.tup [.int L[i].2.due, .int L[i].2.num, .int L[i].2.per]) := s2 _ _ g
      refine ⟨_, _, rfl, SqT.of g7, rfl, _, _, rfl, _, _, rfl, _, _, rfl, rfl, rfl, ?_⟩
      refine ⟨_, rfl, _, rfl, _, rfl, by show 3 ≤ sizeLine; decide, fun t ht => ?_⟩
      have tD : D ≠ t := ne_of_none hd ht
      refine ⟨_, by rw [upd_ne tD]; exact hd, ?_, ?_⟩
      · rw [List.length_map, ul]
        exact small1000 (by omega)
      · refine ⟨us ++ [t], ?_, ?_, by rw [List.length_append, ul]; rfl, ?_⟩
        · intro c o e
          rw [upd_ne (ne_of_none e hD), upd_ne (ne_of_none (s2 _ _ e) ht)]
          exact s2 _ _ e
        · rw [upd_same, List.map_append]
          rfl
        · have e2 : L.take (i + 1) = L.take i ++ [L[i]] := by
            rw [List.take_add_one, List.getElem?_eq_getElem hiL]
            rfl
          rw [e2]
          refine paired_snocT ?_ (L2.Paired.mapP pu fun c q z => ?_)
          · rw [upd_ne tD.symm, upd_same]
          · rw [upd_ne (ne_of z hd (by intro e; cases e)), upd_ne (ne_of_none z ht)]
            exact z
    · rintro H2 ⟨us, s2, hd, ul, pu⟩
      rw [List.length_map, pl, List.take_length] at pu
      have s12 : Same H H2 := fun c o e => s2 _ _ (s1 _ _ e)
      have S2 := S.mono s12
      obtain ⟨dx, h1⟩ := S2.ob
      refine ⟨_, rfl, a, dx, _, rfl, h1, G, a, l, L, n, rfl, S2, hl, fun r2 ps2 H3 s3 nr2 hr2 pr2 => ?_⟩
      have S3 := S2.mono s3
      have h13 := s3 _ _ h1
      have hra3 := s3 _ _ (s12 _ _ hra)
      have hd3 := s3 _ _ hd
      have pu3 := L2.Paired.mapP pu fun c q z => s3 _ _ z
      have e0 : (!PyData.eqv (.list (dTr L)) (.list (dTr L))) = false := by rw [eqv_selfT (shaped_tr L)]; rfl
      refine ⟨_, rfl, _, _, .lst (SqL.of hr2) (dp_tr pr2), .lst (SqL.of hd3) (dp_tr pu3), shaped_tr _, shaped_tr _, _, rfl, ?_⟩
      rw [e0]
      refine iteF ?_
      refine ⟨_, rfl, a, dx, _, rfl, h13, G, a, l, L, n, rfl, S3, _, rfl, by omega, by omega, ?_⟩
      refine ⟨_, rfl, ra, _, rfl, .inl (SqL.of hra3), rfl, _, rfl, ?_⟩
      have e1 : (!decide (V.int (L.length : Int) = V.int ((M.map fun e => V.ref e.1).length : Int))) = false := by rw [List.length_map, lM]; simp
      rw [e1]
      refine iteF ?_
      refine ⟨_, rfl, ra, _, rfl, .inl (SqL.of hra3), rfl, _, rfl, ?_⟩
      have sall : Same H H3 := fun c o e => s3 _ _ (s12 _ _ e)
      refine ite2 (fun q => ?_) (fun q => ?_)
      · have q' := of_decide_eq_true q
        have eL : L = [] := by
          injection q' with q'
          rw [List.length_map] at q'
          exact List.length_eq_zero_iff.mp (by omega)
        refine ⟨_, rfl, a, dx, _, rfl, h13, rfl, G, a, l, L, n, rfl, S3, fun _ => ?_, fun e L' z => by rw [eL] at z; cases z⟩
        exact k _ sall
      · obtain ⟨e, L', rfl⟩ : ∃ e L', L = e :: L' := by
          cases L with
          | nil =>
            exfalso
            refine q (decide_eq_true ?_)
            rw [List.length_map, ← lM]
            rfl
          | cons e L' => exact ⟨e, L', rfl⟩
        obtain ⟨u0, us', rfl⟩ : ∃ u0 us', us = u0 :: us' := by cases us with
          | nil => cases pu3
          | cons u0 us' => exact ⟨u0, us', rfl⟩
        have g0 : H3 u0 = some (.tup [.int e.2.num, .int e.2.due, .int e.2.per]) := by cases pu3 with | cons r _ => exact r
        refine ⟨_, rfl, a, dx, _, rfl, h13, rfl, G, a, l, _, n, rfl, S3, fun z => by (cases z), fun e1 L1 z => ?_⟩
        cases z
        refine ⟨e.2.due, rfl, true, rfl, iteT ?_⟩
        refine ⟨_, rfl, a, dx, _, rfl, h13, rfl, G, a, l, _, n, rfl, S3, fun z => by (cases z), fun e1 L1 z => ?_⟩
        cases z
        refine ⟨_, rfl, D, _, 0, .ref u0, rfl, rfl, SqL.of hd3, at0, u0, _, 1, _, rfl, rfl, SqT.of g0, rfl, rfl, ?_⟩
        show Q (V.bl (decide (V.int e.2.due = V.int e.2.due))) H3
        rw [decide_eq_true rfl]
        exact k _ sall
end
end N5
end VL

set_option Elab.async false
set_option linter.all false
set_option maxRecDepth 100000
set_option maxHeartbeats 4000000
namespace VL
namespace N5
open PySem PySem.Spec PyProof.Rows L2
/-- what the law has: timers at a (their list at l), rows at ra, counts at cs, the state of drawing at st; G stays -/
structure Wd (CT CS : Addr) (G H : Hp) (a l ra cs st : Addr) (L M : Tl) (n : Nat) : Prop where
  ts : TsA CT CS G H a l L (n : Int)
  hr : H ra = some (.lst (M.map fun e => V.ref e.1))
  rw_ : ∀ e ∈ M, RwA G H e.1 e.2
  nd : (M.map (·.1)).Nodup
  hc : ∃ zs : List V, H cs = some (.lst zs) ∧ zs.length = n
  sa : StA H st
  gr : G ra = none
  gc : G cs = none
  gs : G st = none
  gm : ∀ e ∈ M, G e.1 = none
  lr : l ≠ ra
  lc : l ≠ cs
  ls : l ≠ st
  rc : ra ≠ cs
  rs : ra ≠ st
  ct : cs ≠ st
  len : M.length ≤ 20
  srt : SrtT L
  pm : (L.map (·.2)).Perm (M.map (·.2))
  nu : M.Pairwise fun e f => e.2.num < f.2.num
  le : ∀ e ∈ M, 1 ≤ e.2.num ∧ e.2.num ≤ (n : Int)
  pe : ∀ e ∈ M, 0 ≤ e.2.per
section
variable {CT CS : Addr} {G H H' : Hp} {a l ra cs st : Addr} {L M : Tl} {n : Nat}
theorem Wd.lenL (W : Wd CT CS G H a l ra cs st L M n) : L.length = M.length := by
  have := W.pm.length_eq
  rwa [List.length_map, List.length_map] at this
theorem Wd.new (W : Wd CT CS G H a l ra cs st L M n) (s : Same H H') : Wd CT CS G H' a l ra cs st L M n where
  ts := W.ts.mono s
  hr := s _ _ W.hr
  rw_ := fun e he => by
    obtain ⟨x, b, q, h1, h2⟩ := W.rw_ e he
    exact ⟨x, b, q, s _ _ h1, h2⟩
  nd := W.nd
  hc := by
    obtain ⟨zs, h, e⟩ := W.hc
    exact ⟨zs, s _ _ h, e⟩
  sa := W.sa.same s
  gr := W.gr
  gc := W.gc
  gs := W.gs
  gm := W.gm
  lr := W.lr
  lc := W.lc
  ls := W.ls
  rc := W.rc
  rs := W.rs
  ct := W.ct
  len := W.len
  srt := W.srt
  pm := W.pm
  nu := W.nu
  le := W.le
  pe := W.pe
/-- a draw: the state alone changes -/
theorem Wd.digit (W : Wd CT CS G H a l ra cs st L M n) (k : Kp st H H') (s : StA H' st) : Wd CT CS G H' a l ra cs st L M n where
  ts := by
    obtain ⟨z, hz, _⟩ := W.sa
    refine W.ts.other k W.gs ?_ W.ls fun e he => ?_
    · obtain ⟨dx, h⟩ := W.ts.ob
      exact ne_of h hz (by intro e; cases e)
    · obtain ⟨dx, p, h, _⟩ := W.ts.tm e he
      exact ne_of h hz (by intro e; cases e)
  hr := k _ _ W.hr W.rs
  rw_ := fun e he => by
    obtain ⟨z, hz, _⟩ := W.sa
    obtain ⟨x, b, q, h1, h2⟩ := W.rw_ e he
    exact ⟨x, b, q, k _ _ h1 (ne_of h1 hz (by intro e; cases e)), h2⟩
  nd := W.nd
  hc := by
    obtain ⟨zs, h, e⟩ := W.hc
    exact ⟨zs, k _ _ h W.ct, e⟩
  sa := s
  gr := W.gr
  gc := W.gc
  gs := W.gs
  gm := W.gm
  lr := W.lr
  lc := W.lc
  ls := W.ls
  rc := W.rc
  rs := W.rs
  ct := W.ct
  len := W.len
  srt := W.srt
  pm := W.pm
  nu := W.nu
  le := W.le
  pe := W.pe
/-- all is ended: new lists of what stays -/
theorem filter_perm {α : Type} {p : α → Bool} : ∀ {x y : List (Addr × α)}, (x.map (·.2)).Perm (y.map (·.2)) → ((x.filter fun e => p e.2).map (·.2)).Perm ((y.filter fun e => p e.2).map (·.2)) := by
  intro x y h
  have e : ∀ z : List (Addr × α), (z.filter fun e => p e.2).map (·.2) = (z.map (·.2)).filter p := fun z => by
    rw [List.filter_map]
    rfl
  rw [e, e]
  exact h.filter p
theorem Wd.keep (W : Wd CT CS G H a l ra cs st L M n) {l' r' : Addr} {p : Tm → Bool} (ts : TsA CT CS G H' a l' (L.filter fun e => p e.2) (n : Int)) (hr : H' r' = some (.lst ((M.filter fun e => p e.2).map fun e => V.ref e.1)))
    (k : ∀ b o, H b = some o → b ≠ a → H' b = some o) (nl : H l' = none) (nr : H r' = none) (lr : l' ≠ r') : Wd CT CS G H' a l' r' cs st (L.filter fun e => p e.2) (M.filter fun e => p e.2) n := by
  obtain ⟨zs, hz, ez⟩ := W.hc
  have hs := W.sa
  obtain ⟨z, hz2, z2⟩ := hs
  obtain ⟨dx, ha⟩ := W.ts.ob
  have ca : cs ≠ a := ne_of hz ha (by intro e; cases e)
  have sa : st ≠ a := ne_of hz2 ha (by intro e; cases e)
  exact {
    ts := ts
    hr := hr
    rw_ := fun e he => by
      obtain ⟨x, b, q, h1, h2⟩ := W.rw_ e (List.mem_filter.mp he).1
      exact ⟨x, b, q, k _ _ h1 (ne_of h1 ha (by intro e; cases e)), h2⟩
    nd := W.nd.sublist (List.filter_sublist.map _)
    hc := ⟨zs, k _ _ hz ca, ez⟩
    sa := ⟨z, k _ _ hz2 sa, z2⟩
    gr := by
      cases q : G r' with
      | none => rfl
      | some o => rw [W.ts.sm _ _ q] at nr; cases nr
    gc := W.gc
    gs := W.gs
    gm := fun e he => W.gm e (List.mem_filter.mp he).1
    lr := lr
    lc := (ne_of_none hz nl).symm
    ls := (ne_of_none hz2 nl).symm
    rc := (ne_of_none hz nr).symm
    rs := (ne_of_none hz2 nr).symm
    ct := W.ct
    len := Nat.le_trans (List.length_filter_le _ _) W.len
    srt := W.srt.sublist List.filter_sublist
    pm := filter_perm W.pm
    nu := W.nu.sublist List.filter_sublist
    le := fun e he => W.le e (List.mem_filter.mp he).1
    pe := fun e he => W.pe e (List.mem_filter.mp he).1 }
end
end N5
end VL

set_option Elab.async false
set_option linter.all false
set_option maxRecDepth 100000
set_option maxHeartbeats 4000000
namespace VL
namespace N5
open PySem PySem.Spec PyProof.Rows L2
theorem ins_permN {L : Tl} {e : Addr × Tm} : (insT L e).Perm (e :: L) := ins_perm
section
variable {CT CS : Addr} {G G' H H' : Hp} {a l ra cs st : Addr} {L M : Tl} {n : Nat}
/-- a timer and its row are new -/
theorem Wd.start (W : Wd CT CS G H a l ra cs st L M n) {x r : Addr} {t : Tm} (ts : TsA CT CS G' H' a l (insT L (x, t)) ((n : Int) + 1)) (g : Gro H G G') (hr : H' ra = some (.lst ((M ++ [(r, t)]).map fun e => V.ref e.1))) (rw_ : RwA G' H' r t)
    (hc : ∃ zs : List V, H' cs = some (.lst zs) ∧ zs.length = n + 1) (sa : StA H' st) (fr : ∀ b o, H b = some o → b ≠ a → b ≠ l → b ≠ ra → b ≠ cs → b ≠ st → (∀ e ∈ L, b ≠ e.1) → H' b = some o)
    (rn : H r = none) (gr : G' r = none) (tn : t.num = (n : Int) + 1) (tp : 0 ≤ t.per) (lt : M.length < 20) : Wd CT CS G' H' a l ra cs st (insT L (x, t)) (M ++ [(r, t)]) (n + 1) := by
  obtain ⟨zs, hz, ez⟩ := W.hc
  obtain ⟨z, hz2, z2⟩ := W.sa
  obtain ⟨dx, ha⟩ := W.ts.ob
  have rows : ∀ e ∈ M, ∃ x b q, H e.1 = some (.dK (rwK e.2 x b)) ∧ H' e.1 = some (.dK (rwK e.2 x b)) ∧ G x = some (.dK (eX e.2.env)) ∧ G b = some (.lst [.ref q]) ∧ G q = some (.tup [.str "stop"]) := fun e he => by
    obtain ⟨x, b, q, h1, h2⟩ := W.rw_ e he
    refine ⟨x, b, q, h1, fr _ _ h1 (ne_of h1 ha (by intro e; cases e)) (ne_of h1 W.ts.ls (by intro e; cases e)) (ne_of h1 W.hr (by intro e; cases e)) (ne_of h1 hz (by intro e; cases e)) (ne_of h1 hz2 (by intro e; cases e)) (fun f hf => ?_), h2⟩
    obtain ⟨dy, p, h, _⟩ := W.ts.tm f hf
    exact ne_of h1 h (by intro e; cases e)
  exact {
    ts := by
      have : ((n + 1 : Nat) : Int) = (n : Int) + 1 := by omega
      rw [this]
      exact ts
    hr := hr
    rw_ := fun e he => by
      rcases List.mem_append.mp he with he | he
      · obtain ⟨x, b, q, _, h1, h2, h3, h4⟩ := rows e he
        exact ⟨x, b, q, h1, g.sm _ _ h2, g.sm _ _ h3, g.sm _ _ h4⟩
      · rw [List.mem_singleton.mp he]
        exact rw_
    nd := by
      rw [List.map_append]
      refine List.nodup_append.mpr ⟨W.nd, by simp, fun b hb c hc' => ?_⟩
      obtain ⟨e, he, rfl⟩ := List.mem_map.mp hb
      obtain ⟨x, b, q, h1, _⟩ := rows e he
      have : c = r := by simpa using hc'
      rw [this]
      exact ne_of_none h1 rn
    hc := hc
    sa := sa
    gr := by rw [g.nw _ _ W.hr]; exact W.gr
    gc := by rw [g.nw _ _ hz]; exact W.gc
    gs := by rw [g.nw _ _ hz2]; exact W.gs
    gm := fun e he => by
      rcases List.mem_append.mp he with he | he
      · obtain ⟨x, b, q, h1, _⟩ := rows e he
        rw [g.nw _ _ h1]
        exact W.gm e he
      · rw [List.mem_singleton.mp he]
        exact gr
    lr := W.lr
    lc := W.lc
    ls := W.ls
    rc := W.rc
    rs := W.rs
    ct := W.ct
    len := by rw [List.length_append]; show M.length + 1 ≤ 20; omega
    srt := by
      refine ins_srt W.srt fun f hf => ?_
      have hm : f.2 ∈ L.map (·.2) := List.mem_map.mpr ⟨f, hf, rfl⟩
      obtain ⟨e, he, ee⟩ := List.mem_map.mp (W.pm.mem_iff.mp hm)
      have h1 := W.le e he
      have h2 : e.2 = f.2 := ee
      rw [h2] at h1
      show f.2.num ≠ t.num
      omega
    pm := by
      refine (ins_permN.map (·.2)).trans ?_
      rw [List.map_append]
      show (t :: L.map (·.2)).Perm (M.map (·.2) ++ [t])
      exact (List.Perm.cons t W.pm).trans (List.perm_append_comm (l₁ := [t]))
    nu := by
      refine List.pairwise_append.mpr ⟨W.nu, List.pairwise_singleton _ _, fun e he f hf => ?_⟩
      rw [List.mem_singleton.mp hf]
      have := W.le e he
      show e.2.num < t.num
      omega
    le := fun e he => by
      rcases List.mem_append.mp he with he | he
      · have := W.le e he
        omega
      · rw [List.mem_singleton.mp he]
        show 1 ≤ t.num ∧ t.num ≤ _
        omega
    pe := fun e he => by
      rcases List.mem_append.mp he with he | he
      · exact W.pe e he
      · rw [List.mem_singleton.mp he]
        exact tp }
end
end N5
end VL

set_option Elab.async false
set_option linter.all false
set_option maxRecDepth 100000
set_option maxHeartbeats 4000000
namespace VL
namespace N5
open PySem PySem.Spec PyProof.Rows L2
theorem erase_perm {α : Type} : ∀ (l : List α) (j : Nat) (h : j < l.length), l.Perm (l[j] :: l.eraseIdx j)
  | x :: l, 0, _ => List.Perm.refl _
  | x :: l, j + 1, h => ((erase_perm l j (Nat.lt_of_succ_lt_succ h)).cons x).trans (List.Perm.swap _ _ _)
section
variable {CT CS : Addr} {G H H' : Hp} {a l ra cs st x : Addr} {t : Tm} {L M : Tl} {n : Nat}
/-- the row of the timer that fires -/
theorem Wd.row (W : Wd CT CS G H a l ra cs st ((x, t) :: L) M n) : ∃ j, ∃ h : j < M.length, M[j].2 = t ∧ ∀ i (hi : i < M.length), M[i].2.num = t.num → i = j := by
  have hm : t ∈ M.map (·.2) := W.pm.mem_iff.mp List.mem_cons_self
  obtain ⟨e, he, ee⟩ := List.mem_map.mp hm
  obtain ⟨j, h, ej⟩ := List.getElem_of_mem he
  have e1 : M[j].2 = t := by rw [ej]; exact ee
  refine ⟨j, h, e1, fun i hi ei => ?_⟩
  have pw := List.pairwise_iff_getElem.mp W.nu
  rcases Nat.lt_trichotomy i j with q | q | q
  · have := pw i j hi h q
    rw [e1] at this
    omega
  · exact q
  · have := pw j i h hi q
    rw [e1] at this
    omega
/-- a timer of no period has fired: its row is removed -/
theorem Wd.fire0 (W : Wd CT CS G H a l ra cs st ((x, t) :: L) M n) {j : Nat} (h : j < M.length) (ej : M[j].2 = t) (ts : TsA CT CS G H' a l L (n : Int)) (hr : H' ra = some (.lst ((M.eraseIdx j).map fun e => V.ref e.1)))
    (fr : ∀ b o, H b = some o → b ≠ a → b ≠ l → b ≠ ra → (∀ e ∈ (x, t) :: L, b ≠ e.1) → H' b = some o) : Wd CT CS G H' a l ra cs st L (M.eraseIdx j) n := by
  obtain ⟨zs, hz, ez⟩ := W.hc
  obtain ⟨z, hz2, z2⟩ := W.sa
  obtain ⟨dx, ha⟩ := W.ts.ob
  have sub : (M.eraseIdx j).Sublist M := List.eraseIdx_sublist M j
  have nx : ∀ {b : Addr} {o : HO}, H b = some o → (∀ dy f, o ≠ .ins CT dy f) → ∀ e ∈ (x, t) :: L, b ≠ e.1 := fun hb ho e he => by
    obtain ⟨dy, p, h, _⟩ := W.ts.tm e he
    exact ne_of hb h (ho _ _)
  exact {
    ts := ts
    hr := hr
    rw_ := fun e he => by
      obtain ⟨x, b, q, h1, h2⟩ := W.rw_ e (sub.subset he)
      exact ⟨x, b, q, fr _ _ h1 (ne_of h1 ha (by intro e; cases e)) (ne_of h1 W.ts.ls (by intro e; cases e)) (ne_of h1 W.hr (by intro e; cases e)) (nx h1 (by intro _ _ e; cases e)), h2⟩
    nd := W.nd.sublist (sub.map _)
    hc := ⟨zs, fr _ _ hz (ne_of hz ha (by intro e; cases e)) W.lc.symm W.rc.symm (nx hz (by intro _ _ e; cases e)), ez⟩
    sa := ⟨z, fr _ _ hz2 (ne_of hz2 ha (by intro e; cases e)) W.ls.symm W.rs.symm (nx hz2 (by intro _ _ e; cases e)), z2⟩
    gr := W.gr
    gc := W.gc
    gs := W.gs
    gm := fun e he => W.gm e (sub.subset he)
    lr := W.lr
    lc := W.lc
    ls := W.ls
    rc := W.rc
    rs := W.rs
    ct := W.ct
    len := Nat.le_trans sub.length_le W.len
    srt := (List.pairwise_cons.mp W.srt).2
    pm := by
      have h1 := (erase_perm M j h).map (·.2)
      rw [List.map_cons, ej] at h1
      exact (W.pm.trans h1).cons_inv
    nu := W.nu.sublist sub
    le := fun e he => W.le e (sub.subset he)
    pe := fun e he => W.pe e (sub.subset he) }
end
end N5
end VL

set_option Elab.async false
set_option linter.all false
set_option maxRecDepth 100000
set_option maxHeartbeats 4000000
namespace VL
namespace N5
open PySem PySem.Spec PyProof.Rows L2
theorem set_perm {α : Type} (y : α) : ∀ (l : List α) (j : Nat) (h : j < l.length), (l.set j y).Perm (y :: l.eraseIdx j)
  | x :: l, 0, _ => List.Perm.refl _
  | x :: l, j + 1, h => ((set_perm y l j (Nat.lt_of_succ_lt_succ h)).cons x).trans (List.Perm.swap _ _ _)
theorem map_set_same {α β : Type} (f : α → β) (y : α) : ∀ (l : List α) (j : Nat) (h : j < l.length), f y = f l[j] → (l.set j y).map f = l.map f
  | x :: l, 0, _, e => by show f y :: l.map f = f x :: l.map f; rw [e]; rfl
  | x :: l, j + 1, h, e => by
    show f x :: (l.set j y).map f = f x :: l.map f
    rw [map_set_same f y l j (Nat.lt_of_succ_lt_succ h) e]
section
variable {CT CS : Addr} {G H H' : Hp} {a l ra cs st x : Addr} {t : Tm} {L M : Tl} {n : Nat}
/-- a timer with a period has fired: its row's due moves on -/
theorem Wd.fire1 (W : Wd CT CS G H a l ra cs st ((x, t) :: L) M n) {j : Nat} (h : j < M.length) (ej : M[j].2 = t) (ts : TsA CT CS G H' a l (insT L (x, nextT t)) (n : Int)) (rw_ : RwA G H' M[j].1 (nextT t))
    (fr : ∀ b o, H b = some o → b ≠ a → b ≠ l → b ≠ M[j].1 → (∀ e ∈ (x, t) :: L, b ≠ e.1) → H' b = some o) : Wd CT CS G H' a l ra cs st (insT L (x, nextT t)) (M.set j (M[j].1, nextT t)) n := by
  obtain ⟨zs, hz, ez⟩ := W.hc
  obtain ⟨z, hz2, z2⟩ := W.sa
  obtain ⟨dx, ha⟩ := W.ts.ob
  have nx : ∀ {b : Addr} {o : HO}, H b = some o → (∀ dy f, o ≠ .ins CT dy f) → ∀ e ∈ (x, t) :: L, b ≠ e.1 := fun hb ho e he => by
    obtain ⟨dy, p, h, _⟩ := W.ts.tm e he
    exact ne_of hb h (ho _ _)
  obtain ⟨xj, bj, qj, hj, _⟩ := W.rw_ M[j] (List.getElem_mem h)
  have m1 : (M.set j (M[j].1, nextT t)).map (·.1) = M.map (·.1) := map_set_same _ _ M j h rfl
  have mr : (M.set j (M[j].1, nextT t)).map (fun e => V.ref e.1) = M.map fun e => V.ref e.1 := map_set_same _ _ M j h rfl
  have mn : (M.set j (M[j].1, nextT t)).map (fun e => e.2.num) = M.map fun e => e.2.num := map_set_same _ _ M j h (by rw [ej]; rfl)
  have old : ∀ e ∈ M.set j (M[j].1, nextT t), e ∈ M ∨ e = (M[j].1, nextT t) := fun e he => List.mem_or_eq_of_mem_set he
  have hjM := List.getElem_mem h
  exact {
    ts := ts
    hr := by
      rw [mr]
      exact fr _ _ W.hr (ne_of W.hr ha (by intro e; cases e)) W.lr.symm (ne_of W.hr hj (by intro e; cases e)) (nx W.hr (by intro _ _ e; cases e))
    rw_ := fun e he => by
      by_cases q : e.1 = M[j].1
      · have e2 : e = (M[j].1, nextT t) := by
          have nd : ((M.set j (M[j].1, nextT t)).map (·.1)).Nodup := by rw [m1]; exact W.nd
          obtain ⟨i, hi, rfl⟩ := List.getElem_of_mem he
          have hj' : j < (M.set j (M[j].1, nextT t)).length := by rw [List.length_set]; exact h
          have hj2 : (M.set j (M[j].1, nextT t))[j] = (M[j].1, nextT t) := List.getElem_set_self ..
          have ij : i = j := by
            have pw := List.pairwise_iff_getElem.mp nd
            have li : i < ((M.set j (M[j].1, nextT t)).map (·.1)).length := by rw [List.length_map]; exact hi
            have lj : j < ((M.set j (M[j].1, nextT t)).map (·.1)).length := by rw [List.length_map]; exact hj'
            have ee : ((M.set j (M[j].1, nextT t)).map (·.1))[i] = ((M.set j (M[j].1, nextT t)).map (·.1))[j] := by
              rw [List.getElem_map, List.getElem_map, hj2]
              exact q
            rcases Nat.lt_trichotomy i j with w | w | w
            · exact absurd ee (pw i j li lj w)
            · exact w
            · exact absurd ee.symm (pw j i lj li w)
          subst ij
          exact hj2
        rw [e2]
        exact rw_
      · rcases old e he with he | he
        · obtain ⟨x, b, q', h1, h2⟩ := W.rw_ e he
          exact ⟨x, b, q', fr _ _ h1 (ne_of h1 ha (by intro e; cases e)) (ne_of h1 W.ts.ls (by intro e; cases e)) q (nx h1 (by intro _ _ e; cases e)), h2⟩
        · rw [he] at q
          exact absurd rfl q
    nd := by rw [m1]; exact W.nd
    hc := ⟨zs, fr _ _ hz (ne_of hz ha (by intro e; cases e)) W.lc.symm (ne_of hz hj (by intro e; cases e)) (nx hz (by intro _ _ e; cases e)), ez⟩
    sa := ⟨z, fr _ _ hz2 (ne_of hz2 ha (by intro e; cases e)) W.ls.symm (ne_of hz2 hj (by intro e; cases e)) (nx hz2 (by intro _ _ e; cases e)), z2⟩
    gr := W.gr
    gc := W.gc
    gs := W.gs
    gm := fun e he => by
      rcases old e he with he | he
      · exact W.gm e he
      · rw [he]
        have := W.gm M[j] hjM
        exact this
    lr := W.lr
    lc := W.lc
    ls := W.ls
    rc := W.rc
    rs := W.rs
    ct := W.ct
    len := by rw [List.length_set]; exact W.len
    srt := by
      refine ins_srt (List.pairwise_cons.mp W.srt).2 fun f hf => ?_
      have nm : (M.map fun e => e.2.num).Nodup := by
        unfold List.Nodup
        rw [List.pairwise_map]
        exact W.nu.imp fun {e f} h q => by omega
      have pn := W.pm.map fun t : Tm => t.num
      rw [List.map_map, List.map_map] at pn
      have nl := pn.nodup_iff.mpr nm
      have := (List.nodup_cons.mp nl).1
      intro q
      exact this (List.mem_map.mpr ⟨f, hf, q⟩)
    pm := by
      refine (ins_permN.map (·.2)).trans ?_
      have h1 := (set_perm (M[j].1, nextT t) M j h).map (·.2)
      refine List.Perm.trans ?_ h1.symm
      have h2 := (erase_perm M j h).map (·.2)
      rw [List.map_cons, ej] at h2
      exact ((W.pm.trans h2).cons_inv).cons _
    nu := by
      have : ((M.set j (M[j].1, nextT t)).map fun e => e.2.num).Pairwise (· < ·) := by rw [mn, List.pairwise_map]; exact W.nu
      rw [List.pairwise_map] at this
      exact this
    le := fun e he => by
      rcases old e he with he | he
      · exact W.le e he
      · rw [he]
        have := W.le _ hjM
        rw [ej] at this
        exact this
    pe := fun e he => by
      rcases old e he with he | he
      · exact W.pe e he
      · rw [he]
        have := W.pe _ hjM
        rw [ej] at this
        exact this }
end
end N5
end VL

set_option Elab.async false
set_option linter.all false
set_option maxRecDepth 100000
set_option maxHeartbeats 4000000
namespace VL
open PySem PySem.Spec PyProof.Rows L2
theorem Kp.up {a p : Addr} {H H' : Hp} {o : HO} (k : Kp a H H') (n : H p = none) : Kp a H (upd H' p o) := fun b u e m => by
  rw [upd_ne (ne_of_none e n)]
  exact k _ _ e m
theorem StA.up {a p : Addr} {H : Hp} {o : HO} (S : StA H a) (n : a ≠ p) : StA (upd H p o) a := by
  obtain ⟨z, h, r⟩ := S
  exact ⟨z, by rw [upd_ne n]; exact h, r⟩
theorem StA.nn {a p : Addr} {H : Hp} (S : StA H a) (n : H p = none) : a ≠ p := by
  obtain ⟨z, h, _⟩ := S
  exact ne_of_none h n
theorem Kp.free {a p : Addr} {H H' : Hp} (k : Kp a H H') (S : StA H' a) (n : H' p = none) : H p = none := by
  cases z : H p with
  | none => rfl
  | some o => rw [k _ _ z (S.nn n).symm] at n; cases n
namespace N5
theorem TsA.more {CT CS : Addr} {G G1 H0 H : Hp} {a l : Addr} {L : Tl} {n : Int} (S0 : TsA CT CS G H0 a l L n) (S : TsA CT CS G H a l L n) (g : Gro H0 G G1) (s1 : Same G1 H) : TsA CT CS G1 H a l L n where
  ob := S.ob
  ls := S.ls
  tm := fun e he => by
    obtain ⟨dx, p, h, r⟩ := S.tm e he
    exact ⟨dx, p, h, r.mono g.sm⟩
  nd := S.nd
  sm := s1
  ga := by
    obtain ⟨dx, h⟩ := S0.ob
    rw [g.nw _ _ h]
    exact S.ga
  gl := by rw [g.nw _ _ S0.ls]; exact S.gl
  gx := fun e he => by
    obtain ⟨dx, p, h, r⟩ := S0.tm e he
    rw [g.nw _ _ h]
    exact S.gx e he
theorem TsA.fr {CT CS : Addr} {G H H' : Hp} {a l : Addr} {L : Tl} {n : Int} (S : TsA CT CS G H a l L n) (ha : H' a = H a) (hl : H' l = H l) (hx : ∀ e ∈ L, H' e.1 = H e.1) (sm : Same G H') : TsA CT CS G H' a l L n where
  ob := by rw [ha]; exact S.ob
  ls := by rw [hl]; exact S.ls
  tm := fun e he => by
    obtain ⟨dx, p, h, r⟩ := S.tm e he
    exact ⟨dx, p, by rw [hx e he]; exact h, r⟩
  nd := S.nd
  sm := sm
  ga := S.ga
  gl := S.gl
  gx := S.gx
theorem dput_row {H H0 : Hp} {p : Addr} {kvs ks3 : List (Key × V)} {k : Key} {v : V} (h : H p = some (.dK kvs)) (hl : kvs.length < sizeLine) (e : upd H p (.dK (putK kvs k v)) = upd H0 p (.dK ks3)) : DPut H p (kV k) v (upd H0 p (.dK ks3)) := by
  rw [← e]
  exact DPut.k h hl
theorem per_eq (ag : Bool) (tk : Int) : tk * (if ag = true then 1 else 0) = if ag = true then tk else 0 := by
  cases ag
  · exact Int.mul_zero tk
  · exact Int.mul_one tk
def spStarts (CT CS : Addr) : Sp := fun vs H Q _ => ∃ (G : Hp) (a l ra cs st : Addr) (L M : Tl) (n : Nat) (now : Int), vs = [.ref a, .ref ra, .ref cs, .int now, .ref st] ∧ Wd CT CS G H a l ra cs st L M n ∧ n < 190 ∧
  ∀ G' H' L' M' n', n' ≤ n + 1 → Same G G' → Wd CT CS G' H' a l ra cs st L' M' n' → Q (.bl true) H'
section
variable {P : Program} {w : World} {K : PySem.W.Frag} {mg : Str → Option Value} {base : Heap} {C : Ad}
theorem sc__law_starts : FnScope ["timers", "rows", "counts", "now", "state", "again", "ticks", "row", "given", "told"] ["timers", "rows", "counts", "now", "state"] (defScope s__law_starts) := ⟨rfl, rfl, rfl, by decide +kernel, rfl, by decide +kernel, by decide +kernel⟩
theorem ok_starts (T : Txt K w mg C) : Cal P w K mg base 5 "_law_starts" (spStarts C.Timer C.Timers) := by
  have G_law_digit : Cal P w K mg base 1 "_law_digit" spDigit := ok_digit T
  have G_law_is_integer : Cal P w K mg base 1 "_law_is_integer" spIsInt := ok_isnum T
  have Mstart : MetK P w K mg base 4 C.Timers "start" (spStartT C.Timer C.Timers) 2 ["now", "ticks", "again", "lane", "environment", "block", "run"] (fun vs zs => vs ++ zs) := ok_startT T
  refine cal_of T.d__law_starts sc__law_starts (fun vs H Q E h => ?_) (fun f cdv A outer s H vs Q E hr h => ?_)
  · obtain ⟨G, a, l, ra, cs, st, L, M, n, now, rfl, _⟩ := h
    rfl
  · obtain ⟨G, a, l, ra, cs, st, L, M, n, now, rfl, W, hn, k⟩ := h
    have hu := hu_of hr
    refine ⟨_, (pss_cons (ps_set (i := 5) sc__law_starts.nd rfl (Or.inl rfl) (pe_cmpR op_eq (pe_c G_law_digit hr (by decide) (by rfl) (pa_cons (pv 4) (pa_cons pe_int pa_nil))) pe_int (nomark _))) (pss_cons (ps_set (i := 6) sc__law_starts.nd rfl (Or.inl rfl) (pe_op op_add (pe_callTy call_int1 (by rfl) T.z_int (by decide +kernel) (pa_cons (pv 5) pa_nil)) (pe_c G_law_digit hr (by decide) (by rfl) (pa_cons (pv 4) (pa_cons pe_int pa_nil))))) (pss_cons (ps_set (i := 7) sc__law_starts.nd rfl (Or.inl rfl) (pe_disp (pps_cons pe_str (pe_op op_add pe_int (pe_c G_law_digit hr (by decide) (by rfl) (pa_cons (pv 4) (pa_cons pe_int pa_nil)))) (pps_cons pe_str (pe_c G_law_digit hr (by decide) (by rfl) (pa_cons (pv 4) (pa_cons pe_int pa_nil))) (pps_cons pe_str (pe_disp (pps_cons pe_str (pe_c G_law_digit hr (by decide) (by rfl) (pa_cons (pv 4) (pa_cons pe_int pa_nil))) pps_nil) (by rfl) (by rfl) (fun z => by cases z) (by decide)) (pps_cons pe_str (pe_lst (pa_cons (pe_tup (pa_cons pe_str pa_nil)) pa_nil)) pps_nil)))) (by rfl) (by rfl) (fun z => by cases z) (by decide))) (pss_cons (ps_dput hu (pv 7) pe_str (pe_c G_law_digit hr (by decide) (by rfl) (pa_cons (pv 4) (pa_cons pe_int pa_nil))) rfl) (pss_cons (ps_dput hu (pv 7) pe_str (pe_op op_add (pv 3) (pv 6)) rfl) (pss_cons (ps_dput hu (pv 7) pe_str (pe_op op_mul (pv 6) (pe_callTy call_int1 (by rfl) T.z_int (by decide +kernel) (pa_cons (pv 5) pa_nil))) rfl) (pss_cons (ps_set (i := 8) sc__law_starts.nd rfl (Or.inl rfl) (pe_callTy call_dictD (by rfl) T.z_dict (by decide +kernel) (pa_cons (pe_dget hu (pv 7) pe_str (fun _ _ => rfl)) pa_nil))) (pss_cons (ps_set (i := 9) sc__law_starts.nd rfl (Or.inl rfl) (pe_mtK Mstart hr (by decide) (pv 0) (pa_cons (pe_dget hu (pv 7) pe_str (fun _ _ => rfl)) pa_nil) (pk_cons (pv 3) (pk_cons (pv 6) (pk_cons (pv 5) (pk_cons (pe_dget hu (pv 7) pe_str (fun _ _ => rfl)) (pk_cons (pv 8) (pk_cons (pe_dget hu (pv 7) pe_str (fun _ _ => rfl)) (pk_cons (pe_dget hu (pv 7) pe_str (fun _ _ => rfl)) pk_nil))))))))) (pss_cons (ps_dput hu (pv 8) pe_str pe_int rfl) (pss_cons (ps_if (pt_cmpR op_ge (pe_callB call_len_seq (by rfl) T.z_len PySem.boot_len (pa_cons (pv 1) pa_nil)) pe_int (nomark _)) (pss_one (ps_ret (pe_cmp (pc_isN (pv 9))))) pss_nil) (pss_cons (ps_expr (pe_bm PySem.F.plainAttrs_list PySem.F.slot_list_append PySem.F.type_list_append mt_append (pv 2) (pa_cons (pe_op op_add (pe_callB call_len_seq (by rfl) T.z_len PySem.boot_len (pa_cons (pv 2) pa_nil)) pe_int) pa_nil))) (pss_cons (ps_dput hu (pv 7) pe_str (pe_callB call_len_seq (by rfl) T.z_len PySem.boot_len (pa_cons (pv 2) pa_nil)) rfl) (pss_cons (ps_expr (pe_bm PySem.F.plainAttrs_list PySem.F.slot_list_append PySem.F.type_list_append mt_append (pv 1) (pa_cons (pv 7) pa_nil))) (pss_one (ps_ret (pe_and (pe_c G_law_is_integer hr (by decide) (by rfl) (pa_cons (pv 9) pa_nil)) (pe_one (pe_cmpR op_eq (pv 9) (pe_dget hu (pv 7) pe_str (fun _ _ => rfl)) (nomark _))))))))))))))))))), ?_⟩
    obtain ⟨z0, hz0, _⟩ := W.sa
    refine ⟨_, rfl, st, 2, rfl, W.sa, by decide, fun r1 H1 S1 k1 _ _ => ?_⟩
    refine ⟨rfl, ?_⟩
    generalize decide (V.int r1 = V.int 0) = ag
    refine ⟨_, rfl, .inr ⟨ag, rfl, ?_⟩⟩
    refine ⟨_, rfl, st, 9, rfl, S1, by decide, fun r2 H2 S2 k2 p2 q2 => ?_⟩
    refine ⟨_, _, rfl, rfl, ?_⟩
    have kk2 : Kp st H H2 := k1.trans k2
    intro p np
    have npH : H p = none := kk2.free S2 np
    have pst : st ≠ p := S2.nn np
    refine ⟨_, rfl, st, 4, rfl, S2.up pst, by decide, fun r3 H3 S3 k3 _ _ => ?_⟩
    refine ⟨_, _, rfl, rfl, ?_⟩
    refine ⟨_, rfl, st, 4, rfl, S3, by decide, fun r4 H4 S4 k4 _ _ => ?_⟩
    have hp4 : H4 p = some (.dK []) := k4 _ _ (k3 _ _ upd_same pst.symm) pst.symm
    have kk4 : Kp st H H4 := (kk2.up npH).trans (k3.trans k4)
    intro e ne
    have est : st ≠ e := S4.nn ne
    have neH : H e = none := kk4.free S4 ne
    have pe : p ≠ e := ne_of_none hp4 ne
    refine ⟨_, rfl, st, 9, rfl, S4.up est, by decide, fun r5 H5 S5 k5 _ _ => ?_⟩
    have he5 : H5 e = some (.dK []) := k5 _ _ upd_same est.symm
    have hp5 : H5 p = some (.dK []) := k5 _ _ (by rw [upd_ne pe]; exact hp4) pst.symm
    have kk5 : Kp st H H5 := (kk4.up neH).trans k5
    refine ⟨he5, [(.inr "x", .int r5)], rfl, by show 1 ≤ 15; decide, ?_⟩
    rw [show mergeK [] [((.inr "x" : Key), V.int r5)] = eX r5 from rfl]
    have S6 : StA (upd H5 e (.dK (eX r5))) st := S5.up est
    have kk6 : Kp st H (upd H5 e (.dK (eX r5))) := kk5.up neH
    have he6 : upd H5 e (.dK (eX r5)) e = some (.dK (eX r5)) := upd_same
    have hp6 : upd H5 e (.dK (eX r5)) p = some (.dK []) := by rw [upd_ne pe]; exact hp5
    generalize upd H5 e (.dK (eX r5)) = H6 at S6 kk6 he6 hp6
    refine ⟨by show 1 ≤ sizeLine; decide, fun q nq => ?_⟩
    have sq : st ≠ q := S6.nn nq
    have pq : p ≠ q := ne_of_none hp6 nq
    have eq : e ≠ q := ne_of_none he6 nq
    have nqH : H q = none := kk6.free S6 nq
    refine ⟨by show 1 ≤ sizeLine; decide, fun b nb' => ?_⟩
    have qb : q ≠ b := fun z => by rw [← z, upd_same] at nb'; cases nb'
    have nb : H6 b = none := by rw [upd_ne qb.symm] at nb'; exact nb'
    have sb : st ≠ b := S6.nn nb
    have pb : p ≠ b := ne_of_none hp6 nb
    have eb : e ≠ b := ne_of_none he6 nb
    have nbH : H b = none := kk6.free S6 nb
    refine ⟨by rw [upd_ne pb, upd_ne pq]; exact hp6, [(.inr "owner", .int (1 + r3)), (.inr "lane", .int r4), (.inr "env", .ref e), (.inr "block", .ref b)], rfl, by show 4 ≤ 15; decide, ?_⟩
    rw [show mergeK [] [((.inr "owner" : Key), V.int (1 + r3)), (.inr "lane", .int r4), (.inr "env", .ref e), (.inr "block", .ref b)] = [(.inr "owner", .int (1 + r3)), (.inr "lane", .int r4), (.inr "env", .ref e), (.inr "block", .ref b)] from rfl]
    refine ⟨_, rfl, st, 4, rfl, (((S6.up sq).up sb).up pst), by decide, fun r6 H7 S7 k7 _ _ => ?_⟩
    have kk7 : Kp st H H7 := (((kk6.up nqH).up nbH).up npH).trans k7
    have hp7 : H7 p = some (.dK [(.inr "owner", .int (1 + r3)), (.inr "lane", .int r4), (.inr "env", .ref e), (.inr "block", .ref b)]) := k7 _ _ upd_same pst.symm
    have hb7 : H7 b = some (.lst [.ref q]) := k7 _ _ (by rw [upd_ne pb.symm, upd_same]) sb.symm
    have hq7 : H7 q = some (.tup [.str "stop"]) := k7 _ _ (by rw [upd_ne pq.symm, upd_ne qb, upd_same]) sq.symm
    have he7 : H7 e = some (.dK (eX r5)) := k7 _ _ (by rw [upd_ne pe.symm, upd_ne eb, upd_ne eq]; exact he6) est.symm
    refine ⟨_, rfl, p, _, rfl, DPut.k (k := .inr "run") hp7 (by show 4 < sizeLine; decide), ?_⟩
    refine ⟨_, rfl, _, rfl, _, _, rfl, rfl, ?_⟩
    refine ⟨_, rfl, p, _, rfl, DPut.k (k := .inr "due") upd_same (by show 5 < sizeLine; decide), ?_⟩
    refine ⟨_, rfl, _, rfl, .inr ⟨ag, rfl, ?_⟩⟩
    refine ⟨_, _, rfl, rfl, .inr (by cases ag <;> exact ⟨by decide, by decide⟩), ?_⟩
    refine ⟨_, rfl, p, upd H7 p (.dK [((.inr "owner" : Key), V.int (1 + r3)), (.inr "lane", .int r4), (.inr "env", .ref e), (.inr "block", .ref b), (.inr "run", .int r6), (.inr "due", .int (now + ((if ag = true then (1 : Int) else 0) + r2))), (.inr "period", .int (if ag = true then ((if ag = true then (1 : Int) else 0) + r2) else 0))]), rfl, ?dp, ?_⟩
    case dp =>
      refine dput_row (k := .inr "period") upd_same (by show 6 < sizeLine; decide) ?_
      show upd (upd (upd H7 p _) p _) p (.dK (putK _ (.inr "period") (.int (((if ag = true then (1 : Int) else 0) + r2) * (if ag = true then 1 else 0))))) = _
      rw [upd_upd, upd_upd, per_eq]
      rfl
    have tk0 : 0 ≤ (if ag = true then (1 : Int) else 0) + r2 := by cases ag <;> simp <;> omega
    have hp8 : upd H7 p (.dK [((.inr "owner" : Key), V.int (1 + r3)), (.inr "lane", .int r4), (.inr "env", .ref e), (.inr "block", .ref b), (.inr "run", .int r6), (.inr "due", .int (now + ((if ag = true then (1 : Int) else 0) + r2))), (.inr "period", .int (if ag = true then ((if ag = true then (1 : Int) else 0) + r2) else 0))]) p = some (.dK _) := upd_same
    have kk8 := kk7.up (o := .dK [((.inr "owner" : Key), V.int (1 + r3)), (.inr "lane", .int r4), (.inr "env", .ref e), (.inr "block", .ref b), (.inr "run", .int r6), (.inr "due", .int (now + ((if ag = true then (1 : Int) else 0) + r2))), (.inr "period", .int (if ag = true then ((if ag = true then (1 : Int) else 0) + r2) else 0))]) npH
    have S8 := S7.up (o := .dK [((.inr "owner" : Key), V.int (1 + r3)), (.inr "lane", .int r4), (.inr "env", .ref e), (.inr "block", .ref b), (.inr "run", .int r6), (.inr "due", .int (now + ((if ag = true then (1 : Int) else 0) + r2))), (.inr "period", .int (if ag = true then ((if ag = true then (1 : Int) else 0) + r2) else 0))]) pst
    have k78 : ∀ c u, H7 c = some u → c ≠ p → upd H7 p (.dK [((.inr "owner" : Key), V.int (1 + r3)), (.inr "lane", .int r4), (.inr "env", .ref e), (.inr "block", .ref b), (.inr "run", .int r6), (.inr "due", .int (now + ((if ag = true then (1 : Int) else 0) + r2))), (.inr "period", .int (if ag = true then ((if ag = true then (1 : Int) else 0) + r2) else 0))]) c = some u := fun c u z n => by rw [upd_ne n]; exact z
    generalize upd H7 p (.dK [((.inr "owner" : Key), V.int (1 + r3)), (.inr "lane", .int r4), (.inr "env", .ref e), (.inr "block", .ref b), (.inr "run", .int r6), (.inr "due", .int (now + ((if ag = true then (1 : Int) else 0) + r2))), (.inr "period", .int (if ag = true then ((if ag = true then (1 : Int) else 0) + r2) else 0))]) = H8 at hp8 kk8 S8 k78
    have hb8 := k78 _ _ hb7 pb.symm
    have hq8 := k78 _ _ hq7 pq.symm
    have he8 := k78 _ _ he7 pe.symm
    refine ⟨_, rfl, p, .ref e, rfl, dgK (k := .inr "env") hp8, e, _, rfl, .of he8, fun g ng => ?_⟩
    have s89 : Same H8 (upd H8 g (.dK (eX r5))) := Same.new ng
    have ngH : H g = none := kk8.free S8 ng
    have gst : st ≠ g := S8.nn ng
    have kk9 : Kp st H (upd H8 g (.dK (eX r5))) := kk8.up ngH
    have S9 : StA (upd H8 g (.dK (eX r5))) st := S8.up gst
    have hg9 : upd H8 g (.dK (eX r5)) g = some (.dK (eX r5)) := upd_same
    generalize upd H8 g (.dK (eX r5)) = H9 at s89 kk9 S9 hg9
    have W9 := W.digit kk9 S9
    have hp9 := s89 _ _ hp8
    have hb9 := s89 _ _ hb8
    have hq9 := s89 _ _ hq8
    have he9 := s89 _ _ he8
    obtain ⟨dx9, ha9⟩ := W9.ts.ob
    refine ⟨_, rfl, a, dx9, _, rfl, ha9, rfl, ?_⟩
    refine ⟨_, rfl, p, _, rfl, dgK (k := .inr "owner") hp9, ?_⟩
    refine ⟨_, rfl, _, rfl, _, rfl, _, rfl, p, _, rfl, dgK (k := .inr "lane") hp9, _, rfl, _, rfl, p, _, rfl, dgK (k := .inr "block") hp9, _, rfl, p, _, rfl, dgK (k := .inr "run") hp9, rfl, rfl, ?_⟩
    have ae : ∀ {c : Addr} {o : HO}, H c = some o → c ≠ e ∧ c ≠ b ∧ c ≠ q := fun h => ⟨ne_of_none h neH, ne_of_none h nbH, ne_of_none h nqH⟩
    have smG : ∀ c o, G c = some o → c ≠ e ∧ c ≠ b ∧ c ≠ q := fun c o h => ae (W.ts.sm _ _ h)
    have g1s : Same G (upd (upd (upd G e (.dK (eX r5))) b (.lst [.ref q])) q (.tup [.str "stop"])) := fun c o h => by
      obtain ⟨z1, z2, z3⟩ := smG c o h
      rw [upd_ne z3, upd_ne z2, upd_ne z1]
      exact h
    have g1n : ∀ c, c ≠ e → c ≠ b → c ≠ q → upd (upd (upd G e (.dK (eX r5))) b (.lst [.ref q])) q (.tup [.str "stop"]) c = G c := fun c z1 z2 z3 => by rw [upd_ne z3, upd_ne z2, upd_ne z1]
    have g1e : upd (upd (upd G e (.dK (eX r5))) b (.lst [.ref q])) q (.tup [.str "stop"]) e = some (.dK (eX r5)) := by rw [upd_ne eq, upd_ne eb, upd_same]
    have g1b : upd (upd (upd G e (.dK (eX r5))) b (.lst [.ref q])) q (.tup [.str "stop"]) b = some (.lst [.ref q]) := by rw [upd_ne qb.symm, upd_same]
    have g1q : upd (upd (upd G e (.dK (eX r5))) b (.lst [.ref q])) q (.tup [.str "stop"]) q = some (.tup [.str "stop"]) := upd_same
    generalize upd (upd (upd G e (.dK (eX r5))) b (.lst [.ref q])) q (.tup [.str "stop"]) = G1 at g1s g1n g1e g1b g1q
    have g1 : Gro H G G1 := ⟨g1s, fun c o h => g1n c (ae h).1 (ae h).2.1 (ae h).2.2⟩
    have g19 : Same G1 H9 := fun c o h => by
      by_cases z1 : c = e
      · subst z1
        rw [g1e] at h
        cases h
        exact he9
      by_cases z2 : c = b
      · subst z2
        rw [g1b] at h
        cases h
        exact hb9
      by_cases z3 : c = q
      · subst z3
        rw [g1q] at h
        cases h
        exact hq9
      rw [g1n c z1 z2 z3] at h
      exact W9.ts.sm _ _ h
    have T9 := W.ts.more W9.ts g1 g19
    have lL := W.lenL
    have lM := W.len
    refine ⟨G1, a, l, g, b, q, L, n, 1 + r3, now, _, ag, r4, r5, r6, rfl, T9, hg9, hb9, hq9, by omega, fun e20 => ?_, fun l20 x G' H10 nx gr T10 fr10 => ?_⟩
    · refine ⟨_, rfl, g, _, rfl, DPut.k (k := .inr "x") hg9 (by show 1 < sizeLine; decide), ?_⟩
      rw [show putK (eX r5) (.inr "x") (.int 99) = eX 99 from rfl]
      have kkA := kk9.up (o := .dK (eX 99)) ngH
      have SA := S9.up (o := .dK (eX 99)) gst
      have WA := W.digit kkA SA
      refine ⟨_, rfl, ra, _, rfl, .inl (SqL.of WA.hr), _, _, rfl, rfl, ?_⟩
      refine ⟨_, rfl, ?_⟩
      refine ite2 (fun _ => ?_) (fun z => ?_)
      · refine ⟨_, rfl, ?_⟩
        exact k G _ L M n (by omega) (fun _ _ h => h) WA
      · exfalso
        refine z (decide_eq_true ?_)
        rw [List.length_map]
        omega
    · -- the old at the new heap
      have W9n := W9
      have o10 : ∀ c o, H9 c = some o → c ≠ a → c ≠ l → (∀ e ∈ L, c ≠ e.1) → H10 c = some o := fr10
      have nT : ∀ {c : Addr} {o : HO}, H9 c = some o → (∀ dy f, o ≠ .ins C.Timer dy f) → ∀ e ∈ L, c ≠ e.1 := fun hb ho e he => by
        obtain ⟨dy, p, h, _⟩ := W9.ts.tm e he
        exact ne_of hb h (ho _ _)
      obtain ⟨zs, hz9, ez⟩ := W9.hc
      obtain ⟨zz, hs9, zs2⟩ := W9.sa
      have al := W9.ts.al
      have hgA : H10 g = some (.dK (eX r5)) := o10 _ _ hg9 (ne_of hg9 ha9 (by intro e; cases e)) (ne_of hg9 W9.ts.ls (by intro e; cases e)) (nT hg9 (by intro _ _ e; cases e))
      have hpA : H10 p = some (.dK [((.inr "owner" : Key), V.int (1 + r3)), (.inr "lane", .int r4), (.inr "env", .ref e), (.inr "block", .ref b), (.inr "run", .int r6), (.inr "due", .int (now + ((if ag = true then (1 : Int) else 0) + r2))), (.inr "period", .int (if ag = true then ((if ag = true then (1 : Int) else 0) + r2) else 0))]) := o10 _ _ hp9 (ne_of hp9 ha9 (by intro e; cases e)) (ne_of hp9 W9.ts.ls (by intro e; cases e)) (nT hp9 (by intro _ _ e; cases e))
      have hcA : H10 cs = some (.lst zs) := o10 _ _ hz9 (ne_of hz9 ha9 (by intro e; cases e)) W9.lc.symm (nT hz9 (by intro _ _ e; cases e))
      have hsA : H10 st = some (.lst [.int zz]) := o10 _ _ hs9 (ne_of hs9 ha9 (by intro e; cases e)) W9.ls.symm (nT hs9 (by intro _ _ e; cases e))
      have hrA : H10 ra = some (.lst (M.map fun e => V.ref e.1)) := o10 _ _ W9.hr (ne_of W9.hr ha9 (by intro e; cases e)) W9.lr.symm (nT W9.hr (by intro _ _ e; cases e))
      have gp : g ≠ p := (ne_of_none hp8 ng).symm
      have gcs : g ≠ cs := ne_of hgA hcA (by intro e; cases e)
      have gra : g ≠ ra := ne_of hgA hrA (by intro e; cases e)
      have pcs : p ≠ cs := ne_of hpA hcA (by intro e; cases e)
      have pra : p ≠ ra := ne_of hpA hrA (by intro e; cases e)
      refine ⟨_, rfl, g, _, rfl, DPut.k (k := .inr "x") hgA (by show 1 < sizeLine; decide), ?_⟩
      rw [show putK (eX r5) (.inr "x") (.int 99) = eX 99 from rfl]
      refine ⟨_, rfl, ra, _, rfl, .inl (SqL.of (by rw [upd_ne gra.symm]; exact hrA)), _, _, rfl, rfl, ?_⟩
      refine ⟨_, rfl, ?_⟩
      refine ite2 (fun z => ?_) (fun _ => ?_)
      · exfalso
        have := of_decide_eq_true z
        rw [List.length_map] at this
        omega
      have hcB : upd H10 g (.dK (eX 99)) cs = some (.lst zs) := by rw [upd_ne gcs.symm]; exact hcA
      have zl : zs.length < sizeLine := by rw [ez]; exact small1000 (by omega)
      refine ⟨_, rfl, .inl ⟨rfl, _, SqL.of hcB⟩, _, rfl, cs, _, rfl, .inl (SqL.of hcB), _, _, rfl, rfl, cs, _, _, rfl, rfl, hcB, zl, ?_⟩
      refine ⟨_, rfl, cs, _, rfl, .inl (SqL.of upd_same), _, rfl, p, _, rfl, DPut.k (k := .inr "number") (by rw [upd_ne pcs, upd_ne gp.symm]; exact hpA) (by show 7 < sizeLine; decide), ?_⟩
      have hn1 : ((zs ++ [V.int ((zs.length : Int) + 1)]).length : Int) = (n : Int) + 1 := by rw [List.length_append, List.length_singleton, ez]; rfl
      rw [hn1]
      have rowF : putK [((.inr "owner" : Key), V.int (1 + r3)), (.inr "lane", .int r4), (.inr "env", .ref e), (.inr "block", .ref b), (.inr "run", .int r6), (.inr "due", .int (now + ((if ag = true then (1 : Int) else 0) + r2))), (.inr "period", .int (if ag = true then ((if ag = true then (1 : Int) else 0) + r2) else 0))] (.inr "number") (.int ((n : Int) + 1)) = rwK ⟨(n : Int) + 1, now + ((if ag = true then (1 : Int) else 0) + r2), if ag = true then (if ag = true then (1 : Int) else 0) + r2 else 0, 1 + r3, r4, r5, r6⟩ e b := rfl
      rw [rowF]
      have hrB : ∀ o1 o2 o3, upd (upd (upd H10 g o1) cs o2) p o3 ra = some (.lst (M.map fun e => V.ref e.1)) := fun o1 o2 o3 => by
        rw [upd_ne pra.symm, upd_ne W.rc, upd_ne gra.symm]
        exact hrA
      have ml : (M.map fun e => V.ref e.1).length < sizeLine := by rw [List.length_map]; exact small1000 (by omega)
      refine ⟨_, rfl, .inl ⟨rfl, _, SqL.of (hrB _ _ _)⟩, _, rfl, ra, _, _, rfl, rfl, hrB _ _ _, ml, ?_⟩
      refine ⟨_, rfl, _, rfl, ?_⟩
      refine ⟨true, rfl, iteT ?_⟩
      refine ⟨_, rfl, _, rfl, p, .int ((n : Int) + 1), rfl, dgK (k := .inr "number") (kvs := rwK ⟨(n : Int) + 1, now + ((if ag = true then (1 : Int) else 0) + r2), if ag = true then (if ag = true then (1 : Int) else 0) + r2 else 0, 1 + r3, r4, r5, r6⟩ e b) (by rw [upd_ne pra, upd_same]) , rfl, ?_⟩
      rw [decide_eq_true rfl]
      have gG : G' g = none := by
        rw [gr.nw _ _ hg9, g1n g ((ne_of_none he8 ng).symm) ((ne_of_none hb8 ng).symm) ((ne_of_none hq8 ng).symm)]
        cases z : G g with
        | none => rfl
        | some o => rw [W.ts.sm _ _ z] at ngH; cases ngH
      have gP : G' p = none := by
        rw [gr.nw _ _ hp9, g1n p pe pb pq]
        cases z : G p with
        | none => rfl
        | some o => rw [W.ts.sm _ _ z] at npH; cases npH
      have gC : G' cs = none := by
        obtain ⟨ys, h, _⟩ := W.hc
        rw [gr.nw _ _ hz9, g1.nw _ _ h]
        exact W.gc
      have gR : G' ra = none := by rw [gr.nw _ _ W9.hr, g1.nw _ _ W.hr]; exact W.gr
      obtain ⟨dxA, haA⟩ := T10.ob
      have hlA := T10.ls
      have ch : ∀ (o1 o2 o3 o4 : HO) c, c ≠ g → c ≠ cs → c ≠ p → c ≠ ra → upd (upd (upd (upd H10 g o1) cs o2) p o3) ra o4 c = H10 c := fun o1 o2 o3 o4 c z1 z2 z3 z4 => by rw [upd_ne z4, upd_ne z3, upd_ne z2, upd_ne z1]
      have tmx := T10.tm
      have Tf : ∀ o1 o2 o3 o4 : HO, TsA C.Timer C.Timers G' (upd (upd (upd (upd H10 g o1) cs o2) p o3) ra o4) a l (insT L (x, ⟨(n : Int) + 1, now + ((if ag = true then (1 : Int) else 0) + r2), if ag = true then (if ag = true then (1 : Int) else 0) + r2 else 0, 1 + r3, r4, r5, r6⟩)) ((n : Int) + 1) := fun o1 o2 o3 o4 => by
        refine T10.fr (ch _ _ _ _ _ (ne_of haA hgA (by intro e; cases e)) (ne_of haA hcA (by intro e; cases e)) (ne_of haA hpA (by intro e; cases e)) (ne_of haA hrA (by intro e; cases e))) (ch _ _ _ _ _ (ne_of hlA hgA (by intro e; cases e)) W.lc (ne_of hlA hpA (by intro e; cases e)) W.lr) (fun f hf => ?_) (fun c o h => ?_)
        · obtain ⟨dy, y, h, _⟩ := tmx f hf
          exact ch _ _ _ _ _ (ne_of h hgA (by intro e; cases e)) (ne_of h hcA (by intro e; cases e)) (ne_of h hpA (by intro e; cases e)) (ne_of h hrA (by intro e; cases e))
        · have nn : ∀ {d : Addr}, G' d = none → c ≠ d := fun h2 z => by rw [z, h2] at h; cases h
          rw [ch _ _ _ _ _ (nn gG) (nn gC) (nn gP) (nn gR)]
          exact T10.sm _ _ h
      have grH : Gro H G G' := ⟨fun c o h => gr.sm _ _ (g1s _ _ h), fun c o h => by
        by_cases z : c = st
        · subst z
          rw [gr.nw _ _ hs9]
          exact g1.nw _ _ h
        · rw [gr.nw _ _ (kk9 _ _ h z)]
          exact g1.nw _ _ h⟩
      refine k G' _ _ _ (n + 1) (Nat.le_refl _) (fun c o h => gr.sm _ _ (g1s _ _ h)) (W.start (r := p) (t := ⟨(n : Int) + 1, now + ((if ag = true then (1 : Int) else 0) + r2), if ag = true then (if ag = true then (1 : Int) else 0) + r2 else 0, 1 + r3, r4, r5, r6⟩) (Tf _ _ _ _) grH ?_ ?_ ?_ ?_ ?_ npH gP rfl ?_ (by omega))
      · rw [upd_same, List.map_append]
        rfl
      · exact ⟨e, b, q, by rw [upd_ne pra, upd_same], gr.sm _ _ g1e, gr.sm _ _ g1b, gr.sm _ _ g1q⟩
      · exact ⟨_, by rw [upd_ne W.rc.symm, upd_ne pcs.symm, upd_same], by rw [List.length_append, ez]; rfl⟩
      · exact ⟨zz, by rw [ch _ _ _ _ _ gst W.ct.symm pst W.rs.symm]; exact hsA, zs2⟩
      · intro c o h z1 z2 z3 z4 z5 z6
        have h9 := kk9 _ _ h z5
        have c1 : c ≠ g := ne_of_none h ngH
        have c2 : c ≠ p := ne_of_none h npH
        rw [ch _ _ _ _ _ c1 z4 c2 z3]
        exact o10 _ _ h9 z1 z2 z6
      · show 0 ≤ if ag = true then _ else _
        split <;> omega
end
end N5
end VL

set_option Elab.async false
set_option linter.all false
set_option maxRecDepth 100000
set_option maxHeartbeats 4000000
namespace VL
open PySem PySem.Spec PyProof.Rows L2
theorem u64 {k : Nat} {A : Around} (r : Room k A) : A.units + 64 < cLine := by have := r.un; omega
theorem u53 {k : Nat} {A : Around} (r : Room k A) : A.units + 3 + 50 < cLine := by have := r.un; omega
theorem filter_at {α : Type} (p : α → Bool) : ∀ (l : List α) (j : Nat) (h : j < l.length), p l[j] = true → (∀ i (hi : i < l.length), p l[i] = true → i = j) → l.filter p = [l[j]]
  | x :: l, 0, h, e, u => by
    rw [List.filter_cons, if_pos (show p x = true from e)]
    have : l.filter p = [] := List.filter_eq_nil_iff.mpr fun y hy hp => by
      obtain ⟨i, hi, rfl⟩ := List.getElem_of_mem hy
      exact absurd (u (i + 1) (Nat.succ_lt_succ hi) hp) (by omega)
    rw [this]
    rfl
  | x :: l, j + 1, h, e, u => by
    have hx : ¬ p x = true := fun z => absurd (u 0 (Nat.succ_pos _) z) (by omega)
    rw [List.filter_cons, if_neg hx]
    exact filter_at p l j (Nat.lt_of_succ_lt_succ h) e fun i hi z => by have := u (i + 1) (Nat.succ_lt_succ hi) z; omega
theorem map_erase {α β : Type} (f : α → β) : ∀ (l : List α) (j : Nat), (l.map f).eraseIdx j = (l.eraseIdx j).map f
  | [], _ => rfl
  | _ :: _, 0 => rfl
  | x :: l, j + 1 => by
    show f x :: (l.map f).eraseIdx j = f x :: (l.eraseIdx j).map f
    rw [map_erase f l j]
theorem dec_i (i j : Int) : decide (V.int i = V.int j) = decide (i = j) := by by_cases q : i = j <;> simp [q]
namespace N5
def spFires (CT CS : Addr) : Sp := fun vs H Q _ => ∃ (G : Hp) (a l ra cs st : Addr) (L M : Tl) (n : Nat), vs = [.ref a, .ref ra] ∧ Wd CT CS G H a l ra cs st L M n ∧ M ≠ [] ∧
  ∀ H' L' M', Wd CT CS G H' a l ra cs st L' M' n → Q (.bl true) H'
/-- two rows of other numbers are not equal -/
theorem cmp_rows {G H : Hp} {r s : Addr} {t u : Tm} (hr : RwA G H r t) (hs : RwA G H s u) (sm : Same G H) (n : r ≠ s) (nu : t.num ≠ u.num) : CmpV H 3 (.ref r) (.ref s) false := by
  obtain ⟨e, b, q, h1, h2, h3, h4⟩ := hr
  obtain ⟨e', b', q', k1, k2, k3, k4⟩ := hs
  have int : ∀ (m : Nat) (i j : Int), CmpV H m (.int i) (.int j) (decide (i = j)) := fun m i j => by
    cases m with
    | zero => exact .inr ⟨i, j, rfl, rfl, rfl⟩
    | succ m => exact .inl (.inr ⟨i, j, rfl, rfl, rfl⟩)
  have blk : CmpV H 2 (.ref b) (.ref b') true := .inl (.inl ⟨⟨.list [.tuple [.str "stop"]], by show 2 ≤ 40; decide, .lst (sm _ _ h3) (.cons (.tup (sm _ _ h4) (.cons (.str _) .nil)) .nil), .lst (sm _ _ k3) (.cons (.tup (sm _ _ k4) (.cons (.str _) .nil)) .nil)⟩, rfl⟩)
  have env : ∃ c, CmpV H 2 (.ref e) (.ref e') c := by
    by_cases z : e = e'
    · subst z
      exact ⟨true, .inl (.inl ⟨⟨.dict (zipK (eX t.env) [.int t.env]), by show 1 ≤ 40; decide, .dic (sm _ _ h2) (by simp) (.cons (.int _) .nil), .dic (sm _ _ h2) (by simp) (.cons (.int _) .nil)⟩, rfl⟩)⟩
    · exact ⟨_, .inr ⟨e, e', _, _, rfl, rfl, z, sm _ _ h2, sm _ _ k2, rfl, .hit (k := .inr "x") rfl (int 1 _ _) .nil⟩⟩
  obtain ⟨c, env⟩ := env
  have all : DecP (CmpV H 2) (rwK u e' b') (rwK t e b) _ := .hit (k := .inr "owner") rfl (int 2 _ _) (.hit (k := .inr "lane") rfl (int 2 _ _) (.hit (k := .inr "env") rfl env (.hit (k := .inr "block") rfl blk (.hit (k := .inr "run") rfl (int 2 _ _) (.hit (k := .inr "due") rfl (int 2 _ _) (.hit (k := .inr "period") rfl (int 2 _ _) (.hit (k := .inr "number") rfl (int 2 _ _) .nil)))))))
  rw [decide_eq_false nu] at all
  simp only [Bool.false_and, Bool.and_false] at all
  exact .inr ⟨r, s, _, _, rfl, rfl, n, h1, k1, rfl, all⟩
section
variable {P : Program} {w : World} {K : PySem.W.Frag} {mg : Str → Option Value} {base : Heap} {C : Ad}
theorem sc__law_fires : FnScope ["timers", "rows", "number", "row", "told"] ["timers", "rows"] (defScope s__law_fires) := ⟨rfl, rfl, rfl, by decide +kernel, rfl, by decide +kernel, by decide +kernel⟩
theorem ok_fires (T : Txt K w mg C) : Cal P w K mg base 5 "_law_fires" (spFires C.Timer C.Timers) := by
  have G_law_told : Cal P w K mg base 1 "_law_told" spTri := ok_tri T
  have Mfire : Met P w K mg base 4 C.Timers "fire" (spFire C.Timer C.Timers) := ok_fire T
  refine cal_of T.d__law_fires sc__law_fires (fun vs H Q E h => ?_) (fun f cdv A outer s H vs Q E hr h => ?_)
  · obtain ⟨G, a, l, ra, cs, st, L, M, n, rfl, _⟩ := h
    rfl
  · obtain ⟨G, a, l, ra, cs, st, L, M, n, rfl, W, hM, k⟩ := h
    have hu := hu_of hr
    refine ⟨_, (pss_cons (ps_set (i := 2) sc__law_fires.nd rfl (Or.inr rfl) (pe_ix ix_tup (pe_ix ix_list (pe_c G_law_told hr (by decide) (by rfl) (pa_cons (pv 1) pa_nil)) pe_int (fun _ _ => rfl)) pe_int (fun _ _ => rfl))) (pss_cons (ps_set (i := 3) sc__law_fires.nd rfl (Or.inl rfl) (pe_ix ix_list (pe_lc (own := [("row", 3)]) (g := gName 3) (tt := _) rfl sc__law_fires.nd (pi_list (pv 1)) (blkOk_by (N := ["timers", "rows", "number", "row", "told"]) (sc := (defScope s__law_fires)) (by decide +kernel)) (fun _ _ _ _ _ => pg_name (i := 3) sc__law_fires.nd rfl (Or.inl rfl)) (fun _ _ _ _ _ => pts_one (pt_cmpR op_eq (pe_dget hu (pv 3) pe_str (fun _ _ => rfl)) (pv 2) (nomark _))) (fun _ _ _ _ _ => (pv 3))) pe_int (fun _ _ => rfl))) (pss_cons (ps_set (i := 4) sc__law_fires.nd rfl (Or.inl rfl) (pe_mt0 Mfire hr (by decide) (pv 0))) (pss_cons (ps_if (pt_cmpR (op_neQT (u64 hr)) (pv 4) (pe_tup (pa_cons (pe_dget hu (pv 3) pe_str (fun _ _ => rfl)) (pa_cons (pe_dget hu (pv 3) pe_str (fun _ _ => rfl)) (pa_cons (pe_dget hu (pv 3) pe_str (fun _ _ => rfl)) (pa_cons (pe_dget hu (pv 3) pe_str (fun _ _ => rfl)) (pa_cons (pe_dget hu (pv 3) pe_str (fun _ _ => rfl)) pa_nil)))))) (nomark _)) (pss_one (ps_ret pe_bl)) pss_nil) (pss_cons (ps_dput hu (pe_ix ix_tup (pv 4) pe_int (fun _ _ => rfl)) pe_str pe_int rfl) (pss_cons (ps_if (pt_cmpR op_eq (pe_dget hu (pv 3) pe_str (fun _ _ => rfl)) pe_int (nomark _)) (pss_one (ps_expr (pe_bm PySem.F.plainAttrs_list PySem.F.slot_list_remove PySem.F.type_list_remove (mt_remQ (n := 3) (u53 hr)) (pv 1) (pa_cons (pv 3) pa_nil)))) (pss_one (ps_dput hu (pv 3) pe_str (pe_op op_add (pe_dget hu (pv 3) pe_str (fun _ _ => rfl)) (pe_dget hu (pv 3) pe_str (fun _ _ => rfl))) rfl))) (pss_one (ps_ret pe_bl)))))))), ?_⟩
    have lL := W.lenL
    have lM := W.len
    obtain ⟨x, t, L', rfl⟩ : ∃ x t L', L = (x, t) :: L' := by
      cases L with
      | nil => exact absurd (List.length_eq_zero_iff.mp lL.symm) hM
      | cons e L' => exact ⟨e.1, e.2, L', rfl⟩
    obtain ⟨j, hj, ej, uj⟩ := W.row
    refine ⟨_, rfl, G, ra, M, rfl, W.hr, W.rw_, W.len, fun r ps D H1 s1 nr hr1 pr pd sd => ?_⟩
    have eD := tri_eq W.srt W.pm pd sd
    subst eD
    obtain ⟨p0, ps', rfl⟩ : ∃ p0 ps', ps = p0 :: ps' := by
      cases pr with
      | cons _ _ => exact ⟨_, _, rfl⟩
    have g0 : H1 p0 = some (.tup [.int t.due, .int t.num, .int t.per]) := by cases pr with | cons r _ => exact r
    refine ⟨r, _, 0, .ref p0, rfl, rfl, SqL.of hr1, at0, p0, _, 1, _, rfl, rfl, SqT.of g0, rfl, ?_⟩
    have hra1 := s1 _ _ W.hr
    refine ⟨_, rfl, ra, rfl, ⟨_, SqL.of hra1⟩, fun D hD => ?_⟩
    refine lc_it (walk_list (K := K) (a := ra) (xs := M.map fun e => V.ref e.1)) (fun i H' => Same H1 H' ∧ H' D = some (.lst (((M.take i).filter fun e => decide (e.2.num = t.num)).map fun e => V.ref e.1))) ⟨Same.new hD, upd_same⟩ (fun i H' _ z => SqL.of (z.1 _ _ hra1)) ?_ ?_
    · rintro i y H2 H3 hi ⟨s2, hd⟩ ⟨rfl, hx⟩
      have hi' : i < M.length := by rw [List.length_map] at hi; exact hi
      have ex : y = .ref M[i].1 := by
        rw [List.getElem?_map, List.getElem?_eq_getElem hi'] at hx
        exact (Option.some.inj hx).symm
      subst ex
      obtain ⟨e1, b1, q1, h1, h2⟩ := W.rw_ M[i] (List.getElem_mem hi')
      have h1' := s2 _ _ (s1 _ _ h1)
      have et := take_filter (L := M) (p := fun e => decide (e.2.num = t.num)) (f := fun e => V.ref e.1) hi'
      refine ⟨rfl, ?_⟩
      refine ⟨_, rfl, M[i].1, .int M[i].2.num, rfl, dgK (k := .inr "number") h1', _, rfl, rfl, ?_⟩
      refine ⟨_, rfl, ?_⟩
      refine ite2 (fun q => ?_) (fun q => ?_)
      · rw [if_pos (show decide (M[i].2.num = t.num) = true by rw [← dec_i]; exact q)] at et
        refine ⟨_, rfl, _, hd, ?_, ?_⟩
        · rw [List.length_map]
          have h1 := List.length_filter_le (fun e : Addr × Tm => decide (e.2.num = t.num)) (M.take i)
          have h2 := List.length_take_le i M
          exact small1000 (by omega)
        · refine ⟨fun c o e => ?_, ?_⟩
          · rw [upd_ne (ne_of_none e hD)]
            exact s2 _ _ e
          · rw [upd_same, et]
      · rw [if_neg (show ¬ decide (M[i].2.num = t.num) = true by rw [← dec_i]; exact q), List.append_nil] at et
        exact ⟨s2, by rw [hd, et]⟩
    · rintro H2 ⟨s2, hd⟩
      rw [List.length_map, List.take_length, filter_at _ M j hj (decide_eq_true (by rw [ej])) (fun i hi z => uj i hi (of_decide_eq_true z))] at hd
      refine ⟨D, _, 0, .ref M[j].1, rfl, rfl, SqL.of hd, at0, ?_⟩
      have s12 : Same H H2 := fun c o e => s2 _ _ (s1 _ _ e)
      have W2 := W.new s12
      obtain ⟨dx, ha2⟩ := W2.ts.ob
      refine ⟨_, rfl, a, dx, _, rfl, ha2, rfl, G, a, l, x, t, L', n, rfl, W2.ts, by rw [List.length_cons] at lL; omega, fun p e b q H3 np ne hp he hb hq S3 fr3 => ?_⟩
      -- the row
      obtain ⟨er, br, qr, hrj, ger, gbr, gqr⟩ := W2.rw_ M[j] (List.getElem_mem hj)
      rw [ej] at hrj ger
      have o3 : ∀ c o, H2 c = some o → (∀ dy f, o ≠ .ins C.Timer dy f) → c ≠ a → c ≠ l → H3 c = some o := fun c o h2 ho z1 z2 => fr3 _ _ h2 z1 z2 fun e he => by
        obtain ⟨dy, p, h, _⟩ := W2.ts.tm e he
        exact ne_of h2 h (ho _ _)
      have hrj3 : H3 M[j].1 = some (.dK (rwK t er br)) := o3 _ _ hrj (by intro _ _ e; cases e) (ne_of hrj ha2 (by intro e; cases e)) (ne_of hrj W2.ts.ls (by intro e; cases e))
      have hra3 : H3 ra = some (.lst (M.map fun e => V.ref e.1)) := o3 _ _ W2.hr (by intro _ _ e; cases e) (ne_of W2.hr ha2 (by intro e; cases e)) W.lr.symm
      have her3 := S3.sm _ _ ger
      have hbr3 := S3.sm _ _ gbr
      have hqr3 := S3.sm _ _ gqr
      refine ⟨_, rfl, ?_⟩
      refine ⟨_, rfl, M[j].1, .int t.own, rfl, dgK (k := .inr "owner") hrj3, ?_⟩
      refine ⟨_, rfl, M[j].1, .int t.lane, rfl, dgK (k := .inr "lane") hrj3, ?_⟩
      refine ⟨_, rfl, M[j].1, .ref er, rfl, dgK (k := .inr "env") hrj3, ?_⟩
      refine ⟨_, rfl, M[j].1, .ref br, rfl, dgK (k := .inr "block") hrj3, ?_⟩
      refine ⟨_, rfl, M[j].1, .int t.run, rfl, dgK (k := .inr "run") hrj3, ?_⟩
      refine ⟨by show 5 ≤ sizeLine; decide, fun u hu' => ?_⟩
      have s34 : Same H3 (upd H3 u (.tup [.int t.own, .int t.lane, .ref er, .ref br, .int t.run])) := Same.new hu'
      have hu4 : upd H3 u (.tup [.int t.own, .int t.lane, .ref er, .ref br, .int t.run]) u = some (.tup [.int t.own, .int t.lane, .ref er, .ref br, .int t.run]) := upd_same
      have k34 : ∀ c, c ≠ u → upd H3 u (.tup [.int t.own, .int t.lane, .ref er, .ref br, .int t.run]) c = H3 c := fun c z => upd_ne z
      generalize upd H3 u (.tup [.int t.own, .int t.lane, .ref er, .ref br, .int t.run]) = H4 at s34 hu4 k34
      refine ⟨[.int t.own, .int t.lane, .dict (zipK (eX t.env) [.int t.env]), .list [.tuple [.str "stop"]], .int t.run], by show 2 ≤ 60; decide, .tup (s34 _ _ hp) (.cons (.int _) (.cons (.int _) (.cons (.dic (s34 _ _ he) (by simp) (.cons (.int _) .nil)) (.cons (.lst (s34 _ _ hb) (.cons (.tup (s34 _ _ hq) (.cons (.str _) .nil)) .nil)) (.cons (.int _) .nil))))),
        .tup hu4 (.cons (.int _) (.cons (.int _) (.cons (.dic (s34 _ _ her3) (by simp) (.cons (.int _) .nil)) (.cons (.lst (s34 _ _ hbr3) (.cons (.tup (s34 _ _ hqr3) (.cons (.str _) .nil)) .nil)) (.cons (.int _) .nil))))), ?_⟩
      refine ⟨_, rfl, iteF ?_⟩
      have he4 := s34 _ _ he
      refine ⟨_, rfl, p, _, 2, .ref e, rfl, rfl, SqT.of (s34 _ _ hp), rfl, e, _, rfl, DPut.k (k := .inr "x") he4 (by show 1 < sizeLine; decide), ?_⟩
      rw [show putK (eX t.env) (.inr "x") (.int 77) = eX 77 from rfl]
      have neG : G e = none := by
        cases z : G e with
        | none => rfl
        | some o => rw [W2.ts.sm _ _ z] at ne; cases ne
      have S4 := S3.mono s34
      obtain ⟨dx4, ha4⟩ := S4.ob
      have S5 : TsA C.Timer C.Timers G (upd H4 e (.dK (eX 77))) a l (if t.per > 0 then insT L' (x, nextT t) else L') n := S4.other (q := e) (fun c o h z => by rw [upd_ne z]; exact h) neG (ne_of ha4 he4 (by intro e; cases e)) (ne_of S4.ls he4 (by intro e; cases e)) (fun f hf => by
        obtain ⟨dy, y, h, _⟩ := S4.tm f hf
        exact ne_of h he4 (by intro e; cases e))
      have nrj : M[j].1 ≠ e := ne_of_none hrj ne
      have nra : ra ≠ e := ne_of_none W2.hr ne
      have hrj5 : upd H4 e (.dK (eX 77)) M[j].1 = some (.dK (rwK t er br)) := by rw [upd_ne nrj]; exact s34 _ _ hrj3
      have hra5 : upd H4 e (.dK (eX 77)) ra = some (.lst (M.map fun e => V.ref e.1)) := by rw [upd_ne nra]; exact s34 _ _ hra3
      have f5 : ∀ c o, H2 c = some o → c ≠ a → c ≠ l → (∀ e ∈ (x, t) :: L', c ≠ e.1) → upd H4 e (.dK (eX 77)) c = some o := fun c o h z1 z2 z3 => by
        rw [upd_ne (ne_of_none h ne)]
        exact s34 _ _ (fr3 _ _ h z1 z2 z3)
      generalize upd H4 e (.dK (eX 77)) = H5 at S5 hrj5 hra5 f5
      refine ⟨_, rfl, M[j].1, .int t.per, rfl, dgK (k := .inr "period") hrj5, rfl, ?_⟩
      refine ⟨_, rfl, ?_⟩
      have p0 : 0 ≤ t.per := by have := W.pe _ (List.getElem_mem hj); rw [ej] at this; exact this
      refine ite2 (fun z => ?_) (fun z => ?_)
      · have zp : t.per = 0 := of_decide_eq_true (by rw [← dec_i]; exact z)
        rw [if_neg (by omega)] at S5
        have rws : ∀ e ∈ M, RwA G H5 e.1 e.2 := fun e he => by
          obtain ⟨y, b', q', h1, h2⟩ := W2.rw_ e he
          exact ⟨y, b', q', f5 _ _ h1 (ne_of h1 ha2 (by intro e; cases e)) (ne_of h1 W2.ts.ls (by intro e; cases e)) (fun f hf => by
            obtain ⟨dy, p, h, _⟩ := W2.ts.tm f hf
            exact ne_of h1 h (by intro e; cases e)), h2⟩
        refine ⟨_, rfl, .inl ⟨rfl, _, SqL.of hra5⟩, _, rfl, ra, _, M[j].1, j, rfl, rfl, hra5, by rw [List.getElem?_map, List.getElem?_eq_getElem hj]; rfl, fun i y hi hy => ?_, ?_⟩
        · have hiM : i < M.length := by omega
          rw [List.getElem?_map, List.getElem?_eq_getElem hiM] at hy
          cases hy
          have nd := List.pairwise_iff_getElem.mp W.nd i j (by rw [List.length_map]; exact hiM) (by rw [List.length_map]; exact hj) hi
          rw [List.getElem_map, List.getElem_map] at nd
          have nu := List.pairwise_iff_getElem.mp W.nu i j hiM hj hi
          exact cmp_rows (rws _ (List.getElem_mem hiM)) (rws _ (List.getElem_mem hj)) S5.sm nd (by omega)
        · obtain ⟨dx5, ha5⟩ := S5.ob
          refine k _ L' (M.eraseIdx j) (W.fire0 hj ej (S5.other (q := ra) (fun c o h z => by rw [upd_ne z]; exact h) W.gr (ne_of ha5 hra5 (by intro e; cases e)) W.lr (fun f hf => ?_)) ?_ ?_)
          · obtain ⟨dy, y, h, _⟩ := S5.tm f hf
            exact ne_of h hra5 (by intro e; cases e)
          · rw [upd_same, map_erase]
          · intro c o h z1 z2 z3 z4
            rw [upd_ne z3]
            exact f5 _ _ (s12 _ _ h) z1 z2 z4
      · have zp : t.per ≠ 0 := fun z' => z (by rw [dec_i]; exact decide_eq_true z')
        rw [if_pos (by omega)] at S5
        refine ⟨_, rfl, M[j].1, .int t.due, rfl, dgK (k := .inr "due") hrj5, _, rfl, M[j].1, .int t.per, rfl, dgK (k := .inr "period") hrj5, _, _, rfl, rfl, _, rfl, M[j].1, _, rfl, DPut.k (k := .inr "due") hrj5 (by show 8 < sizeLine; decide), ?_⟩
        obtain ⟨dx5, ha5⟩ := S5.ob
        refine k _ _ _ (W.fire1 hj ej (S5.other (q := M[j].1) (fun c o h z => by rw [upd_ne z]; exact h) (W.gm _ (List.getElem_mem hj)) (ne_of ha5 hrj5 (by intro e; cases e)) (ne_of S5.ls hrj5 (by intro e; cases e)) (fun f hf => ?_)) ⟨er, br, qr, upd_same, ger, gbr, gqr⟩ ?_)
        · obtain ⟨dy, y, h, _⟩ := S5.tm f hf
          exact ne_of h hrj5 (by intro e; cases e)
        · intro c o h z1 z2 z3 z4
          rw [upd_ne z3]
          exact f5 _ _ (s12 _ _ h) z1 z2 z4
end
end N5
end VL

set_option Elab.async false
set_option linter.all false
set_option maxRecDepth 100000
set_option maxHeartbeats 4000000
namespace VL
open PySem PySem.Spec PyProof.Rows L2
namespace N5
theorem have_of {X Y : Prop} (f : Y → X) (y : Y) : X := f y
/-- a state of drawing is made anew -/
def Wn (CT CS : Addr) (G H : Hp) (a l ra cs : Addr) (L M : Tl) (n : Nat) : Prop := ∀ st H', Same H H' → StA H' st → H st = none → Wd CT CS G H' a l ra cs st L M n
theorem Wn.same {CT CS : Addr} {G H H' : Hp} {a l ra cs : Addr} {L M : Tl} {n : Nat} (W : Wn CT CS G H a l ra cs L M n) (s : Same H H') : Wn CT CS G H' a l ra cs L M n := fun st H2 s2 S f => W st H2 (s.trans s2) S (s.free f)
theorem Wd.now {CT CS : Addr} {G H : Hp} {a l ra cs st : Addr} {L M : Tl} {n : Nat} (W : Wd CT CS G H a l ra cs st L M n) : Wn CT CS G H a l ra cs L M n := fun st' H' s S f => by
  have W' := W.new s
  obtain ⟨zs, hz, _⟩ := W.hc
  exact {
    ts := W'.ts
    hr := W'.hr
    rw_ := W'.rw_
    nd := W.nd
    hc := W'.hc
    sa := S
    gr := W.gr
    gc := W.gc
    gs := by
      cases z : G st' with
      | none => rfl
      | some o => rw [W.ts.sm _ _ z] at f; cases f
    gm := W.gm
    lr := W.lr
    lc := W.lc
    ls := ne_of_none W.ts.ls f
    rc := W.rc
    rs := ne_of_none W.hr f
    ct := ne_of_none hz f
    len := W.len
    srt := W.srt
    pm := W.pm
    nu := W.nu
    le := W.le
    pe := W.pe }
theorem Wd.fin {CT CS : Addr} {G H7 H8 H9 : Hp} {a l ra cs st l2 D : Addr} {L M : Tl} {n : Nat} {p : Tm → Bool} (W : Wd CT CS G H7 a l ra cs st L M n) (ts : TsA CT CS G H8 a l2 (L.filter fun e => p e.2) (n : Int)) (k : ∀ b o, H7 b = some o → b ≠ a → H8 b = some o) (nl : H7 l2 = none) (s : Same H8 H9) (hD : H8 D = none)
    (hd : H9 D = some (.lst ((M.filter fun e => p e.2).map fun e => V.ref e.1))) : Wd CT CS G H9 a l2 D cs st (L.filter fun e => p e.2) (M.filter fun e => p e.2) n := by
  refine W.keep (ts.mono s) hd (fun b o h z => s _ _ (k _ _ h z)) nl ?_ (ne_of_none ts.ls hD)
  cases z : H7 D with
  | none => rfl
  | some o =>
    by_cases c : D = a
    · obtain ⟨dx, h⟩ := ts.ob
      rw [c, h] at hD
      cases hD
    · rw [k _ _ z c] at hD
      cases hD
section
variable {P : Program} {w : World} {K : PySem.W.Frag} {mg : Str → Option Value} {base : Heap} {C : Ad}
theorem sc_law : FnScope ["script", "timers", "rows", "counts", "now", "k", "state", "kind", "j", "run", "ids", "row", "number"] ["script"] (defScope s_law) := ⟨rfl, rfl, rfl, by decide +kernel, rfl, by decide +kernel, by decide +kernel⟩
theorem ok_law {f : Addr} {fd : FuncData} (F : Fun K "law" "law" s_law f fd) (T : Txt K w mg C) : FnOk P w K mg base CX0 6 f fd ["script"] (spLaw K) := by
  have KTimers : Mak P w K mg base 1 "Timers" C.Timers (spTsInit C.Timers) := ok_tsinit T
  have Mend_run : Met P w K mg base 2 C.Timers "end_run" (spEndRun C.Timer C.Timers) := ok_endrun T
  have Mend_owners : Met P w K mg base 1 C.Timers "end_owners" (spEndOwn C.Timer C.Timers) := ok_endown T
  have Mclear : Met P w K mg base 1 C.Timers "clear" (spClear C.Timer C.Timers) := ok_clear T
  have G_law_cell : Cal P w K mg base 1 "_law_cell" (spCellA K) := ok_cell T
  have G_law_start : Cal P w K mg base 1 "_law_start" spStart := ok_start T
  have G_law_digit : Cal P w K mg base 1 "_law_digit" spDigit := ok_digit T
  have G_law_shows : Cal P w K mg base 3 "_law_shows" (spShows C.Timer C.Timers) := ok_shows T
  have G_law_starts : Cal P w K mg base 5 "_law_starts" (spStarts C.Timer C.Timers) := ok_starts T
  have G_law_fires : Cal P w K mg base 5 "_law_fires" (spFires C.Timer C.Timers) := ok_fires T
  refine F.ok sc_law (fun vs H Q E h => ?_) (fun cdv A outer s H vs Q E hr h => ?_)
  · obtain ⟨a, ns, rfl, _⟩ := h
    rfl
  · obtain ⟨sa, ns, rfl, hS, hlen, k⟩ := h
    have hu := hu_of hr
    refine ⟨_, (pss_cons (ps_set (i := 1) sc_law.nd rfl (Or.inl rfl) (pe_mk0 KTimers hr (by decide) (by rfl))) (pss_cons (ps_set (i := 2) sc_law.nd rfl (Or.inl rfl) (pe_lst pa_nil)) (pss_cons (ps_set (i := 3) sc_law.nd rfl (Or.inl rfl) (pe_lst pa_nil)) (pss_cons (ps_set (i := 4) sc_law.nd rfl (Or.inl rfl) pe_int) (pss_cons (ps_for PassesOwn.never rfl (pi_range1 (by rfl) T.z_range (pa_cons (pe_callB (call_min2 rfl) (by rfl) T.z_min (by decide +kernel) (pa_cons pe_int (pa_cons (pe_callB (call_max2 rfl) (by rfl) T.z_max (by decide +kernel) (pa_cons pe_int (pa_cons (pe_callB call_len_seq (by rfl) T.z_len PySem.boot_len (pa_cons (pv 0) pa_nil)) pa_nil))) pa_nil))) pa_nil)) (pg_name (i := 5) sc_law.nd rfl (Or.inl rfl)) (pss_cons (ps_set (i := 6) sc_law.nd rfl (Or.inr rfl) (pe_c G_law_start hr (by decide) (by rfl) (pa_cons (pe_c G_law_cell hr (by decide) (by rfl) (pa_cons (pv 0) (pa_cons (pv 5) pa_nil))) (pa_cons (pv 5) pa_nil)))) (pss_cons (ps_set (i := 7) sc_law.nd rfl (Or.inl rfl) (pe_c G_law_digit hr (by decide) (by rfl) (pa_cons (pv 6) (pa_cons pe_int pa_nil)))) (pss_cons (ps_set (i := 4) sc_law.nd rfl (Or.inl rfl) (pe_op op_add (pv 4) (pe_c G_law_digit hr (by decide) (by rfl) (pa_cons (pv 6) (pa_cons pe_int pa_nil))))) (C8.pss_cut (ps_if (pt_cmpR op_lt (pv 7) pe_int (nomark _)) (pss_one (ps_for PassesOwn.never rfl (pi_range1 (by rfl) T.z_range (pa_cons (pe_op op_add pe_int (pe_c G_law_digit hr (by decide) (by rfl) (pa_cons (pv 6) (pa_cons pe_int pa_nil)))) pa_nil)) (pg_name (i := 8) sc_law.nd rfl (Or.inl rfl)) (pss_one (ps_if (pt_not (pt_val (pe_c G_law_starts hr (by decide) (by rfl) (pa_cons (pv 1) (pa_cons (pv 2) (pa_cons (pv 3) (pa_cons (pv 4) (pa_cons (pv 6) pa_nil)))))))) (pss_one (ps_ret pe_bl)) pss_nil)))) (pss_one (ps_if (PW.pt (pw_and (pt_cmpR op_lt (pv 7) pe_int (nomark _)) (pw_and1 (pt_cmpR op_gt (pe_callB call_len_seq (by rfl) T.z_len PySem.boot_len (pa_cons (pv 2) pa_nil)) pe_int (nomark _))))) (pss_one (ps_if (pt_not (pt_val (pe_c G_law_fires hr (by decide) (by rfl) (pa_cons (pv 1) (pa_cons (pv 2) pa_nil))))) (pss_one (ps_ret pe_bl)) pss_nil)) (pss_one (ps_if (pt_cmpR op_eq (pv 7) pe_int (nomark _)) (pss_cons (ps_set (i := 9) sc_law.nd rfl (Or.inr rfl) (pe_op op_add pe_int (pe_c G_law_digit hr (by decide) (by rfl) (pa_cons (pv 6) (pa_cons pe_int pa_nil))))) (pss_cons (ps_expr (pe_mt Mend_run hr (by decide) (pv 1) (pa_cons (pv 9) pa_nil))) (pss_one (ps_setLc (i := 2) (own := [("row", 11)]) (g := gName 11) (tt := _) rfl sc_law.nd rfl rfl (sw_true rfl rfl rfl (by decide +kernel)) (pi_list (pv 2)) (blkOk_by (N := ["script", "timers", "rows", "counts", "now", "k", "state", "kind", "j", "run", "ids", "row", "number"]) (sc := (defScope s_law)) (by decide +kernel)) (fun _ _ _ _ _ => pg_name (i := 11) sc_law.nd rfl (Or.inl rfl)) (fun _ _ _ _ _ => pts_one (pt_cmpR op_ne (pe_dget hu (pv 11) pe_str (fun _ _ => rfl)) (pv 9) (nomark _))) (fun _ _ _ _ _ => (pv 11)))))) (pss_one (ps_if (pt_cmpR op_eq (pv 7) pe_int (nomark _)) (pss_cons (ps_set (i := 10) sc_law.nd rfl (Or.inr rfl) (pe_lc (own := [("number", 12)]) (g := gName 12) (tt := _) rfl sc_law.nd (pi_range2 (by rfl) T.z_range (pa_cons pe_int (pa_cons pe_int pa_nil))) (blkOk_by (N := ["script", "timers", "rows", "counts", "now", "k", "state", "kind", "j", "run", "ids", "row", "number"]) (sc := (defScope s_law)) (by decide +kernel)) (fun _ _ _ _ _ => pg_name (i := 12) sc_law.nd rfl (Or.inl rfl)) (fun _ _ _ _ _ => pts_one (pt_cmpR op_eq (pe_c G_law_digit hr (by decide) (by rfl) (pa_cons (pv 6) (pa_cons pe_int pa_nil))) pe_int (nomark _))) (fun _ _ _ _ _ => (pv 12)))) (pss_cons (ps_expr (pe_mt Mend_owners hr (by decide) (pv 1) (pa_cons (pe_callTy call_list_of (by rfl) T.z_list (by decide +kernel) (pa_cons (pv 10) pa_nil)) pa_nil))) (pss_one (ps_setLc (i := 2) (own := [("row", 11)]) (g := gName 11) (tt := _) rfl sc_law.nd rfl rfl (sw_true rfl rfl rfl (by decide +kernel)) (pi_list (pv 2)) (blkOk_by (N := ["script", "timers", "rows", "counts", "now", "k", "state", "kind", "j", "run", "ids", "row", "number"]) (sc := (defScope s_law)) (by decide +kernel)) (fun _ _ _ _ _ => pg_name (i := 11) sc_law.nd rfl (Or.inl rfl)) (fun _ _ _ _ _ => pts_one (pt_cmpR (op_notIn_seqS (K := K) rfl) (pe_dget hu (pv 11) pe_str (fun _ _ => rfl)) (pv 10) rfl)) (fun _ _ _ _ _ => (pv 11)))))) (pss_one (ps_if (pt_cmpR op_eq (pe_c G_law_digit hr (by decide) (by rfl) (pa_cons (pv 6) (pa_cons pe_int pa_nil))) pe_int (nomark _)) (pss_cons (ps_expr (pe_mt0 Mclear hr (by decide) (pv 1))) (pss_one (ps_set (i := 2) sc_law.nd rfl (Or.inl rfl) (pe_lst pa_nil)))) pss_nil))))))))) (pss_one (ps_if (pt_not (pt_val (pe_c G_law_shows hr (by decide) (by rfl) (pa_cons (pv 1) (pa_cons (pv 2) pa_nil))))) (pss_one (ps_ret pe_bl)) pss_nil))))))) (pss_one (ps_ret pe_bl))))))), ?_⟩
    intro a dx na ndx nax
    refine ⟨a, dx, rfl, upd_same, fun l H1 nl ha hl keep => ⟨rfl, ?_⟩⟩
    have s1 : Same H H1 := fun b o e => by
      refine keep b o ?_ (ne_of_none e na)
      rw [upd_ne (ne_of_none e na), upd_ne (ne_of_none e ndx)]
      exact e
    have nlH : H l = none := by
      cases e : H l with
      | none => rfl
      | some o =>
        rw [upd_ne (ne_of_none e na), upd_ne (ne_of_none e ndx), e] at nl
        cases nl
    have S0 : TsA C.Timer C.Timers H H1 a l [] 0 := ⟨⟨dx, ha⟩, hl, fun e he => (by cases he), List.nodup_nil, s1, na, nlH, fun e he => (by cases he)⟩
    refine ⟨by show 0 ≤ sizeLine; decide, fun ra nra => ?_⟩
    refine ⟨by show 0 ≤ sizeLine; decide, fun cs ncs => ?_⟩
    have cr : ra ≠ cs := ne_of_none upd_same ncs
    have ncs1 : H1 cs = none := by rw [upd_ne cr.symm] at ncs; exact ncs
    have s3 : Same H1 (upd (upd H1 ra (.lst [])) cs (.lst [])) := fun c o e => by rw [upd_ne (ne_of_none e ncs1), upd_ne (ne_of_none e nra)]; exact e
    have W0 : Wn C.Timer C.Timers H (upd (upd H1 ra (.lst [])) cs (.lst [])) a l ra cs [] [] 0 := fun st H' s S fr => {
      ts := (S0.mono s3).mono s
      hr := s _ _ (by rw [upd_ne cr, upd_same]; rfl)
      rw_ := fun e he => by cases he
      nd := List.nodup_nil
      hc := ⟨[], s _ _ upd_same, rfl⟩
      sa := S
      gr := s1.free nra
      gc := s1.free ncs1
      gs := s1.free (s3.free fr)
      gm := fun e he => by cases he
      lr := ne_of_none hl nra
      lc := ne_of_none hl ncs1
      ls := ne_of_none (s3 _ _ hl) fr
      rc := cr
      rs := ne_of_none (by rw [upd_ne cr, upd_same]) fr
      ct := ne_of_none upd_same fr
      len := by show 0 ≤ 20; omega
      srt := List.Pairwise.nil
      pm := List.Perm.nil
      nu := List.Pairwise.nil
      le := fun e he => by cases he
      pe := fun e he => by cases he }
    have sH : Same H (upd (upd H1 ra (.lst [])) cs (.lst [])) := s1.trans s3
    generalize upd (upd H1 ra (.lst [])) cs (.lst []) = H2 at W0 sH
    refine ⟨_, rfl, sa, _, rfl, .inl (sH.seq hS), ?_⟩
    refine ⟨8, _, rfl, 60, _, rfl, ?_⟩
    refine ⟨_, rfl, ?_, ?_, ?_⟩
    · rw [List.length_map]
      split <;> split <;> omega
    · rw [List.length_map]
      split <;> split <;> omega
    refine for_range (lo := 0) (fun i σ H' => ∃ (G : Hp) (l ra : Addr) (L M : Tl) (n : Nat) (now : Int), Same H G ∧ Same H H' ∧ Wn C.Timer C.Timers G H' a l ra cs L M n ∧ n ≤ 3 * i ∧ ∃ y5 y6 y7 y8 y9 y10 y11 y12, σ = [some (.ref sa), some (.ref a), some (.ref ra), some (.ref cs), some (.int now), y5, y6, y7, y8, y9, y10, y11, y12])
      ⟨H, l, ra, [], [], 0, 0, fun _ _ e => e, sH, W0, Nat.le_refl _, none, none, none, none, none, none, none, none, rfl⟩ ?_ ?_
    · rintro i σ H3 hi ⟨G, l, ra, L, M, n, now, sG, s3, W, hn, y5, y6, y7, y8, y9, y10, y11, y12, rfl⟩
      have hi60 : i < 60 := by
        rw [List.length_map] at hi
        split at hi <;> split at hi <;> omega
      refine ⟨_, rfl, _, rfl, sa, ns, _, rfl, s3.seq hS, by omega, fun zc => ?_⟩
      refine ⟨_, rfl, zc, _, rfl, fun st H4 nst s4 S4 => ?_⟩
      have W4 := W st H4 s4 S4 nst
      refine ⟨_, rfl, st, 14, rfl, W4.sa, by decide, fun kd H5 S5 k5 _ _ => ?_⟩
      have W5 := W4.digit k5 S5
      refine ⟨_, rfl, _, rfl, st, 3, rfl, S5, by decide, fun r2 H6 S6 k6 _ _ => ?_⟩
      refine ⟨_, _, rfl, rfl, ?_⟩
      have W6 := W5.digit k6 S6
      refine ⟨fun σ' H' => ∃ (G' : Hp) (l' ra' : Addr) (L' M' : Tl) (n' : Nat), Same H G' ∧ Wd C.Timer C.Timers G' H' a l' ra' cs st L' M' n' ∧ n' ≤ 3 * i + 3 ∧ ∃ x5 x6 x7 x8 x9 x10 x11 x12, σ' = [some (.ref sa), some (.ref a), some (.ref ra'), some (.ref cs), some (.int (now + r2)), x5, x6, x7, x8, x9, x10, x11, x12], ?_, ?_⟩
      · refine ⟨_, rfl, _, _, rfl, rfl, ?_⟩
        refine ⟨_, rfl, ite2 (fun z1 => ?_) (fun z1 => ?_)⟩
        · refine ⟨_, rfl, st, 3, rfl, S6, by decide, fun r3 H7 S7 k7 p3 q3 => ?_⟩
          have W7 := W6.digit k7 S7
          refine ⟨_, _, rfl, rfl, _, rfl, by omega, by omega, ?_⟩
          refine for_range (lo := 0) (fun j σ H' => ∃ (G' : Hp) (L' M' : Tl) (n' : Nat), Same H G' ∧ Wd C.Timer C.Timers G' H' a l ra cs st L' M' n' ∧ n' ≤ n + j ∧ ∃ x8, σ = [some (.ref sa), some (.ref a), some (.ref ra), some (.ref cs), some (.int (now + r2)), some (.int (0 + (i : Int))), some (.ref st), some (.int kd), x8, y9, y10, y11, y12]) ⟨G, L, M, n, sG, W7, Nat.le_refl _, _, rfl⟩ ?_ ?_
          · rintro j σ H8 hj ⟨G', L', M', n', sG', W', hn', x8, rfl⟩
            have hj3 : j < 3 := by omega
            refine ⟨_, rfl, _, rfl, _, rfl, _, rfl, _, rfl, G', a, l, ra, cs, st, L', M', n', _, rfl, W', by omega, fun G2 H9 L2 M2 n2 hn2 s2 W2 => ?_⟩
            refine ⟨true, rfl, ite2 (fun z => absurd z (by decide)) (fun _ => ?_)⟩
            exact ⟨G2, L2, M2, n2, sG'.trans s2, W2, by omega, _, rfl⟩
          · rintro σ H8 ⟨G', L', M', n', sG', W', hn', x8, rfl⟩
            exact ⟨G', l, ra, L', M', n', sG', W', by omega, _, _, _, _, _, _, _, _, rfl⟩
        · refine ⟨_, rfl, _, _, rfl, rfl, ?_⟩
          refine have_of (fun y => ⟨_, rfl, ite2 (fun _ => ⟨_, rfl, ra, _, rfl, .inl (SqL.of W6.hr), _, _, rfl, rfl, _, rfl, ite2 (fun z2 => ?_) (fun _ => y)⟩) (fun _ => y)⟩) ?_
          · have hM : M ≠ [] := fun z => by
              rw [z] at z2
              exact absurd z2 (by decide)
            refine ⟨_, rfl, _, rfl, G, a, l, ra, cs, st, L, M, n, rfl, W6, hM, fun H7 L2 M2 W7 => ?_⟩
            refine ⟨true, rfl, ite2 (fun z => absurd z (by decide)) (fun _ => ?_)⟩
            exact ⟨G, l, ra, L2, M2, n, sG, W7, by omega, _, _, _, _, _, _, _, _, rfl⟩
          · refine ⟨_, rfl, rfl, ?_⟩
            refine ⟨_, rfl, ite2 (fun _ => ?_) (fun _ => ?_)⟩
            · refine ⟨_, rfl, st, 3, rfl, S6, by decide, fun r3 H7 S7 k7 p3 q3 => ?_⟩
              have W7 := W6.digit k7 S7
              refine ⟨_, _, rfl, rfl, ?_⟩
              obtain ⟨dx7, ha7⟩ := W7.ts.ob
              refine ⟨_, rfl, a, dx7, _, rfl, ha7, rfl, _, rfl, G, a, l, L, n, 1 + r3, rfl, W7.ts, by rw [W7.lenL]; exact W7.len, fun l2 H8 nl2 ts8 k8 => ?_⟩
              have hra8 : H8 ra = some (.lst (M.map fun e => V.ref e.1)) := k8 _ _ W7.hr (ne_of W7.hr ha7 (by intro e; cases e))
              refine ⟨_, rfl, ra, rfl, ⟨_, SqL.of hra8⟩, fun D hD => ?_⟩
              refine lc_it (walk_list (K := K) (a := ra) (xs := M.map fun e => V.ref e.1)) (fun i H' => Same H8 H' ∧ H' D = some (.lst (((M.take i).filter fun e => !decide (e.2.run = 1 + r3)).map fun e => V.ref e.1))) ⟨Same.new hD, upd_same⟩ (fun i H' _ z => SqL.of (z.1 _ _ hra8)) ?_ ?_
              · rintro i y H9 H10 hi ⟨s9, hd⟩ ⟨rfl, hx⟩
                have hi' : i < M.length := by rw [List.length_map] at hi; exact hi
                have ex : y = .ref M[i].1 := by
                  rw [List.getElem?_map, List.getElem?_eq_getElem hi'] at hx
                  exact (Option.some.inj hx).symm
                subst ex
                obtain ⟨e1, b1, q1, h1, h2⟩ := W7.rw_ M[i] (List.getElem_mem hi')
                have h1' := s9 _ _ (k8 _ _ h1 (ne_of h1 ha7 (by intro e; cases e)))
                have et := take_filter (L := M) (p := fun e => !decide (e.2.run = 1 + r3)) (f := fun e => V.ref e.1) hi'
                refine ⟨rfl, ?_⟩
                refine ⟨_, rfl, M[i].1, .int M[i].2.run, rfl, dgK (k := .inr "run") h1', _, rfl, rfl, ?_⟩
                refine ⟨_, rfl, ?_⟩
                refine ite2 (fun q => ?_) (fun q => ?_)
                · rw [if_pos (show (!decide (M[i].2.run = 1 + r3)) = true by rw [← dec_i]; exact q)] at et
                  refine ⟨_, rfl, _, hd, ?_, ?_⟩
                  · rw [List.length_map]
                    have h1 := List.length_filter_le (fun e : Addr × Tm => !decide (e.2.run = 1 + r3)) (M.take i)
                    have h2 := List.length_take_le i M
                    have h3 := W7.len
                    exact small1000 (by omega)
                  · refine ⟨fun c o e => ?_, ?_⟩
                    · rw [upd_ne (ne_of_none e hD)]
                      exact s9 _ _ e
                    · rw [upd_same, et]
                · rw [if_neg (show ¬ (!decide (M[i].2.run = 1 + r3)) = true by rw [← dec_i]; exact q), List.append_nil] at et
                  exact ⟨s9, by rw [hd, et]⟩
              · rintro H9 ⟨s9, hd⟩
                rw [List.length_map, List.take_length] at hd
                exact ⟨G, l2, D, _, _, n, sG, W7.fin (p := fun t => !decide (t.run = 1 + r3)) ts8 k8 nl2 s9 hD hd, by omega, _, _, _, _, _, _, _, _, rfl⟩
            · refine ⟨_, rfl, rfl, ?_⟩
              refine ⟨_, rfl, ite2 (fun _ => ?_) (fun _ => ?_)⟩
              · refine ⟨1, 5, rfl, ⟨by decide, by decide, by decide, by decide⟩, fun D hD => ?_⟩
                have stD : st ≠ D := S6.nn hD
                refine lc_it (walk_range (lo := 1) (n := ((5 : Int) - 1).toNat)) (fun j H' => ∃ ids : List Int, H' D = some (.lst (ids.map V.int)) ∧ ids.length ≤ j ∧ Kp st H6 H' ∧ StA H' st) ⟨[], upd_same, Nat.le_refl _, Kp.new hD, S6.new hD⟩ (fun _ _ _ _ => trivial) ?_ ?_
                · rintro j y H7 H8 hj ⟨ids, hd, il, kk, SS⟩ ⟨rfl, rfl⟩
                  have hj4 : j < 4 := hj
                  refine ⟨rfl, ?_⟩
                  refine ⟨_, rfl, st, 3, rfl, SS, by decide, fun r3 H9 S9 k9 _ _ => ?_⟩
                  refine ⟨rfl, ?_⟩
                  refine ⟨_, rfl, ?_⟩
                  have hd9 := k9 _ _ hd stD.symm
                  refine ite2 (fun q => ?_) (fun q => ?_)
                  · refine ⟨_, rfl, _, hd9, ?_, ?_⟩
                    · rw [List.length_map]
                      exact small1000 (by omega)
                    · refine ⟨ids ++ [1 + (j : Int)], ?_, by rw [List.length_append, List.length_singleton]; omega, fun b o e z => ?_, S9.up stD⟩
                      · rw [upd_same, List.map_append]
                        rfl
                      · rw [upd_ne (ne_of_none e hD)]
                        exact k9 _ _ (kk _ _ e z) z
                  · exact ⟨ids, hd9, by omega, kk.trans k9, S9⟩
                · rintro H7 ⟨ids, hd, il, kk, SS⟩
                  have W7 := W6.digit kk SS
                  obtain ⟨dx7, ha7⟩ := W7.ts.ob
                  refine ⟨_, rfl, a, dx7, _, rfl, ha7, rfl, ?_⟩
                  refine ⟨_, rfl, D, _, rfl, .inl (SqL.of hd), fun c nc => ?_⟩
                  have W7c := W7.new (Same.new (o := .lst (ids.map V.int)) nc)
                  have ha7c := Same.new (o := .lst (ids.map V.int)) nc _ _ ha7
                  have hdc := Same.new (o := .lst (ids.map V.int)) nc _ _ hd
                  refine ⟨G, a, l, c, L, n, ids, rfl, W7c.ts, upd_same, by rw [W7c.lenL]; exact W7c.len, fun l2 H8 nl2 ts8 k8 => ?_⟩
                  have hra8 : H8 ra = some (.lst (M.map fun e => V.ref e.1)) := k8 _ _ W7c.hr (ne_of W7c.hr ha7c (by intro e; cases e))
                  have hD8 : H8 D = some (.lst (ids.map V.int)) := k8 _ _ hdc (ne_of hdc ha7c (by intro e; cases e))
                  refine ⟨_, rfl, ra, rfl, ⟨_, SqL.of hra8⟩, fun D2 hD2 => ?_⟩
                  refine lc_it (walk_list (K := K) (a := ra) (xs := M.map fun e => V.ref e.1)) (fun i H' => Same H8 H' ∧ H' D2 = some (.lst (((M.take i).filter fun e => !decide (e.2.own ∈ ids)).map fun e => V.ref e.1))) ⟨Same.new hD2, upd_same⟩ (fun i H' _ z => SqL.of (z.1 _ _ hra8)) ?_ ?_
                  · rintro i y H9 H10 hi ⟨s9, hd⟩ ⟨rfl, hx⟩
                    have hi' : i < M.length := by rw [List.length_map] at hi; exact hi
                    have ex : y = .ref M[i].1 := by
                      rw [List.getElem?_map, List.getElem?_eq_getElem hi'] at hx
                      exact (Option.some.inj hx).symm
                    subst ex
                    obtain ⟨e1, b1, q1, h1, h2⟩ := W7c.rw_ M[i] (List.getElem_mem hi')
                    have h1' := s9 _ _ (k8 _ _ h1 (ne_of h1 ha7c (by intro e; cases e)))
                    have et := take_filter (L := M) (p := fun e => !decide (e.2.own ∈ ids)) (f := fun e => V.ref e.1) hi'
                    have e0 : (if true = true then !inV (.int M[i].2.own) (ids.map V.int) else inV (.int M[i].2.own) (ids.map V.int)) = !decide (M[i].2.own ∈ ids) := by
                      show (!inV (.int M[i].2.own) (ids.map V.int)) = _
                      rw [inV_i]
                    refine ⟨rfl, ?_⟩
                    refine ⟨_, rfl, M[i].1, .int M[i].2.own, rfl, dgK (k := .inr "owner") h1', _, rfl, D, _, rfl, .inl (SqL.of (s9 _ _ hD8)), rfl, flat_i ids, _, rfl, ?_⟩
                    rw [e0]
                    refine ite2 (fun q => ?_) (fun q => ?_)
                    · rw [if_pos q] at et
                      refine ⟨_, rfl, _, hd, ?_, ?_⟩
                      · rw [List.length_map]
                        have h1 := List.length_filter_le (fun e : Addr × Tm => !decide (e.2.own ∈ ids)) (M.take i)
                        have h2 := List.length_take_le i M
                        have h3 := W7.len
                        exact small1000 (by omega)
                      · refine ⟨fun c o e => ?_, ?_⟩
                        · rw [upd_ne (ne_of_none e hD2)]
                          exact s9 _ _ e
                        · rw [upd_same, et]
                    · rw [if_neg q, List.append_nil] at et
                      exact ⟨s9, by rw [hd, et]⟩
                  · rintro H9 ⟨s9, hd⟩
                    rw [List.length_map, List.take_length] at hd
                    exact ⟨G, l2, D2, _, _, n, sG, W7c.fin (p := fun t => !decide (t.own ∈ ids)) ts8 k8 nl2 s9 hD2 hd, by omega, _, _, _, _, _, _, _, _, rfl⟩
              · refine ⟨_, rfl, st, 6, rfl, S6, by decide, fun r3 H7 S7 k7 p3 q3 => ?_⟩
                have W7 := W6.digit k7 S7
                refine ⟨rfl, ?_⟩
                refine ⟨_, rfl, ite2 (fun _ => ?_) (fun _ => ?_)⟩
                · obtain ⟨dx7, ha7⟩ := W7.ts.ob
                  refine ⟨_, rfl, a, dx7, _, rfl, ha7, rfl, G, a, l, L, n, rfl, W7.ts, fun l2 H8 nl2 ts8 k8 => ?_⟩
                  refine ⟨by show 0 ≤ sizeLine; decide, fun D hD => ?_⟩
                  have eL : (L.filter fun _ => false) = [] := List.filter_eq_nil_iff.mpr fun e _ z => by cases z
                  have eM : (M.filter fun _ => false) = [] := List.filter_eq_nil_iff.mpr fun e _ z => by cases z
                  exact ⟨G, l2, D, _, _, n, sG, W7.fin (p := fun _ => false) (by rw [eL]; exact ts8) k8 nl2 (Same.new hD) hD (by rw [eM, upd_same]; rfl), by omega, _, _, _, _, _, _, _, _, rfl⟩
                · exact ⟨G, l, ra, L, M, n, sG, W7, by omega, _, _, _, _, _, _, _, _, rfl⟩
      · rintro σ' H' ⟨G', l', ra', L', M', n', sG', W', hn', x5, x6, x7, x8, x9, x10, x11, x12, rfl⟩
        refine ⟨_, rfl, _, rfl, G', a, l', ra', L', M', n', rfl, W'.ts, W'.hr, W'.rw_, by rw [W'.lenL]; exact W'.len, W'.srt, W'.pm, fun H9 s9 => ?_⟩
        refine ⟨true, rfl, ite2 (fun z => absurd z (by decide)) (fun _ => ?_)⟩
        exact ⟨G', l', ra', L', M', n', _, sG', fun c o h => s9 _ _ (W'.ts.sm _ _ (sG' _ _ h)), W'.now.same s9, by omega, _, _, _, _, _, _, _, _, rfl⟩
    · rintro σ H3 ⟨G, l, ra, L, M, n, now, sG, s3, W, hn, y5, y6, y7, y8, y9, y10, y11, y12, rfl⟩
      exact k _
end
end N5
end VL

set_option Elab.async false
set_option linter.all false
set_option maxRecDepth 100000
set_option maxHeartbeats 4000000
namespace VL
open PySem PySem.Spec PyProof.Rows L2
theorem all_mk {l : PySem.W.OpenLaw} {w : World} {K : PySem.W.Frag} {h : Heap} {mg : Str → Option Value} {fa aTimer aTimers f1 f2 f3 f4 f5 f6 f7 f8 f9 p9 f10 kD10 f11 f12 f13 f14 f15 f16 f17 f18 f19 f20 f21 f22 f23 f24 f25 : Addr} (X : K.In h) (G : h.Ns mainGlobals mg) (hfa : mg "law" = some (.ref fa))
    {od1 an1 od2 an2 od3 an3 od4 an4 od5 an5 od6 an6 od7 an7 od8 an8 od9 an9 od10 an10 od11 an11 od12 an12 od13 an13 od14 an14 od15 an15 od16 an16 od17 an17 od18 an18 od19 an19 od20 an20 od21 an21 od22 an22 od23 an23 od24 an24 od25 an25 : Option Addr} {sl1 sl2 sl3 sl4 sl5 sl6 sl7 sl8 sl9 sl10 sl11 sl12 sl13 sl14 sl15 sl16 sl17 sl18 sl19 sl20 sl21 sl22 sl23 sl24 sl25 : Array (Option Value)} {v_MOST_TIMERS oc1 kV1 dc1 pm1 cd1 ct1 oc2 kV2 dc2 pm2 cd2 ct2 oc3 kV3 dc3 pm3 cd3 ct3 oc4 kV4 dc4 pm4 cd4 ct4 oc5 kV5 dc5 pm5 cd5 ct5 oc6 kV6 dc6 pm6 cd6 ct6 oc7 kV7 dc7 pm7 cd7 ct7 oc8 kV8 dc8 pm8 cd8 ct8 oc9 kV9 dc9 pm9 cd9 ct9 oc10 dc10 pm10 cd10 ct10 kv10run oc11 kV11 dc11 pm11 cd11 ct11 oc12 kV12 dc12 pm12 cd12 ct12 oc13 kV13 dc13 pm13 cd13 ct13 oc14 kV14 dc14 pm14 cd14 ct14 oc15 kV15 dc15 pm15 cd15 ct15 oc16 kV16 dc16 pm16 cd16 ct16 oc17 kV17 dc17 pm17 cd17 ct17 oc18 kV18 dc18 pm18 cd18 ct18 oc19 kV19 dc19 pm19 cd19 ct19 oc20 kV20 dc20 pm20 cd20 ct20 oc21 kV21 dc21 pm21 cd21 ct21 oc22 kV22 dc22 pm22 cd22 ct22 oc23 kV23 dc23 pm23 cd23 ct23 oc24 kV24 dc24 pm24 cd24 ct24 oc25 kV25 dc25 pm25 cd25 ct25 : Value} {rs9 : List Value} 
    (q_Timer : PySem.W.nsIn K mainGlobals "Timer" = some (some (.ref aTimer)))
    (pg_Timer : PySem.W.plainGet K aTimer Str.empty = true)
    (hd_Timer : PySem.W.hasDictIn K aTimer = true)
    (po_Timer : PySem.W.plainOver K aTimer = true)
    (sa_Timer : PySem.W.findIn K (.ref aTimer) "__setattr__" = some (some (.builtin "object.__setattr__")))
    (mk_Timer : PySem.W.makesIn K aTimer = true)
    (kc_Timer : PySem.W.keepIn K (.ref aTimer) = true)
    (n_Timer_number : PySem.W.findIn K (.ref aTimer) "number" = some none)
    (n_Timer_due : PySem.W.findIn K (.ref aTimer) "due" = some none)
    (n_Timer_period : PySem.W.findIn K (.ref aTimer) "period" = some none)
    (n_Timer_owner : PySem.W.findIn K (.ref aTimer) "owner" = some none)
    (n_Timer_performed : PySem.W.findIn K (.ref aTimer) "performed" = some none)
    (q_Timers : PySem.W.nsIn K mainGlobals "Timers" = some (some (.ref aTimers)))
    (pg_Timers : PySem.W.plainGet K aTimers Str.empty = true)
    (hd_Timers : PySem.W.hasDictIn K aTimers = true)
    (po_Timers : PySem.W.plainOver K aTimers = true)
    (sa_Timers : PySem.W.findIn K (.ref aTimers) "__setattr__" = some (some (.builtin "object.__setattr__")))
    (mk_Timers : PySem.W.makesIn K aTimers = true)
    (kc_Timers : PySem.W.keepIn K (.ref aTimers) = true)
    (n_Timers_running : PySem.W.findIn K (.ref aTimers) "running" = some none)
    (n_Timers_last : PySem.W.findIn K (.ref aTimers) "last" = some none)
    (z_bool : PySem.W.nsIn K mainGlobals "bool" = some none)
    (z_dict : PySem.W.nsIn K mainGlobals "dict" = some none)
    (z_int : PySem.W.nsIn K mainGlobals "int" = some none)
    (z_isinstance : PySem.W.nsIn K mainGlobals "isinstance" = some none)
    (z_len : PySem.W.nsIn K mainGlobals "len" = some none)
    (z_list : PySem.W.nsIn K mainGlobals "list" = some none)
    (z_max : PySem.W.nsIn K mainGlobals "max" = some none)
    (z_min : PySem.W.nsIn K mainGlobals "min" = some none)
    (z_property : PySem.W.nsIn K mainGlobals "property" = some none)
    (z_range : PySem.W.nsIn K mainGlobals "range" = some none)
    (z_sorted : PySem.W.nsIn K mainGlobals "sorted" = some none)
    (z_str : PySem.W.nsIn K mainGlobals "str" = some none)
    (z_tuple : PySem.W.nsIn K mainGlobals "tuple" = some none)
    (g_MOST_TIMERS : PySem.W.nsIn K mainGlobals "MOST_TIMERS" = some (some v_MOST_TIMERS))
    (r_MOST_TIMERS : RelV (V.int 20) v_MOST_TIMERS)
    (a1 : PySem.W.nsIn K mainGlobals "copied" = some (some (.ref f1)))
    (l1 : K.lookup f1 = some ⟨oc1, od1, .func (PySem.W.fnOf "copied" "copied" (defArgs s_copied) (defBody s_copied) (defScope s_copied) .none kV1 dc1 pm1 an1 cd1 ct1), sl1⟩)
    (c1 : PySem.W.codeIn K cd1 "copied" = true)
    (k1 : PySem.W.keepIn K (.ref f1) = true)
    (a2 : PySem.W.nsIn K mainGlobals "copy_of" = some (some (.ref f2)))
    (l2 : K.lookup f2 = some ⟨oc2, od2, .func (PySem.W.fnOf "copy_of" "copy_of" (defArgs s_copy_of) (defBody s_copy_of) (defScope s_copy_of) .none kV2 dc2 pm2 an2 cd2 ct2), sl2⟩)
    (c2 : PySem.W.codeIn K cd2 "copy_of" = true)
    (k2 : PySem.W.keepIn K (.ref f2) = true)
    (a3 : PySem.W.nsIn K mainGlobals "copied_names" = some (some (.ref f3)))
    (l3 : K.lookup f3 = some ⟨oc3, od3, .func (PySem.W.fnOf "copied_names" "copied_names" (defArgs s_copied_names) (defBody s_copied_names) (defScope s_copied_names) .none kV3 dc3 pm3 an3 cd3 ct3), sl3⟩)
    (c3 : PySem.W.codeIn K cd3 "copied_names" = true)
    (k3 : PySem.W.keepIn K (.ref f3) = true)
    (a4 : PySem.W.nsIn K mainGlobals "copied_source" = some (some (.ref f4)))
    (l4 : K.lookup f4 = some ⟨oc4, od4, .func (PySem.W.fnOf "copied_source" "copied_source" (defArgs s_copied_source) (defBody s_copied_source) (defScope s_copied_source) .none kV4 dc4 pm4 an4 cd4 ct4), sl4⟩)
    (c4 : PySem.W.codeIn K cd4 "copied_source" = true)
    (k4 : PySem.W.keepIn K (.ref f4) = true)
    (a5 : PySem.W.findIn K (.ref aTimer) "__init__" = some (some (.ref f5)))
    (i5 : PySem.W.isFn K (.ref f5) = true)
    (l5 : K.lookup f5 = some ⟨oc5, od5, .func (PySem.W.fnOf "__init__" "Timer.__init__" (defArgs s_Timer___init__) (defBody s_Timer___init__) (defScope s_Timer___init__) .none kV5 dc5 pm5 an5 cd5 ct5), sl5⟩)
    (c5 : PySem.W.codeIn K cd5 "Timer.__init__" = true)
    (k5 : PySem.W.keepIn K (.ref f5) = true)
    (a6 : PySem.W.findIn K (.ref aTimer) "belongs_to" = some (some (.ref f6)))
    (i6 : PySem.W.isFn K (.ref f6) = true)
    (l6 : K.lookup f6 = some ⟨oc6, od6, .func (PySem.W.fnOf "belongs_to" "Timer.belongs_to" (defArgs s_Timer_belongs_to) (defBody s_Timer_belongs_to) (defScope s_Timer_belongs_to) .none kV6 dc6 pm6 an6 cd6 ct6), sl6⟩)
    (c6 : PySem.W.codeIn K cd6 "Timer.belongs_to" = true)
    (k6 : PySem.W.keepIn K (.ref f6) = true)
    (a7 : PySem.W.findIn K (.ref aTimers) "__init__" = some (some (.ref f7)))
    (i7 : PySem.W.isFn K (.ref f7) = true)
    (l7 : K.lookup f7 = some ⟨oc7, od7, .func (PySem.W.fnOf "__init__" "Timers.__init__" (defArgs s_Timers___init__) (defBody s_Timers___init__) (defScope s_Timers___init__) .none kV7 dc7 pm7 an7 cd7 ct7), sl7⟩)
    (c7 : PySem.W.codeIn K cd7 "Timers.__init__" = true)
    (k7 : PySem.W.keepIn K (.ref f7) = true)
    (a8 : PySem.W.findIn K (.ref aTimers) "__len__" = some (some (.ref f8)))
    (i8 : PySem.W.isFn K (.ref f8) = true)
    (l8 : K.lookup f8 = some ⟨oc8, od8, .func (PySem.W.fnOf "__len__" "Timers.__len__" (defArgs s_Timers___len__) (defBody s_Timers___len__) (defScope s_Timers___len__) .none kV8 dc8 pm8 an8 cd8 ct8), sl8⟩)
    (c8 : PySem.W.codeIn K cd8 "Timers.__len__" = true)
    (k8 : PySem.W.keepIn K (.ref f8) = true)
    (a9 : PySem.W.findIn K (.ref aTimers) "told" = some (some (.ref p9)))
    (pq9 : PySem.W.specialIn K (.ref p9) "__get__" = some (some (.builtin "property.__get__")))
    (pt9 : PySem.W.takesIn K (.ref p9) = some true)
    (pr9 : PySem.W.recIn K p9 "property" = some (.ref f9 :: rs9))
    (l9 : K.lookup f9 = some ⟨oc9, od9, .func (PySem.W.fnOf "told" "Timers.told" (defArgs s_Timers_told) (defBody s_Timers_told) (defScope s_Timers_told) .none kV9 dc9 pm9 an9 cd9 ct9), sl9⟩)
    (c9 : PySem.W.codeIn K cd9 "Timers.told" = true)
    (k9 : PySem.W.keepIn K (.ref f9) = true)
    (a10 : PySem.W.findIn K (.ref aTimers) "start" = some (some (.ref f10)))
    (i10 : PySem.W.isFn K (.ref f10) = true)
    (l10 : K.lookup f10 = some ⟨oc10, od10, .func (PySem.W.fnOf "start" "Timers.start" (defArgs s_Timers_start) (defBody s_Timers_start) (defScope s_Timers_start) .none (.ref kD10) dc10 pm10 an10 cd10 ct10), sl10⟩)
    (c10 : PySem.W.codeIn K cd10 "Timers.start" = true)
    (k10 : PySem.W.keepIn K (.ref f10) = true)
    (kd10run : PySem.W.nsIn K kD10 "run" = some (some kv10run))
    (kr10run : RelV (V.int 0) kv10run)
    (a11 : PySem.W.findIn K (.ref aTimers) "put" = some (some (.ref f11)))
    (i11 : PySem.W.isFn K (.ref f11) = true)
    (l11 : K.lookup f11 = some ⟨oc11, od11, .func (PySem.W.fnOf "put" "Timers.put" (defArgs s_Timers_put) (defBody s_Timers_put) (defScope s_Timers_put) .none kV11 dc11 pm11 an11 cd11 ct11), sl11⟩)
    (c11 : PySem.W.codeIn K cd11 "Timers.put" = true)
    (k11 : PySem.W.keepIn K (.ref f11) = true)
    (a12 : PySem.W.findIn K (.ref aTimers) "next_due" = some (some (.ref f12)))
    (i12 : PySem.W.isFn K (.ref f12) = true)
    (l12 : K.lookup f12 = some ⟨oc12, od12, .func (PySem.W.fnOf "next_due" "Timers.next_due" (defArgs s_Timers_next_due) (defBody s_Timers_next_due) (defScope s_Timers_next_due) .none kV12 dc12 pm12 an12 cd12 ct12), sl12⟩)
    (c12 : PySem.W.codeIn K cd12 "Timers.next_due" = true)
    (k12 : PySem.W.keepIn K (.ref f12) = true)
    (a13 : PySem.W.findIn K (.ref aTimers) "fire" = some (some (.ref f13)))
    (i13 : PySem.W.isFn K (.ref f13) = true)
    (l13 : K.lookup f13 = some ⟨oc13, od13, .func (PySem.W.fnOf "fire" "Timers.fire" (defArgs s_Timers_fire) (defBody s_Timers_fire) (defScope s_Timers_fire) .none kV13 dc13 pm13 an13 cd13 ct13), sl13⟩)
    (c13 : PySem.W.codeIn K cd13 "Timers.fire" = true)
    (k13 : PySem.W.keepIn K (.ref f13) = true)
    (a14 : PySem.W.findIn K (.ref aTimers) "end_run" = some (some (.ref f14)))
    (i14 : PySem.W.isFn K (.ref f14) = true)
    (l14 : K.lookup f14 = some ⟨oc14, od14, .func (PySem.W.fnOf "end_run" "Timers.end_run" (defArgs s_Timers_end_run) (defBody s_Timers_end_run) (defScope s_Timers_end_run) .none kV14 dc14 pm14 an14 cd14 ct14), sl14⟩)
    (c14 : PySem.W.codeIn K cd14 "Timers.end_run" = true)
    (k14 : PySem.W.keepIn K (.ref f14) = true)
    (a15 : PySem.W.findIn K (.ref aTimers) "end_owners" = some (some (.ref f15)))
    (i15 : PySem.W.isFn K (.ref f15) = true)
    (l15 : K.lookup f15 = some ⟨oc15, od15, .func (PySem.W.fnOf "end_owners" "Timers.end_owners" (defArgs s_Timers_end_owners) (defBody s_Timers_end_owners) (defScope s_Timers_end_owners) .none kV15 dc15 pm15 an15 cd15 ct15), sl15⟩)
    (c15 : PySem.W.codeIn K cd15 "Timers.end_owners" = true)
    (k15 : PySem.W.keepIn K (.ref f15) = true)
    (a16 : PySem.W.findIn K (.ref aTimers) "clear" = some (some (.ref f16)))
    (i16 : PySem.W.isFn K (.ref f16) = true)
    (l16 : K.lookup f16 = some ⟨oc16, od16, .func (PySem.W.fnOf "clear" "Timers.clear" (defArgs s_Timers_clear) (defBody s_Timers_clear) (defScope s_Timers_clear) .none kV16 dc16 pm16 an16 cd16 ct16), sl16⟩)
    (c16 : PySem.W.codeIn K cd16 "Timers.clear" = true)
    (k16 : PySem.W.keepIn K (.ref f16) = true)
    (a17 : PySem.W.nsIn K mainGlobals "_law_cell" = some (some (.ref f17)))
    (l17 : K.lookup f17 = some ⟨oc17, od17, .func (PySem.W.fnOf "_law_cell" "_law_cell" (defArgs s__law_cell) (defBody s__law_cell) (defScope s__law_cell) .none kV17 dc17 pm17 an17 cd17 ct17), sl17⟩)
    (c17 : PySem.W.codeIn K cd17 "_law_cell" = true)
    (k17 : PySem.W.keepIn K (.ref f17) = true)
    (a18 : PySem.W.nsIn K mainGlobals "_law_is_integer" = some (some (.ref f18)))
    (l18 : K.lookup f18 = some ⟨oc18, od18, .func (PySem.W.fnOf "_law_is_integer" "_law_is_integer" (defArgs s__law_is_integer) (defBody s__law_is_integer) (defScope s__law_is_integer) .none kV18 dc18 pm18 an18 cd18 ct18), sl18⟩)
    (c18 : PySem.W.codeIn K cd18 "_law_is_integer" = true)
    (k18 : PySem.W.keepIn K (.ref f18) = true)
    (a19 : PySem.W.nsIn K mainGlobals "_law_start" = some (some (.ref f19)))
    (l19 : K.lookup f19 = some ⟨oc19, od19, .func (PySem.W.fnOf "_law_start" "_law_start" (defArgs s__law_start) (defBody s__law_start) (defScope s__law_start) .none kV19 dc19 pm19 an19 cd19 ct19), sl19⟩)
    (c19 : PySem.W.codeIn K cd19 "_law_start" = true)
    (k19 : PySem.W.keepIn K (.ref f19) = true)
    (a20 : PySem.W.nsIn K mainGlobals "_law_digit" = some (some (.ref f20)))
    (l20 : K.lookup f20 = some ⟨oc20, od20, .func (PySem.W.fnOf "_law_digit" "_law_digit" (defArgs s__law_digit) (defBody s__law_digit) (defScope s__law_digit) .none kV20 dc20 pm20 an20 cd20 ct20), sl20⟩)
    (c20 : PySem.W.codeIn K cd20 "_law_digit" = true)
    (k20 : PySem.W.keepIn K (.ref f20) = true)
    (a21 : PySem.W.nsIn K mainGlobals "_law_told" = some (some (.ref f21)))
    (l21 : K.lookup f21 = some ⟨oc21, od21, .func (PySem.W.fnOf "_law_told" "_law_told" (defArgs s__law_told) (defBody s__law_told) (defScope s__law_told) .none kV21 dc21 pm21 an21 cd21 ct21), sl21⟩)
    (c21 : PySem.W.codeIn K cd21 "_law_told" = true)
    (k21 : PySem.W.keepIn K (.ref f21) = true)
    (a22 : PySem.W.nsIn K mainGlobals "_law_shows" = some (some (.ref f22)))
    (l22 : K.lookup f22 = some ⟨oc22, od22, .func (PySem.W.fnOf "_law_shows" "_law_shows" (defArgs s__law_shows) (defBody s__law_shows) (defScope s__law_shows) .none kV22 dc22 pm22 an22 cd22 ct22), sl22⟩)
    (c22 : PySem.W.codeIn K cd22 "_law_shows" = true)
    (k22 : PySem.W.keepIn K (.ref f22) = true)
    (a23 : PySem.W.nsIn K mainGlobals "_law_starts" = some (some (.ref f23)))
    (l23 : K.lookup f23 = some ⟨oc23, od23, .func (PySem.W.fnOf "_law_starts" "_law_starts" (defArgs s__law_starts) (defBody s__law_starts) (defScope s__law_starts) .none kV23 dc23 pm23 an23 cd23 ct23), sl23⟩)
    (c23 : PySem.W.codeIn K cd23 "_law_starts" = true)
    (k23 : PySem.W.keepIn K (.ref f23) = true)
    (a24 : PySem.W.nsIn K mainGlobals "_law_fires" = some (some (.ref f24)))
    (l24 : K.lookup f24 = some ⟨oc24, od24, .func (PySem.W.fnOf "_law_fires" "_law_fires" (defArgs s__law_fires) (defBody s__law_fires) (defScope s__law_fires) .none kV24 dc24 pm24 an24 cd24 ct24), sl24⟩)
    (c24 : PySem.W.codeIn K cd24 "_law_fires" = true)
    (k24 : PySem.W.keepIn K (.ref f24) = true)
    (a25 : PySem.W.nsIn K mainGlobals "law" = some (some (.ref f25)))
    (l25 : K.lookup f25 = some ⟨oc25, od25, .func (PySem.W.fnOf "law" "law" (defArgs s_law) (defBody s_law) (defScope s_law) .none kV25 dc25 pm25 an25 cd25 ct25), sl25⟩)
    (c25 : PySem.W.codeIn K cd25 "law" = true)
    (k25 : PySem.W.keepIn K (.ref f25) = true)
    : ∃ fd : FuncData, (∀ (s : Shared) (v : Value), BindsTo s fd ⟨[v], []⟩ [("script", v)]) ∧ ∀ base : Heap, K.In base → base.Ns mainGlobals mg → FnOk l.prog w K mg base CX0 6 fa fd ["script"] (spLaw K) := by
  have e := hfa.symm.trans (PySem.W.mg_of X G a25)
  cases e
  have F1 := fun_mk (st := s_copied) l1 c1 k1
  have b1 := F1.binds (ps := ["value"]) fun _ _ _ _ _ _ us hl => match us, hl with | [_], _ => rfl
  have F2 := fun_mk (st := s_copy_of) l2 c2 k2
  have b2 := F2.binds (ps := ["value"]) fun _ _ _ _ _ _ us hl => match us, hl with | [_], _ => rfl
  have F3 := fun_mk (st := s_copied_names) l3 c3 k3
  have b3 := F3.binds (ps := ["environment"]) fun _ _ _ _ _ _ us hl => match us, hl with | [_], _ => rfl
  have F4 := fun_mk (st := s_copied_source) l4 c4 k4
  have b4 := F4.binds (ps := ["part"]) fun _ _ _ _ _ _ us hl => match us, hl with | [_], _ => rfl
  have F5 := fun_mk (st := s_Timer___init__) l5 c5 k5
  have b5 := F5.binds (ps := ["self", "number", "due", "period", "owner", "performed"]) fun _ _ _ _ _ _ us hl => match us, hl with | [_, _, _, _, _, _], _ => rfl
  have F6 := fun_mk (st := s_Timer_belongs_to) l6 c6 k6
  have b6 := F6.binds (ps := ["self", "run"]) fun _ _ _ _ _ _ us hl => match us, hl with | [_, _], _ => rfl
  have F7 := fun_mk (st := s_Timers___init__) l7 c7 k7
  have b7 := F7.binds (ps := ["self"]) fun _ _ _ _ _ _ us hl => match us, hl with | [_], _ => rfl
  have F8 := fun_mk (st := s_Timers___len__) l8 c8 k8
  have b8 := F8.binds (ps := ["self"]) fun _ _ _ _ _ _ us hl => match us, hl with | [_], _ => rfl
  have F9 := fun_mk (st := s_Timers_told) l9 c9 k9
  have b9 := F9.binds (ps := ["self"]) fun _ _ _ _ _ _ us hl => match us, hl with | [_], _ => rfl
  have F10 := fun_mk (st := s_Timers_start) l10 c10 k10
  have b10 := fun_kbn F10 (ps := ["self", "owner", "now", "ticks", "again", "lane", "environment", "block", "run"]) 2 ["now", "ticks", "again", "lane", "environment", "block", "run"] fun _ _ _ _ _ _ us ws hl hw => match us, ws, hl, hw with | [_, _], [_, _, _, _, _, _, _], _, _ => rfl
  have F11 := fun_mk (st := s_Timers_put) l11 c11 k11
  have b11 := F11.binds (ps := ["self", "timer"]) fun _ _ _ _ _ _ us hl => match us, hl with | [_, _], _ => rfl
  have F12 := fun_mk (st := s_Timers_next_due) l12 c12 k12
  have b12 := F12.binds (ps := ["self"]) fun _ _ _ _ _ _ us hl => match us, hl with | [_], _ => rfl
  have F13 := fun_mk (st := s_Timers_fire) l13 c13 k13
  have b13 := F13.binds (ps := ["self"]) fun _ _ _ _ _ _ us hl => match us, hl with | [_], _ => rfl
  have F14 := fun_mk (st := s_Timers_end_run) l14 c14 k14
  have b14 := F14.binds (ps := ["self", "run"]) fun _ _ _ _ _ _ us hl => match us, hl with | [_, _], _ => rfl
  have F15 := fun_mk (st := s_Timers_end_owners) l15 c15 k15
  have b15 := F15.binds (ps := ["self", "ids"]) fun _ _ _ _ _ _ us hl => match us, hl with | [_, _], _ => rfl
  have F16 := fun_mk (st := s_Timers_clear) l16 c16 k16
  have b16 := F16.binds (ps := ["self"]) fun _ _ _ _ _ _ us hl => match us, hl with | [_], _ => rfl
  have F17 := fun_mk (st := s__law_cell) l17 c17 k17
  have b17 := F17.binds (ps := ["script", "k"]) fun _ _ _ _ _ _ us hl => match us, hl with | [_, _], _ => rfl
  have F18 := fun_mk (st := s__law_is_integer) l18 c18 k18
  have b18 := F18.binds (ps := ["told"]) fun _ _ _ _ _ _ us hl => match us, hl with | [_], _ => rfl
  have F19 := fun_mk (st := s__law_start) l19 c19 k19
  have b19 := F19.binds (ps := ["cell", "k"]) fun _ _ _ _ _ _ us hl => match us, hl with | [_, _], _ => rfl
  have F20 := fun_mk (st := s__law_digit) l20 c20 k20
  have b20 := F20.binds (ps := ["state", "many"]) fun _ _ _ _ _ _ us hl => match us, hl with | [_, _], _ => rfl
  have F21 := fun_mk (st := s__law_told) l21 c21 k21
  have b21 := F21.binds (ps := ["rows"]) fun _ _ _ _ _ _ us hl => match us, hl with | [_], _ => rfl
  have F22 := fun_mk (st := s__law_shows) l22 c22 k22
  have b22 := F22.binds (ps := ["timers", "rows"]) fun _ _ _ _ _ _ us hl => match us, hl with | [_, _], _ => rfl
  have F23 := fun_mk (st := s__law_starts) l23 c23 k23
  have b23 := F23.binds (ps := ["timers", "rows", "counts", "now", "state"]) fun _ _ _ _ _ _ us hl => match us, hl with | [_, _, _, _, _], _ => rfl
  have F24 := fun_mk (st := s__law_fires) l24 c24 k24
  have b24 := F24.binds (ps := ["timers", "rows"]) fun _ _ _ _ _ _ us hl => match us, hl with | [_, _], _ => rfl
  have T : Txt K w mg ⟨(), aTimer, aTimers⟩ := {
    g_Timer := ⟨_, PySem.W.mg_of X G q_Timer, rfl⟩,
    cl_Timer := ⟨pg_Timer, hd_Timer, po_Timer, sa_Timer⟩,
    n_Timer_number := n_Timer_number,
    n_Timer_due := n_Timer_due,
    n_Timer_period := n_Timer_period,
    n_Timer_owner := n_Timer_owner,
    n_Timer_performed := n_Timer_performed,
    g_Timers := ⟨_, PySem.W.mg_of X G q_Timers, rfl⟩,
    cl_Timers := ⟨pg_Timers, hd_Timers, po_Timers, sa_Timers⟩,
    n_Timers_running := n_Timers_running,
    n_Timers_last := n_Timers_last,
    z_bool := PySem.W.mg_none_of X G z_bool,
    z_dict := PySem.W.mg_none_of X G z_dict,
    z_int := PySem.W.mg_none_of X G z_int,
    z_isinstance := PySem.W.mg_none_of X G z_isinstance,
    z_len := PySem.W.mg_none_of X G z_len,
    z_list := PySem.W.mg_none_of X G z_list,
    z_max := PySem.W.mg_none_of X G z_max,
    z_min := PySem.W.mg_none_of X G z_min,
    z_property := PySem.W.mg_none_of X G z_property,
    z_range := PySem.W.mg_none_of X G z_range,
    z_sorted := PySem.W.mg_none_of X G z_sorted,
    z_str := PySem.W.mg_none_of X G z_str,
    z_tuple := PySem.W.mg_none_of X G z_tuple,
    g_MOST_TIMERS := ⟨_, PySem.W.mg_of X G g_MOST_TIMERS, r_MOST_TIMERS⟩,
    d_copied := ⟨_, _, F1, PySem.W.mg_of X G a1, b1⟩,
    d_copy_of := ⟨_, _, F2, PySem.W.mg_of X G a2, b2⟩,
    d_copied_names := ⟨_, _, F3, PySem.W.mg_of X G a3, b3⟩,
    d_copied_source := ⟨_, _, F4, PySem.W.mg_of X G a4, b4⟩,
    i_Timer := ⟨_, _, F5, ⟨mk_Timer, a5, i5, kc_Timer⟩, PySem.W.mg_of X G q_Timer, b5⟩,
    m_Timer_belongs_to := ⟨_, _, F6, ⟨a6, i6, k6⟩, b6⟩,
    i_Timers := ⟨_, _, F7, ⟨mk_Timers, a7, i7, kc_Timers⟩, PySem.W.mg_of X G q_Timers, b7⟩,
    m_Timers___len__ := ⟨_, _, F8, ⟨a8, i8, k8⟩, b8⟩,
    p_Timers_told := ⟨_, _, _, ⟨a9, pq9, pt9, _, pr9⟩, F9, b9⟩,
    m_Timers_start := ⟨_, _, F10, ⟨a10, i10, k10⟩, b10⟩,
    m_Timers_put := ⟨_, _, F11, ⟨a11, i11, k11⟩, b11⟩,
    m_Timers_next_due := ⟨_, _, F12, ⟨a12, i12, k12⟩, b12⟩,
    m_Timers_fire := ⟨_, _, F13, ⟨a13, i13, k13⟩, b13⟩,
    m_Timers_end_run := ⟨_, _, F14, ⟨a14, i14, k14⟩, b14⟩,
    m_Timers_end_owners := ⟨_, _, F15, ⟨a15, i15, k15⟩, b15⟩,
    m_Timers_clear := ⟨_, _, F16, ⟨a16, i16, k16⟩, b16⟩,
    d__law_cell := ⟨_, _, F17, PySem.W.mg_of X G a17, b17⟩,
    d__law_is_integer := ⟨_, _, F18, PySem.W.mg_of X G a18, b18⟩,
    d__law_start := ⟨_, _, F19, PySem.W.mg_of X G a19, b19⟩,
    d__law_digit := ⟨_, _, F20, PySem.W.mg_of X G a20, b20⟩,
    d__law_told := ⟨_, _, F21, PySem.W.mg_of X G a21, b21⟩,
    d__law_shows := ⟨_, _, F22, PySem.W.mg_of X G a22, b22⟩,
    d__law_starts := ⟨_, _, F23, PySem.W.mg_of X G a23, b23⟩,
    d__law_fires := ⟨_, _, F24, PySem.W.mg_of X G a24, b24⟩ }
  exact ⟨_, fun s v => .of_eq rfl, fun base _ _ => N5.ok_law (fun_mk (st := s_law) l25 c25 k25) T⟩
theorem walk {l : PySem.W.OpenLaw} {q : Program} {loose : List Str} {XP : (Str → Option Value) → Heap → Prop} {YP : World → Heap → Prop} {d : DefRec} {K : Params → PySem.W.Frag} (hn : l.most = some 63) (hdf : d.params.defaults = [])
    (hY : ∀ (w : World) (h : Heap), YP w h → (K w.params).In h)
    (F : ∀ (w : World) (mg : Str → Option Value) (fa : Addr) (h : Heap), (K w.params).In h → h.Ns mainGlobals mg → mg d.name = some (.ref fa) →
      ∃ fd : FuncData, (∀ (s : Shared) (u : Value), BindsTo s fd ⟨[u], []⟩ [("script", u)]) ∧ ∀ base : Heap, (K w.params).In base → base.Ns mainGlobals mg → FnOk l.prog w (K w.params) mg base CX0 6 fa fd ["script"] (spLaw (K w.params))) :
    PySem.W.WalkO q loose XP YP l.row.toRowW d [] (fun f vs => PySem.call f vs) :=
  L2.walk_of (n := 63) (k := 6) (x := "script") (CX := fun _ => CX0) (sp := fun w => spLaw (K w.params)) hn (by decide) hdf ⟨rfl, by decide, by decide⟩ hY F (fun _ _ a ns hl _ hS => ⟨a, ns, rfl, hS, hl, fun _ => rfl⟩) fun _ _ _ _ _ z => z
end VL

open PySem PySem.W PyProof.Rows in
set_option maxRecDepth 100000 in
set_option maxHeartbeats 0 in
set_option pp.maxSteps 60 in
theorem PySem.Challenge.cw_viewloom_k45_timers_holds : PySem.Challenge.rw_viewloom_k45_timers.Holds := by
  w_on; o_law; k_head; (case hw => w_witness2)
  k_fill
  refine VL.walk (l := PySem.Challenge.rw_viewloom_k45_timers) rfl rfl (fun w h Y => PySem.W.kIn_of Y) ?F
  case F =>
    intro w mg fa h KX G hmg
    refine' VL.all_mk KX G hmg ?q_Timer ?pg_Timer ?hd_Timer ?po_Timer ?sa_Timer ?mk_Timer ?kc_Timer ?n_Timer_number ?n_Timer_due ?n_Timer_period ?n_Timer_owner ?n_Timer_performed ?q_Timers ?pg_Timers ?hd_Timers ?po_Timers ?sa_Timers ?mk_Timers ?kc_Timers ?n_Timers_running ?n_Timers_last ?z_bool ?z_dict ?z_int ?z_isinstance ?z_len ?z_list ?z_max ?z_min ?z_property ?z_range ?z_sorted ?z_str ?z_tuple ?g_MOST_TIMERS ?r_MOST_TIMERS ?a1 ?l1 ?c1 ?k1 ?a2 ?l2 ?c2 ?k2 ?a3 ?l3 ?c3 ?k3 ?a4 ?l4 ?c4 ?k4 ?a5 ?i5 ?l5 ?c5 ?k5 ?a6 ?i6 ?l6 ?c6 ?k6 ?a7 ?i7 ?l7 ?c7 ?k7 ?a8 ?i8 ?l8 ?c8 ?k8 ?a9 ?pq9 ?pt9 ?pr9 ?l9 ?c9 ?k9 ?a10 ?i10 ?l10 ?c10 ?k10 ?kd10run ?kr10run ?a11 ?i11 ?l11 ?c11 ?k11 ?a12 ?i12 ?l12 ?c12 ?k12 ?a13 ?i13 ?l13 ?c13 ?k13 ?a14 ?i14 ?l14 ?c14 ?k14 ?a15 ?i15 ?l15 ?c15 ?k15 ?a16 ?i16 ?l16 ?c16 ?k16 ?a17 ?l17 ?c17 ?k17 ?a18 ?l18 ?c18 ?k18 ?a19 ?l19 ?c19 ?k19 ?a20 ?l20 ?c20 ?k20 ?a21 ?l21 ?c21 ?k21 ?a22 ?l22 ?c22 ?k22 ?a23 ?l23 ?c23 ?k23 ?a24 ?l24 ?c24 ?k24 ?a25 ?l25 ?c25 ?k25
    (case q_Timer => k_is)
    (case pg_Timer => k_is)
    (case hd_Timer => k_is)
    (case po_Timer => k_is)
    (case sa_Timer => k_is)
    (case mk_Timer => k_is)
    (case kc_Timer => k_is)
    (case n_Timer_number => k_is)
    (case n_Timer_due => k_is)
    (case n_Timer_period => k_is)
    (case n_Timer_owner => k_is)
    (case n_Timer_performed => k_is)
    (case q_Timers => k_is)
    (case pg_Timers => k_is)
    (case hd_Timers => k_is)
    (case po_Timers => k_is)
    (case sa_Timers => k_is)
    (case mk_Timers => k_is)
    (case kc_Timers => k_is)
    (case n_Timers_running => k_is)
    (case n_Timers_last => k_is)
    (case z_bool => k_is)
    (case z_dict => k_is)
    (case z_int => k_is)
    (case z_isinstance => k_is)
    (case z_len => k_is)
    (case z_list => k_is)
    (case z_max => k_is)
    (case z_min => k_is)
    (case z_property => k_is)
    (case z_range => k_is)
    (case z_sorted => k_is)
    (case z_str => k_is)
    (case z_tuple => k_is)
    (case g_MOST_TIMERS => k_is)
    (case r_MOST_TIMERS => exact ⟨_, rfl⟩)
    (case a1 => k_is)
    (case l1 => k_is)
    (case c1 => k_is)
    (case k1 => k_is)
    (case a2 => k_is)
    (case l2 => k_is)
    (case c2 => k_is)
    (case k2 => k_is)
    (case a3 => k_is)
    (case l3 => k_is)
    (case c3 => k_is)
    (case k3 => k_is)
    (case a4 => k_is)
    (case l4 => k_is)
    (case c4 => k_is)
    (case k4 => k_is)
    (case a5 => k_is)
    (case i5 => k_is)
    (case l5 => k_is)
    (case c5 => k_is)
    (case k5 => k_is)
    (case a6 => k_is)
    (case i6 => k_is)
    (case l6 => k_is)
    (case c6 => k_is)
    (case k6 => k_is)
    (case a7 => k_is)
    (case i7 => k_is)
    (case l7 => k_is)
    (case c7 => k_is)
    (case k7 => k_is)
    (case a8 => k_is)
    (case i8 => k_is)
    (case l8 => k_is)
    (case c8 => k_is)
    (case k8 => k_is)
    (case a9 => k_is)
    (case pq9 => k_is)
    (case pt9 => k_is)
    (case pr9 => k_is)
    (case l9 => k_is)
    (case c9 => k_is)
    (case k9 => k_is)
    (case a10 => k_is)
    (case i10 => k_is)
    (case l10 => k_is)
    (case c10 => k_is)
    (case k10 => k_is)
    (case kd10run => k_is)
    (case kr10run => exact ⟨_, rfl⟩)
    (case a11 => k_is)
    (case i11 => k_is)
    (case l11 => k_is)
    (case c11 => k_is)
    (case k11 => k_is)
    (case a12 => k_is)
    (case i12 => k_is)
    (case l12 => k_is)
    (case c12 => k_is)
    (case k12 => k_is)
    (case a13 => k_is)
    (case i13 => k_is)
    (case l13 => k_is)
    (case c13 => k_is)
    (case k13 => k_is)
    (case a14 => k_is)
    (case i14 => k_is)
    (case l14 => k_is)
    (case c14 => k_is)
    (case k14 => k_is)
    (case a15 => k_is)
    (case i15 => k_is)
    (case l15 => k_is)
    (case c15 => k_is)
    (case k15 => k_is)
    (case a16 => k_is)
    (case i16 => k_is)
    (case l16 => k_is)
    (case c16 => k_is)
    (case k16 => k_is)
    (case a17 => k_is)
    (case l17 => k_is)
    (case c17 => k_is)
    (case k17 => k_is)
    (case a18 => k_is)
    (case l18 => k_is)
    (case c18 => k_is)
    (case k18 => k_is)
    (case a19 => k_is)
    (case l19 => k_is)
    (case c19 => k_is)
    (case k19 => k_is)
    (case a20 => k_is)
    (case l20 => k_is)
    (case c20 => k_is)
    (case k20 => k_is)
    (case a21 => k_is)
    (case l21 => k_is)
    (case c21 => k_is)
    (case k21 => k_is)
    (case a22 => k_is)
    (case l22 => k_is)
    (case c22 => k_is)
    (case k22 => k_is)
    (case a23 => k_is)
    (case l23 => k_is)
    (case c23 => k_is)
    (case k23 => k_is)
    (case a24 => k_is)
    (case l24 => k_is)
    (case c24 => k_is)
    (case k24 => k_is)
    (case a25 => k_is)
    (case l25 => k_is)
    (case c25 => k_is)
    (case k25 => k_is)
#print axioms PySem.Challenge.cw_viewloom_k45_timers_holds
