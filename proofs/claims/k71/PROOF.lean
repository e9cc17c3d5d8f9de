import PyProof.Rows.All
import Wide.All
import OpenK.AllK
import Wide.FinOn
import HandS.ForMost
import HandS.More
import HandS.Codes
import HandS.StrMore
import HandS.ReplaceDef
import HandS.ReplaceLit
import HandS.ReplaceList
import HandS.FStr
import HandS.Ends
import PyProof.ReprRoads
import PyProof.ReprReads
import PyProof.RowDictHeap
import HandS.DictComp
import HandS.Walk
import KE.DataEq
import HandS.Defaults
import HandS.Property
import HandS.ClsMeth
import HandS.ExcIs
import HandS.RaiseMore
import HandS.ForExc
import HandS.IsInst
import HandS.DeepEq
import HandS.Deep
import HandS.Nested
import HandS.ExcInit
import KE.KSuper
import KE.KExcSuper
import HandS.ExcField
import KE.KExcIs
import HandS.ExcOwn
import HandS.HotCalls
import HandS.Star
import HandS.Steps
import HandS.Style
import HandS.TupLe
import PyProof.Rows.StrSplitCount
import PyProof.StrLawsLast
import HandS.Conv
import PyProof.StrLawsFirst
import KE.RegKSuper
import PySem.Challenge.RW_viewloom_k71_forty_levels
set_option Elab.async false
set_option linter.all false
set_option maxRecDepth 100000
set_option maxHeartbeats 4000000
namespace VL
open PySem PySem.Spec PyProof.Rows L2

/-! ### defs, methods, classes, as callers see them -/
structure Cal (P : Program) (w : World) (K : PySem.W.Frag) (mg : Str → Option Value) (base : Heap) (k : Nat) (x : Str) (sp : Sp) : Prop where
  ex : ∃ (f : Addr) (fd : FuncData) (ps : List Str), FnOk P w K mg base CX0 k f fd ps sp ∧ mg x = some (.ref f) ∧ PySem.W.keepIn K (.ref f) = true ∧ Binds K fd ps []
structure Met (P : Program) (w : World) (K : PySem.W.Frag) (mg : Str → Option Value) (base : Heap) (k : Nat) (C : Addr) (m : Str) (sp : Sp) : Prop where
  ex : ∃ (f : Addr) (fd : FuncData) (ps : List Str), Cls K C ∧ Meth K C m f ∧ FnOk P w K mg base CX0 k f fd ps sp ∧ Binds K fd ps []
structure Mak (P : Program) (w : World) (K : PySem.W.Frag) (mg : Str → Option Value) (base : Heap) (k : Nat) (x : Str) (C : Addr) (sp : Sp) : Prop where
  ex : ∃ (f : Addr) (fd : FuncData) (ps : List Str), Mk K C f ∧ FnOk P w K mg base CX0 k f fd ps sp ∧ mg x = some (.ref C) ∧ Binds K fd ps []
section
variable {X : Cx} {k j : Nat} {C : Addr} {x m : Str} {sp : Sp} {p pos apos : Pos} {e o : Expr} {es : List Expr} {ta : TE} {t : TA}
theorem pe_c (c : Cal X.prog X.w X.K X.mg X.base k x sp) (hr : Room j X.A) (hk : k ≤ j) (hg : Gl X x) (ha : PA X (e :: es) t)
    (hdb : (x == ("__debug__" : Str)) = false := by decide) (he : starEach (e :: es) X.env = (false, eval e X.env) :: starEach es X.env := by rfl) (hpl : (backTo pos (starEach es X.env)).any (·.1) = false := by rfl) :
    PE X (.Call (.Name x p) (e :: es) [] pos) (tCall sp [] E0 t) := by
  obtain ⟨f, fd, ps, F, hm, kp, b⟩ := c.ex
  exact pe_call F (hr.mono hk) hg hm kp b .nil pass0 ha hdb he hpl
theorem pe_mk (c : Mak X.prog X.w X.K X.mg X.base k x C sp) (hr : Room j X.A) (hk : k + 1 ≤ j) (hg : Gl X x) (ha : PA X (e :: es) t)
    (hdb : (x == ("__debug__" : Str)) = false := by decide) (he : starEach (e :: es) X.env = (false, eval e X.env) :: starEach es X.env := by rfl) (hpl : (backTo pos (starEach es X.env)).any (·.1) = false := by rfl) :
    PE X (.Call (.Name x p) (e :: es) [] pos) (tMake C sp [] E0 t) := by
  obtain ⟨f, fd, ps, M, F, hm, b⟩ := c.ex
  exact pe_make M F (hr.mono hk) hg hm b .nil pass0 ha hdb he hpl
theorem pe_mk0 (c : Mak X.prog X.w X.K X.mg X.base k x C sp) (hr : Room j X.A) (hk : k + 1 ≤ j) (hg : Gl X x) (hdb : (x == ("__debug__" : Str)) = false := by decide) :
    PE X (.Call (.Name x p) [] [] pos) (tMake C sp [] E0 tNil) := by
  obtain ⟨f, fd, ps, M, F, hm, b⟩ := c.ex
  exact pe_make0 M F (hr.mono hk) hg hm b .nil pass0 hdb
theorem pe_mt {pl : Sem Bool} (c : Met X.prog X.w X.K X.mg X.base k C m sp) (hr : Room j X.A) (hk : k ≤ j) (he : PE X o ta) (ha : PA X (e :: es) t)
    (hst : starEach (e :: es) X.env = (false, eval e X.env) :: starEach es X.env := by rfl) (hpl : (backTo pos (starEach es X.env)).any (·.1) = false := by rfl)
    (ht : eval (.Call (.Attribute o m apos) (e :: es) [] pos) X.env = (do
      let ov ← eval o X.env
      standAt apos.atName
      let (f, first) ← holding [ov] (getMethod ov m pl)
      callWith pos f first (backTo pos (starEach (e :: es) X.env)) (backToKw pos (keywordEach [] X.env))) := by rfl) :
    PE X (.Call (.Attribute o m apos) (e :: es) [] pos) (tMeth C m sp [] E0 ta t) := by
  obtain ⟨f, fd, ps, hc, hm, F, b⟩ := c.ex
  exact pe_meth (pl := pl) he hc hm F (hr.mono hk) b .nil pass0 ha hst hpl ht
theorem pe_mt0 {pl : Sem Bool} (c : Met X.prog X.w X.K X.mg X.base k C m sp) (hr : Room j X.A) (hk : k ≤ j) (he : PE X o ta)
    (ht : eval (.Call (.Attribute o m apos) [] [] pos) X.env = (do
      let ov ← eval o X.env
      standAt apos.atName
      let (f, first) ← holding [ov] (getMethod ov m pl)
      callWith pos f first (backTo pos (starEach [] X.env)) (backToKw pos (keywordEach [] X.env))) := by rfl) :
    PE X (.Call (.Attribute o m apos) [] [] pos) (tMeth C m sp [] E0 ta tNil) := by
  obtain ⟨f, fd, ps, hc, hm, F, b⟩ := c.ex
  exact pe_meth0 (pl := pl) he hc hm F (hr.mono hk) b .nil pass0 ht
end

/-! ### what the text has -/
def DefE (K : PySem.W.Frag) (mg : Str → Option Value) (x : Str) (st : Stmt) (ps : List Str) : Prop := ∃ (f : Addr) (fd : FuncData), Fun K x x st f fd ∧ mg x = some (.ref f) ∧ Binds K fd ps []
def MethE (K : PySem.W.Frag) (C : Addr) (x qual : Str) (st : Stmt) (ps : List Str) : Prop := ∃ (f : Addr) (fd : FuncData), Fun K x qual st f fd ∧ Meth K C x f ∧ Binds K fd ps []
def InitE (K : PySem.W.Frag) (mg : Str → Option Value) (cn : Str) (C : Addr) (qual : Str) (st : Stmt) (ps : List Str) : Prop := ∃ (f : Addr) (fd : FuncData), Fun K "__init__" qual st f fd ∧ Mk K C f ∧ mg cn = some (.ref C) ∧ Binds K fd ps []
/-- a global name of the module has the value v -/
abbrev GV (mg : Str → Option Value) (x : Str) (v : V) : Prop := ∃ u, mg x = some u ∧ RelV v u
section
variable {P : Program} {w : World} {K : PySem.W.Frag} {mg : Str → Option Value} {base : Heap}
theorem cal_of {x : Str} {st : Stmt} {ps N : List Str} {k : Nat} {sp : Sp} (D : DefE K mg x st ps) (S : FnScope N ps (defScope st)) (len : ∀ vs H Q E, sp vs H Q E → vs.length = ps.length)
    (hbody : ∀ (f : Addr) (cdv : Value) (A : Around) (outer : List Env) (s : Shared) (H : Hp) (vs : List V) (Q : VK) (E : XK), Room k (A.deeper (envOfC x (defScope st) s.heap.objs.size f cdv)) → sp vs H Q E →
      ∃ t, PSs (cxOf CX0 P w K mg base N x (defScope st) f cdv A outer s H E).nox (defBody st) t ∧ t { nx := fun _ H' => Q .non H', rt := Q } (start N vs) H) : Cal P w K mg base (k + 1) x sp := by
  obtain ⟨f, fd, F, hm, b⟩ := D
  exact ⟨f, fd, ps, F.ok S len (hbody f), hm, F.kp, b⟩
theorem met_of {C : Addr} {x qual : Str} {st : Stmt} {ps N : List Str} {k : Nat} {sp : Sp} (D : MethE K C x qual st ps) (c : Cls K C) (S : FnScope N ps (defScope st)) (len : ∀ vs H Q E, sp vs H Q E → vs.length = ps.length)
    (hbody : ∀ (f : Addr) (cdv : Value) (A : Around) (outer : List Env) (s : Shared) (H : Hp) (vs : List V) (Q : VK) (E : XK), Room k (A.deeper (envOfC qual (defScope st) s.heap.objs.size f cdv)) → sp vs H Q E →
      ∃ t, PSs (cxOf CX0 P w K mg base N qual (defScope st) f cdv A outer s H E).nox (defBody st) t ∧ t { nx := fun _ H' => Q .non H', rt := Q } (start N vs) H) : Met P w K mg base (k + 1) C x sp := by
  obtain ⟨f, fd, F, hm, b⟩ := D
  exact ⟨f, fd, ps, c, hm, F.ok S len (hbody f), b⟩
theorem mak_of {C : Addr} {cn qual : Str} {st : Stmt} {ps N : List Str} {k : Nat} {sp : Sp} (D : InitE K mg cn C qual st ps) (S : FnScope N ps (defScope st)) (len : ∀ vs H Q E, sp vs H Q E → vs.length = ps.length)
    (hbody : ∀ (f : Addr) (cdv : Value) (A : Around) (outer : List Env) (s : Shared) (H : Hp) (vs : List V) (Q : VK) (E : XK), Room k (A.deeper (envOfC qual (defScope st) s.heap.objs.size f cdv)) → sp vs H Q E →
      ∃ t, PSs (cxOf CX0 P w K mg base N qual (defScope st) f cdv A outer s H E).nox (defBody st) t ∧ t { nx := fun _ H' => Q .non H', rt := Q } (start N vs) H) : Mak P w K mg base (k + 1) cn C sp := by
  obtain ⟨f, fd, F, M, hm, b⟩ := D
  exact ⟨f, fd, ps, M, F.ok S len (hbody f), hm, b⟩
end
theorem ps_str_loc : True := trivial
end VL

set_option Elab.async false
set_option linter.all false
set_option maxRecDepth 100000
set_option maxHeartbeats 4000000
namespace VL
open PySem PySem.Spec PyProof.Rows L2

/-! ### texts as lists of signs -/
abbrev TX (l : List Nat) : Str := ⟨l.toArray⟩
theorem TX_tl (l : List Nat) : (TX l).cps.toList = l := by simp
theorem TX_len (l : List Nat) : (TX l).length = l.length := by simp [Str.length]
theorem TX_cat (a b : List Nat) : TX a ++ TX b = TX (a ++ b) := SX.S_cat a b
theorem TX_inj {a b : List Nat} (h : TX a = TX b) : a = b := SX.S_inj h
theorem vstr_TX {a b : List Nat} : decide (V.str (TX a) = V.str (TX b)) = decide (a = b) := by
  by_cases e : a = b
  · subst e; simp
  · have : ¬ V.str (TX a) = V.str (TX b) := fun q => e (TX_inj (V.str.inj q))
    rw [decide_eq_false this, decide_eq_false e]
theorem one_eq {c d : Nat} : decide (V.str (TX [c]) = V.str (TX [d])) = decide (c = d) := by
  rw [vstr_TX]
  by_cases e : c = d
  · subst e; simp
  · simp [e]
/-- the sign at a place -/
theorem at_mid {pre r : List Nat} {c : Nat} {i : Int} (hi : i = (pre.length : Int)) : atI (TX (pre ++ c :: r)).cps.toList i = some c := by
  subst hi
  rw [TX_tl]
  unfold atI ixN
  rw [if_pos (by omega), if_pos (by simp; omega)]
  show (pre ++ c :: r)[(pre.length : Int).toNat]? = _
  rw [Int.toNat_natCast]
  simp
theorem getD_TX (l : List Nat) (v : Nat) : (TX l).cps.getD v 0 = l.getD v 0 := by
  simp only [Array.getD, List.getD_eq_getElem?_getD]
  by_cases h : v < l.length
  · rw [dif_pos (by simpa using h)]
    simp [h]
  · rw [dif_neg (by simpa using h), List.getElem?_eq_none (by omega)]
    rfl
theorem lt_one {c d : Nat} : ([c] < [d]) ↔ c < d := by
  constructor
  · intro h
    cases h with
    | rel h => exact h
    | cons h => cases h
  · intro h
    exact .rel h
/-- s.startswith(y, i) -/
theorem starts_at {pre R y : List Nat} {i : Int} (hi : i = (pre.length : Int)) : Txt.startswith3 (TX (pre ++ R)) (TX y) i = (R.take y.length == y) := by
  subst hi
  have e : fromIndex (TX (pre ++ R)).length (pre.length : Int) = pre.length := by
    unfold fromIndex
    rw [if_neg (by omega)]
    omega
  unfold Txt.startswith3
  rw [e, StrLaws.subAt_eq]
  have h1 : (TX (pre ++ R)).cps.toList.drop pre.length = R := by simp
  rw [h1, TX_len, TX_len]
  show (decide (pre.length + y.length ≤ (pre ++ R).length) && (R.take y.length == (TX y).cps.toList)) = _
  rw [TX_tl, List.length_append]
  by_cases h : y.length ≤ R.length
  · rw [decide_eq_true (by omega)]
    rfl
  · rw [decide_eq_false (by omega)]
    have : (R.take y.length == y) = false := by
      refine beq_eq_false_iff_ne.mpr fun q => h ?_
      have := congrArg List.length q
      rw [List.length_take] at this
      omega
    rw [this]
    rfl
/-- s.find("\n", i) -/
theorem find_nl {pre c r : List Nat} {d : Nat} {i : Int} (hi : i = (pre.length : Int)) (hc : d ∉ c) : Txt.find3 (TX (pre ++ (c ++ d :: r))) (TX [d]) i = ((pre.length + c.length : Nat) : Int) := by
  subst hi
  have e : fromIndex (TX (pre ++ (c ++ d :: r))).length (pre.length : Int) = pre.length := by
    unfold fromIndex
    rw [if_neg (by omega)]
    omega
  have hg : ∀ v, v < (pre ++ (c ++ d :: r)).length → (TX (pre ++ (c ++ d :: r))).cps.getD v 0 = (pre ++ (c ++ d :: r)).getD v 0 := fun v _ => getD_TX _ v
  have hat : (pre ++ (c ++ d :: r)).getD (pre.length + c.length) 0 = d := by simp [List.getD_eq_getElem?_getD]
  have hlt : pre.length + c.length < (pre ++ (c ++ d :: r)).length := by rw [List.length_append, List.length_append, List.length_cons]; omega
  rcases StrLaws.find3_spec (TX (pre ++ (c ++ d :: r))) d (pre.length : Int) with ⟨_, h2⟩ | ⟨k, h1, h2, h3, h4, h5⟩
  · rw [e, TX_len] at h2
    exact absurd (by rw [hg _ hlt]; exact hat) (h2 (pre.length + c.length) (by omega) hlt)
  · rw [e] at h2 h5
    rw [TX_len] at h3
    rw [h1]
    have hk : k = pre.length + c.length := by
      rcases Nat.lt_trichotomy k (pre.length + c.length) with q | q | q
      · exfalso
        rw [hg k h3] at h4
        have e3 : (pre ++ (c ++ d :: r)).getD k 0 = c.getD (k - pre.length) 0 := by
          rw [List.getD_eq_getElem?_getD, List.getD_eq_getElem?_getD, List.getElem?_append_right h2, List.getElem?_append_left (by omega)]
        rw [e3] at h4
        apply hc
        have hlt2 : k - pre.length < c.length := by omega
        rw [List.getD_eq_getElem?_getD, List.getElem?_eq_getElem hlt2] at h4
        have h4 : c[k - pre.length] = d := h4
        rw [← h4]
        exact List.getElem_mem hlt2
      · exact q
      · exfalso
        exact h5 (pre.length + c.length) (by omega) q (by rw [hg _ hlt]; exact hat)
    rw [hk]
/-- s[i:j] -/
theorem cut_mid {pre m r : List Nat} {i j : Int} (hi : i = (pre.length : Int)) (hj : j = ((pre.length + m.length : Nat) : Int)) : cutS (TX (pre ++ (m ++ r))) (some i) (some j) = TX m := by
  subst hi hj
  unfold cutS
  rw [TX_len, HT.sIx_nat, HT.sIx_nat, TX_tl]
  have e1 : min pre.length (pre ++ (m ++ r)).length = pre.length := by simp
  have e2 : min (pre.length + m.length) (pre ++ (m ++ r)).length = pre.length + m.length := by simp
  rw [e1, e2]
  refine congrArg TX ?_
  rw [List.drop_left, Nat.add_sub_cancel_left, List.take_left]

/-! ### rows -/
def rws : List Nat → List Nat → List (List Nat)
  | acc, [] => [acc]
  | acc, c :: r => if c = 10 then acc :: rws [] r else rws (acc ++ [c]) r
theorem spl_rws : ∀ (l acc : List Nat), TL.spl [10] 0 acc l = rws acc l
  | [], acc => by rw [TL.spl_nil]; rfl
  | c :: r, acc => by
    unfold rws
    by_cases h : c = 10
    · subst h
      rw [if_pos rfl, TL.spl_hit (by rfl)]
      exact congrArg (acc :: ·) (spl_rws r [])
    · rw [if_neg h, TL.spl_miss (by
        show TL.pre [10] (c :: r) = false
        unfold TL.pre
        simp [h])]
      exact spl_rws r _
theorem rws_ne : ∀ (l acc : List Nat), rws acc l ≠ []
  | [], acc => by unfold rws; simp
  | c :: r, acc => by
    unfold rws
    split
    · simp
    · exact rws_ne r _
def lnOf (l : List Nat) : Nat := (rws [] l).length
def clOf (l : List Nat) : Nat := ((rws [] l).getLast (rws_ne _ _)).length
theorem rws_plain : ∀ (l acc m : List Nat), 10 ∉ m → ∃ fr la, rws acc l = fr ++ [la] ∧ rws acc (l ++ m) = fr ++ [la ++ m]
  | [], acc, m, h => by
    refine ⟨[], acc, rfl, ?_⟩
    show rws acc m = [acc ++ m]
    induction m generalizing acc with
    | nil => rw [List.append_nil]; rfl
    | cons c m ih =>
      have hc : c ≠ 10 := fun e => h (by rw [e]; exact List.mem_cons_self)
      unfold rws
      rw [if_neg hc, ih _ fun e => h (List.mem_cons_of_mem _ e), List.append_assoc]
      rfl
  | c :: r, acc, m, h => by
    rw [List.cons_append]
    unfold rws
    by_cases hc : c = 10
    · rw [if_pos hc, if_pos hc]
      obtain ⟨fr, la, e1, e2⟩ := rws_plain r [] m h
      exact ⟨acc :: fr, la, by rw [e1]; rfl, by rw [e2]; rfl⟩
    · rw [if_neg hc, if_neg hc]
      exact rws_plain r _ m h
theorem rws_nl : ∀ (l acc : List Nat), rws acc (l ++ [10]) = rws acc l ++ [[]]
  | [], acc => by
    show rws acc [10] = [acc] ++ [[]]
    unfold rws
    rw [if_pos rfl]
    rfl
  | c :: r, acc => by
    rw [List.cons_append]
    unfold rws
    split
    · rw [rws_nl r []]; rfl
    · exact rws_nl r _
theorem getLast_of {α : Type} {l fr : List α} {la : α} (h : l ≠ []) (e : l = fr ++ [la]) : l.getLast h = la := by
  subst e
  simp
theorem ln_plain (l m : List Nat) (h : 10 ∉ m) : lnOf (l ++ m) = lnOf l := by
  obtain ⟨fr, la, e1, e2⟩ := rws_plain l [] m h
  unfold lnOf
  rw [e1, e2]
  simp
theorem cl_plain (l m : List Nat) (h : 10 ∉ m) : clOf (l ++ m) = clOf l + m.length := by
  obtain ⟨fr, la, e1, e2⟩ := rws_plain l [] m h
  unfold clOf
  rw [getLast_of _ e1, getLast_of _ e2, List.length_append]
theorem ln_nl (l : List Nat) : lnOf (l ++ [10]) = lnOf l + 1 := by
  unfold lnOf
  rw [rws_nl]
  simp
theorem cl_nl (l : List Nat) : clOf (l ++ [10]) = 0 := by
  unfold clOf
  rw [getLast_of _ (rws_nl l [])]
  rfl
theorem cl_le : ∀ l : List Nat, clOf l ≤ l.length := by
  intro l
  have : ∀ (l acc : List Nat), ((rws acc l).getLast (rws_ne _ _)).length ≤ acc.length + l.length := by
    intro l
    induction l with
    | nil => intro acc; simp [rws]
    | cons c r ih =>
      intro acc
      by_cases hc : c = 10
      · have e : rws acc (c :: r) = acc :: rws [] r := by
          show (if c = 10 then _ else _) = _
          rw [if_pos hc]
        have e2 : (rws acc (c :: r)).getLast (rws_ne _ _) = (rws [] r).getLast (rws_ne _ _) := by
          simp only [e]
          exact List.getLast_cons (rws_ne _ _)
        rw [e2]
        have := ih []
        simp at this ⊢
        omega
      · have e : rws acc (c :: r) = rws (acc ++ [c]) r := by
          show (if c = 10 then _ else _) = _
          rw [if_neg hc]
        have e2 : (rws acc (c :: r)).getLast (rws_ne _ _) = (rws (acc ++ [c]) r).getLast (rws_ne _ _) := by simp only [e]
        rw [e2]
        have := ih (acc ++ [c])
        simp at this ⊢
        omega
  have := this l []
  simpa [clOf] using this
/-- row = source.split("\n"): how many, and the last one's length -/
theorem split_rows (l : List Nat) : Txt.split (TX l) (TX [10]) = (rws [] l).map TX := by
  have := SX.split_S (a := l) (b := [10]) (by simp) (by decide)
  rw [spl_rws] at this
  exact this
theorem rows_last (l : List Nat) : ∃ la : List Nat, atI ((rws [] l).map fun r => V.str (TX r)) (-1) = some (.str (TX la)) ∧ la.length = clOf l := by
  refine ⟨(rws [] l).getLast (rws_ne _ _), ?_, rfl⟩
  have hp : 0 < (rws [] l).length := List.length_pos_iff.mpr (rws_ne _ _)
  unfold atI ixN
  rw [if_neg (by decide), if_pos (by rw [List.length_map]; omega)]
  show ((rws [] l).map fun r => V.str (TX r))[_]? = _
  have e : (-1 + (((rws [] l).map fun r => V.str (TX r)).length : Int)).toNat = (rws [] l).length - 1 := by rw [List.length_map]; omega
  rw [e, List.getElem?_map, List.getElem?_eq_getElem (by omega), List.getLast_eq_getElem]
  rfl

/-! ### signs -/
def isLet (c : Nat) : Bool := (decide (97 ≤ c) && decide (c ≤ 122)) || (decide (65 ≤ c) && decide (c ≤ 90))
def isDig (c : Nat) : Bool := decide (48 ≤ c) && decide (c ≤ 57)
def isWs (c : Nat) : Bool := isLet c || isDig c || decide (c = 95)
end VL

set_option Elab.async false
set_option linter.all false
set_option maxRecDepth 100000
set_option maxHeartbeats 4000000
namespace VL
open PySem PySem.Spec PyProof.Rows L2

/-! ### defs whose first deed is s.replace(..) of written texts: a parameter's token is out -/
section
variable {P : Program} {w : World} {K : PySem.W.Frag} {mg : Str → Option Value} {base : Heap}
theorem cal_ofT {x : Str} {st : Stmt} {ps N : List Str} {k : Nat} {sp : Sp} (D : DefE K mg x st ps) (S : FnScope N ps (defScope st)) (hnc : ∀ y ∈ (defScope st).names, y.2 ≠ .cell) (hps : 1 ≤ ps.length) (len : ∀ vs H Q E, sp vs H Q E → vs.length = ps.length)
    (hbody : ∀ (f : Addr) (cdv : Value) (A : Around) (outer : List Env) (s : Shared) (H : Hp) (vs : List V) (Q : VK) (E : XK), Room k (A.deeper (envOfC x (defScope st) s.heap.objs.size f cdv)) → sp vs H Q E →
      ∃ t, PSsT (cxOf CX0 P w K mg base N x (defScope st) f cdv A outer s H E) (defBody st) t ∧ t { nx := fun _ H' => Q .non H', rt := Q } (start N vs) H) : Cal P w K mg base (k + 1) x sp := by
  obtain ⟨f, fd, F, hm, b⟩ := D
  have kp := F.kp
  obtain ⟨oc, od, kV, doc, pm, an, cdv, ct, osl, rfl, lk, hcd⟩ := F.ex
  exact ⟨f, _, ps, fn_ofT lk hcd S hnc hps len (fun A outer s H vs Q E hr h => hbody f cdv A outer s H vs Q E hr h), hm, kp, b⟩
end
/-- x = e, e with s.replace(..) in it -/
theorem pst_set {X : Cx} {i : Nat} {x : Str} {e : Expr} {te : TE} {pos' pos : Pos} (hN : X.N.Nodup) (hi : X.N[i]? = some x) (hx : Loc X.env.scope x) (he : PET X e te)
    (hs : swapsWith e (some (.Name x pos')) pos.line X.env = pure false := by rfl) (hf : X.fn x = true ∨ X.env.scope.names.lookup x = some .local := by first | exact .inl rfl | exact .inr rfl | assumption) :
    PST X (.Assign [.Name x pos'] e pos) (tAsg te (gName i)) := by
  intro pins s σ H D h0 I h
  refine wpAny_Assign_Name (thn (he pins s σ H _ h0 I h) fun v s1 z => ?_) hs
  obtain ⟨y, H1, I1, r1, q1⟩ := z
  exact store_ok I1 hN hi hx r1 (fun s2 I2 => ⟨_, H1, I2, q1⟩) hf
/-- an f-string, its reading by name (for comprehensions) -/
def tJoined (ts : List TE) : TE := fun σ H Q => tJs ts Str.empty σ H fun out H1 => Q (.str out) H1
theorem pe_joinedT {X : Cx} {v1 v2 : Expr} {rest : List Expr} {ts : List TE} {pos : Pos} (h : PJ X (v1 :: v2 :: rest) ts) : PE X (.JoinedStr (v1 :: v2 :: rest) pos) (tJoined ts) := pe_joined h
/-- each sign c of a text becomes z -/
def rep1 (c : Nat) (z l : List Nat) : List Nat := l.flatMap fun d => if d = c then z else [d]
theorem replL_one (c : Nat) (z : List Nat) : ∀ l : List Nat, StrLaws.replL [c] z l = rep1 c z l
  | [] => by rw [StrLaws.replL_nil]; rfl
  | d :: l => by
    by_cases h : d = c
    · subst h
      rw [StrLaws.replL_hit (by simp) (by simp)]
      show z ++ StrLaws.replL [d] z l = _
      rw [replL_one d z l]
      simp [rep1]
    · rw [StrLaws.replL_miss (by simpa using h), replL_one c z l]
      simp [rep1, h]
theorem replace_TX {l z : List Nat} {c : Nat} : Txt.replace (TX l) (TX [c]) (TX z) = TX (rep1 c z l) := by
  have h := StrLaws.replace_list (x := TX l) (y := TX [c]) (z := TX z) (by rw [TX_len]; exact Nat.le_refl _)
  rw [TX_tl, TX_tl, TX_tl, replL_one] at h
  calc Txt.replace (TX l) (TX [c]) (TX z) = TX (Txt.replace (TX l) (TX [c]) (TX z)).cps.toList := by simp
    _ = _ := by rw [h]
theorem join_TX : ∀ ls : List (List Nat), Txt.join (TX []) (ls.map TX) = TX ls.flatten := by
  intro ls
  rw [TL.join_eq]
  induction ls with
  | nil => rfl
  | cons a r ih =>
    cases r with
    | nil =>
      show TX a = _
      simp
    | cons b r =>
      show TX a ++ TX [] ++ Str.join (TX []) ((b :: r).map TX) = _
      rw [ih, TX_cat, TX_cat]
      simp
theorem sum_TX (ls : List (List Nat)) : ((ls.map TX).map (·.length)).sum = ls.flatten.length := by
  induction ls with
  | nil => rfl
  | cons a r ih => simp only [List.map_cons, List.sum_cons, List.flatten_cons, List.length_append, ih, TX_len]
end VL

set_option Elab.async false
set_option linter.all false
set_option maxRecDepth 100000
set_option maxHeartbeats 4000000
namespace VL
open PySem PySem.Spec PyProof.Rows L2

/-! ### a def that is called where nothing is being shown: the law's own; repr of nested data there -/
structure FnG (P : Program) (w : World) (K : PySem.W.Frag) (mg : Str → Option Value) (base : Heap) (k : Nat) (f : Addr) (fd : FuncData) (ps : List Str) (sp : Sp) : Prop where
  run : ∀ (A : Around) (outer : List Env) (s : Shared) (H : Hp) (args : Args) (us : List Value) (vs : List V) (Q : VK) (E : XK), A.guards = some [] → Room k A → Env0 P w K mg base A outer s H → BindsTo s fd args (ps.zip us) → Vals vs us → sp vs H Q E →
    codeAny (model P w) A (.call (.ref f) args) (CR CX0 outer P w H s Q E) s
theorem fnG_of {P : Program} {w : World} {K : PySem.W.Frag} {mg : Str → Option Value} {base : Heap} {x qual : Str} {st : Stmt} {f : Addr} {fd : FuncData} {N ps : List Str} {k : Nat} {sp : Sp} (F : Fun K x qual st f fd) (S : FnScope N ps (defScope st)) (len : ∀ vs H Q E, sp vs H Q E → vs.length = ps.length)
    (hb0 : ∀ (cdv : Value) (A : Around) (outer : List Env) (s : Shared) (H : Hp) (vs : List V) (Q : VK) (E : XK), A.guards = some [] → Room k (A.deeper (envOfC qual (defScope st) s.heap.objs.size f cdv)) → sp vs H Q E →
      ∃ t, PSs (cxOf CX0 P w K mg base N qual (defScope st) f cdv A outer s H E).nox (defBody st) t ∧ t { nx := fun _ H' => Q .non H', rt := Q } (start N vs) H) : FnG P w K mg base (k + 1) f fd ps sp := by
  obtain ⟨oc, od, kV, doc, pm, an, cdv, ct, osl, rfl, lk, hcd⟩ := F.ex
  refine ⟨fun A outer s H args us vs Q E gd hr en hb rv hsp => ?_⟩
  have hlen := len _ _ _ _ hsp
  have kin : K.In s.heap := en.mod.kin.keeps fun b o e => (en.bs b o e).1
  have nl : s.heap.NoLimit := en.mod.nolimit.keeps fun b o e => (en.bs b o e).1
  have kinds : ∀ y ∈ ps.zip us, (defScope st).names.lookup y.1 = some .local ∨ ((defScope st).names.lookup y.1 = some .cell ∧ ((cellsFrom (s.heap.objs.size + 1) (defScope st).names []).lookup y.1).isSome = true) := fun ⟨n, v⟩ hy => by
    rcases S.par n (List.of_mem_zip hy).1 with c | c
    · exact .inl c
    · exact .inr ⟨c, PySem.W.cellsFrom_some _ _ _ (.inl c)⟩
  refine codeAny_call_function hr.depth (kin _ _ lk) rfl S.co S.gen rfl (PySem.W.codeRec_of kin hcd) (hb _ _ _ _ ?_)
  refine wpAny_newFunctionEnv_cells S.kind kinds fun env he s1 ic => ?_
  subst he
  refine ⟨nl.keeps ic.toInCall.keep, codeAny_func ?_⟩
  obtain ⟨t, hd, hq⟩ := hb0 cdv A outer s H vs Q E gd (hr.deeper _) hsp
  have J0 : Inv (cxOf CX0 P w K mg base N qual (defScope st) f cdv A outer s H E) [] (start N vs) H s1 := inv_start S hr.hd en hlen rv ic
  refine wpAny_mono (hd.nox.run [] s1 (start N vs) H _ J0 hq) (fun fl s2 hs => ?_) fun e s2 hs => hs
  have done : ∀ {σ2 : L2.St} {H2 : Hp} {v : V} {u : Value}, Inv (cxOf CX0 P w K mg base N qual (defScope st) f cdv A outer s H E) [] σ2 H2 s2 → RelV v u → Q v H2 → CE outer P w H s Q u s2 :=
    fun {σ2 H2 v u} J rw q => ⟨v, H2, J.os, J.bare, J.base, J.hok, rw, q⟩
  cases fl with
  | ret u =>
    obtain ⟨v, σ2, H2, J, rw, q⟩ := hs
    exact done J rw q
  | next =>
    obtain ⟨σ2, H2, J, q⟩ := hs
    exact done (v := V.non) (u := Value.none) J rfl q
  | brk => exact hs.elim fun _ z => z.elim fun _ z => z.2.elim
  | cont => exact hs.elim fun _ z => z.elim fun _ z => z.2.elim
/-- the law's call, where nothing is being shown -/
theorem law_callG {P : Program} {w : World} {K : PySem.W.Frag} {mg mb : Str → Option Value} {k : Nat} {fa a : Addr} {fd : FuncData} {x : Str} {sp : Sp} {s₁ : Shared} {vs : List Value} {ns : List Int}
    (kin : K.In s₁.heap) (ng : s₁.heap.Ns mainGlobals mg) (nb : s₁.heap.Ns builtinsNs mb) (bb : ∀ x : Str, x ≠ "__name__" → mb x = bootBuiltins x) (nl : s₁.heap.NoLimit) (hgen : s₁.gens = #[])
    (ea : s₁.heap.get? a = some { cls := .type "list", data := .seq vs.toArray }) (hi : IntsAre vs ns) (hz : ns.length ≤ sizeLine) (hr : Room k callerA)
    (F : ∀ base : Heap, K.In base → base.Ns mainGlobals mg → FnG P w K mg base k fa fd [x] sp) (hbind : ∀ (s : Shared) (u : Value), BindsTo s fd ⟨[u], []⟩ [(x, u)])
    (hsp : ∀ H : Hp, Only H → SqL K H a (ns.map V.int) → sp [.ref a] H (fun v _ => v = .bl true) fun _ _ _ => False) :
    codeAny (model P w) callerA (.call (.ref fa) ⟨[.ref a], []⟩) (fun r s2 => r = .ok (.ret (.bool true)) ∧ OldK s₁.heap s2.heap ∧ s2.os = s₁.os ∧ AllBare s2.gens) s₁ := by
  have rel := vals_ints hi
  have lv := hi.length
  have go : ∀ H : Hp, Only H → SqL K H a (ns.map V.int) → HOk P w H s₁.heap → (∀ b, H b ≠ none → b = a) → (H a ≠ none → K.lookup a = none) →
      codeAny (model P w) callerA (.call (.ref fa) ⟨[.ref a], []⟩) (fun r s2 => r = .ok (.ret (.bool true)) ∧ OldK s₁.heap s2.heap ∧ s2.os = s₁.os ∧ AllBare s2.gens) s₁ := by
    intro H ho hq ok only out
    have low : ∀ {b : Addr} {o : Obj}, s₁.heap.get? b = some o → H b = none → (hidT s₁.heap H).get? b = some o := fun e n => hidT_get e n
    have nod : ∀ {b : Addr} {o : Obj} {es : Array DictEntry} {ep : Nat}, s₁.heap.get? b = some o → o.data = .dict es ep → H b = none := fun {b o es ep} e d => by
      cases c : H b with
      | none => rfl
      | some u =>
        obtain rfl : b = a := only b (by rw [c]; simp)
        rw [ea] at e
        cases e
        exact nomatch (show Data.seq vs.toArray _ = Data.dict es ep from d)
    have nsl : ∀ {b : Addr} {m : Str → Option Value}, s₁.heap.Ns b m → (hidT s₁.heap H).Ns b m := fun {b m} ⟨o, es, ep, e, d, r⟩ => ⟨o, es, ep, low e (nod e d), d, r⟩
    have kl : K.In (hidT s₁.heap H) := fun b o e => low (kin b o e) (by
      cases c : H b with
      | none => rfl
      | some u =>
        obtain rfl : b = a := only b (by rw [c]; simp)
        rw [out (by rw [c]; simp)] at e
        exact nomatch e)
    have md : Mod K mg (hidT s₁.heap H) := ⟨kl, nsl ng, ⟨mb, nsl nb, bb⟩, let ⟨mc, h1, h2⟩ := nl; ⟨mc, nsl h1, h2⟩⟩
    have en : Env0 P w K mg (hidT s₁.heap H) callerA [] s₁ H := ⟨rfl, md, fun b o e => of_hidT e, Nat.le_of_eq (hidT_size _ _), trivial, fun b hb => absurd (show b ∈ ([] : List Addr) from hb) (by simp), ok, .of_eq hgen⟩
    refine codeAny_mono ((F _ kl (nsl ng)).run callerA [] s₁ H ⟨[.ref a], []⟩ [.ref a] [.ref a] _ _ rfl hr en (hbind s₁ (.ref a)) (.cons rfl .nil) (hsp H ho hq)) fun r s2 h => ?_
    cases r with
    | error e => exact False.elim h
    | ok fl =>
      cases fl with
      | next => exact h.elim
      | brk => exact h.elim
      | cont => exact h.elim
      | ret u =>
        obtain ⟨v, H2, os, bare, un, ok2, r2, q⟩ := h
        obtain rfl : v = .bl true := q
        obtain rfl : u = Value.bool true := r2
        refine ⟨rfl, OldK.of_keep fun b o e => ?_, os, bare⟩
        cases c : H b with
        | none => exact un.keep b o e c (by intro z; exact absurd (show b ∈ ([] : List Addr) from z) (by simp)) (by simp)
        | some u =>
          rcases ho b with z | ⟨ob, xs, z⟩
          · exact nomatch c.symm.trans z
          · obtain ⟨e1, _⟩ := ok b _ z
            obtain ⟨e2, _⟩ := ok2 b _ (un.frzs b ob _ z)
            rw [e] at e1
            cases e1
            exact e2
  cases hk : K.lookup a with
  | some o =>
    have e := kin a o hk
    rw [ea] at e
    cases e
    exact go (fun _ => none) (fun _ => .inl rfl) (.inr ⟨_, vs.toArray, _, hk, rfl, rfl, rfl, by rw [List.size_toArray, lv]; exact hz, by simpa using rel⟩) (fun b u z => nomatch (show (none : Option HO) = some u from z)) (fun b z => absurd rfl z) fun z => absurd rfl z
  | none =>
    refine go (fun b => if b = a then some (.frz { cls := .type "list", data := .seq vs.toArray } (.lst (ns.map V.int))) else none) (fun b => ?_) (.inl (.inr ⟨{ cls := .type "list", data := .seq vs.toArray }, if_pos rfl⟩)) (fun b u z => ?_) (fun b z => ?_) fun _ => hk
    · by_cases hb : b = a
      · exact Or.inr ⟨_, _, if_pos hb⟩
      · exact Or.inl (if_neg hb)
    · by_cases hb : b = a
      · cases (if_pos hb).symm.trans z
        subst hb
        exact ⟨ea, by rw [List.length_map]; exact hz, vs, _, rel, ea⟩
      · exact nomatch (if_neg hb).symm.trans z
    · by_cases hb : b = a
      · exact hb
      · exact absurd (if_neg hb) z
theorem walk_ofG {l : PySem.W.OpenLaw} {n k : Nat} {q : Program} {loose : List Str} {XP : (Str → Option Value) → Heap → Prop} {YP : World → Heap → Prop} {d : DefRec} {K : Params → PySem.W.Frag} {sp : World → Sp} {x : Str}
    (hn : l.most = some n) (hn2 : n ≤ sizeLine) (hdf : d.params.defaults = []) (hr : Room k callerA) (hY : ∀ (w : World) (h : Heap), YP w h → (K w.params).In h)
    (F : ∀ (w : World) (mg : Str → Option Value) (fa : Addr) (h : Heap), (K w.params).In h → h.Ns mainGlobals mg → mg d.name = some (.ref fa) →
      ∃ fd : FuncData, (∀ (s : Shared) (u : Value), BindsTo s fd ⟨[u], []⟩ [(x, u)]) ∧ ∀ base : Heap, (K w.params).In base → base.Ns mainGlobals mg → FnG l.prog w (K w.params) mg base k fa fd [x] (sp w))
    (hsp : ∀ (w : World) (H : Hp) (a : Addr) (ns : List Int), ns.length ≤ n → Only H → SqL (K w.params) H a (ns.map V.int) → sp w [.ref a] H (fun v _ => v = .bl true) fun _ _ _ => False) :
    PySem.W.WalkO q loose XP YP l.row.toRowW d [] (fun f vs => PySem.call f vs) := by
  refine Att.attach_call hn hdf fun w s₀ s₁ mg mb fa o pm cd doc a vs ns G Y ho hd hcd hmg hobj hints hlen hgen => ?_
  have kin := hY w _ Y
  obtain ⟨fd, hb, hF⟩ := F w mg fa _ kin G.T.g hmg
  exact law_callG kin G.T.g G.T.b G.T.builtins G.T.nolimit hgen hobj hints (Nat.le_trans hlen hn2) hr hF hb fun H ho hq => hsp w H a ns hlen ho hq
end VL

set_option Elab.async false
set_option linter.all false
set_option maxRecDepth 100000
set_option maxHeartbeats 4000000
namespace VL
open PySem PySem.Spec PyProof.Rows L2 PyProof.V

/-! ### repr of a dict of nested data, where nothing is being shown -/
def enK : Key → PyData
  | .inl i => .int i
  | .inr x => .str x
def zipK : List (Key × V) → List PyData → List (PyData × PyData)
  | p :: ks, d :: ds => (enK p.1, d) :: zipK ks ds
  | _, _ => []
theorem zipK_vals : ∀ {ks : List (Key × V)} {ds : List PyData}, ks.length = ds.length → (zipK ks ds).map (·.2) = ds
  | [], [], _ => rfl
  | p :: ks, d :: ds, h => by
    show d :: (zipK ks ds).map (·.2) = d :: ds
    rw [zipK_vals (Nat.succ.inj h)]
theorem dpAll_len {K : PySem.W.Frag} {H : Hp} : ∀ {vs : List V} {ds : List PyData}, DpAll K H vs ds → vs.length = ds.length
  | _, _, .nil => rfl
  | _, _, .cons _ h => by simp [dpAll_len h]
section
variable {X : Cx} {pins : List (Addr × Obj)} {σ : L2.St} {H : Hp} {s : Shared}
theorem enK_reads {h : Heap} {P : Program} {w : World} (k : Key) (key : Value) (e : (mixKind P w).is k key = true) : Reads h key (enK k) [] := by
  rcases keyIs_shape (show keyIs k key = true from e) with ⟨i, t, rfl, rfl⟩ | ⟨x, t, rfl, rfl⟩
  · exact Reads.int i t
  · exact Reads.str x t
theorem pairs_read (I : Inv X pins σ H s) : ∀ {ks : List (Key × V)} {vs : List (Key × Value)} {ds : List PyData}, KV ks vs → DpAll X.K H (ks.map (·.2)) ds → ∃ bs, PairsRead s.heap enK vs (zipK ks ds) bs
  | [], _, _, r, h => by
    cases r
    exact ⟨[], by unfold zipK; exact .nil⟩
  | p :: ks, _, _, r, h => by
    cases r with
    | @cons _ q _ qs h1 h2 =>
      cases h with
      | @cons _ _ d ds g1 g2 =>
        obtain ⟨k, v⟩ := q
        obtain ⟨kp, vp⟩ := p
        obtain ⟨rfl, rv⟩ := h1
        obtain ⟨as, r1⟩ := Dp.reads I d _ _ g1 rv
        obtain ⟨bs, r2⟩ := pairs_read I h2 g2
        exact ⟨as ++ bs, .cons r1 r2⟩
def rRepD (K : PySem.W.Frag) : List V → Hp → VK → Prop := fun xs H Q => ∃ (a : Addr) (ks : List (Key × V)) (ds : List PyData), xs = [.ref a] ∧ H a = some (.dK ks) ∧ DpAll K H (ks.map (·.2)) ds ∧ PyData.showableKv (zipK ks ds) = true ∧ PyData.hasDictAll ds = false ∧
  PyData.depthKv (zipK ks ds) ≤ 40 ∧ (dictText (PyData.shownKv (zipK ks ds))).length ≤ sizeLine ∧ Q (.str (dictText (PyData.shownKv (zipK ks ds)))) H
theorem call_repD (gd : X.A.guards = some []) (hu : X.A.units + 64 < cLine) : CallR X (.builtin "repr") (rRepD X.K) := by
  intro pins s σ H xs us Q I r h
  obtain ⟨a, ks, ds, rfl, ha, hd, sh, nd, dep, len, q⟩ := h
  obtain ⟨u, rfl, ru⟩ := vals1 r
  cases (show u = Value.ref a from ru)
  obtain ⟨_, hsys, vs, rk, dic⟩ := (show ObjOk X.prog X.w H s.heap a (.dK ks) from I.hok a _ ha)
  obtain ⟨bs, pr⟩ := pairs_read I rk hd
  have rd := reads_dictOf (fun k key e => enK_reads k key e) dic pr
  obtain ⟨o, es, ep, ho, hx, hdat, _, hp, _⟩ := dic
  obtain ⟨rk1, rk2⟩ := readsAll_of_pairs (fun k key e => enK_reads k key e) hp pr
  obtain ⟨sh1, sh2⟩ := PyData.showableKv_split _ sh
  have vv : (zipK ks ds).map (·.2) = ds := zipK_vals (by have := dpAll_len hd; rw [List.length_map] at this; exact this)
  obtain ⟨b1, hb1, k1⟩ := ReprAllK.of_readsAll (prog := X.prog) (w := X.w) rk1 sh1 (fun _ z => nomatch z) (fun t ht => let ⟨p, hp, hl⟩ := PyData.shownKv_key_le _ t ht; Nat.le_trans hl (Nat.le_trans (dictText_mem_le hp) len))
  obtain ⟨b2, hb2, k2⟩ := ReprAllK.of_readsAll (prog := X.prog) (w := X.w) rk2 sh2 (fun z => by rw [vv, nd] at z; exact nomatch z) (fun t ht => let ⟨p, hp, hl⟩ := PyData.shownKv_val_le _ t ht; Nat.le_trans hl (Nat.le_trans (dictText_mem_le hp) len))
  have rm : ReadAtMost s.heap (PyData.depthKv (zipK ks ds)) (b1 ++ b2) := (hb1.mono (PyData.depthAll_keys_le _)).append (hb2.mono (PyData.depthAll_vals_le _))
  have na : a ∉ b1 ++ b2 := not_mem_of_deeper rd (by simp only [PyData.depth]; omega) rm
  have EK := ReprEntriesK.of_two es.toList _ _ (k1.more_le (fun b z => List.mem_append_left b2 z) (PyData.depthAll_keys_le (zipK ks ds))) (k2.more_le (fun b z => List.mem_append_right b1 z) (PyData.depthAll_vals_le (zipK ks ds)))
  rw [← PyData.shownKv_eq] at EK
  refine call_repr_slot (T := "dict") (idr := "dict.__repr__") (by omega) ⟨o, ho, hx.1⟩ F.slot_dict_repr (call_dict_reprK (h₀ := s.heap) ho hx.1 hdat hsys na EK gd (fun b _ => Clear.nil b) (by show X.A.units + 1 + (PyData.depthKv (zipK ks ds) + 1) < cLine; omega) (fun _ _ e => e) (fun h2 u tk hk => ?_) len)
  exact ⟨_, _, rfl, .str _, H, I.kept hk, ⟨u, rfl⟩, q⟩
end
theorem strApp (x y : Str) : (x ++ y).length = x.length + y.length := strLen_append x y
theorem textFrom_le : ∀ (ts : List Str) (k : Nat) (acc : Str), (textFrom k acc ts).length ≤ acc.length + piled ts
  | [], k, acc => by show acc.length ≤ _; omega
  | t :: ts, k, acc => by
    have ih := textFrom_le ts (k + 1) (acc ++ (if k > 0 then ", " else "" : String) ++ t)
    have e : (acc ++ (if k > 0 then ", " else "" : String) ++ t).length ≤ acc.length + 2 + t.length := by
      rw [strApp, strApp]
      split
      · exact Nat.le_of_eq rfl
      · show acc.length + 0 + t.length ≤ _
        omega
    show (textFrom (k + 1) (acc ++ (if k > 0 then ", " else "" : String) ++ t) ts).length ≤ _
    have : piled (t :: ts) = t.length + 2 + piled ts := by simp [piled]
    omega
theorem listText_le (ts : List Str) : (listText ts).length ≤ 2 + piled ts := by
  have := textFrom_le ts 0 "["
  have e1 : (("[" : String) : Str).length = 1 := rfl
  have e2 : (("]" : String) : Str).length = 1 := rfl
  unfold listText
  rw [strApp, e2]
  omega
theorem dictText_le (ts : List Str) : (dictText ts).length ≤ 2 + piled ts := by
  have e1 : (("{" : String) : Str).length = 1 := rfl
  have e2 : (("}" : String) : Str).length = 1 := rfl
  unfold dictText
  rw [strApp, strApp, e1, e2]
  by_cases h : ts = []
  · subst h
    show 1 + 0 + 1 ≤ _
    omega
  · have := join_length_add ts h
    omega
theorem piled_le {c : Nat} : ∀ {ts : List Str}, (∀ t ∈ ts, t.length ≤ c) → piled ts ≤ ts.length * (c + 2)
  | [], _ => by simp [piled]
  | t :: ts, h => by
    have ih := piled_le (ts := ts) fun x hx => h x (List.mem_cons_of_mem _ hx)
    have := h t List.mem_cons_self
    have e : piled (t :: ts) = t.length + 2 + piled ts := by simp [piled]
    have e2 : (t :: ts).length * (c + 2) = ts.length * (c + 2) + (c + 2) := by rw [List.length_cons, Nat.succ_mul]
    omega
end VL

set_option Elab.async false
set_option linter.all false
set_option maxRecDepth 100000
set_option maxHeartbeats 4000000
namespace VL
open PySem PySem.Spec PyProof.Rows L2 PyProof.V

/-! ### nested data with dicts: what stands there; repr of it, where nothing is being shown -/
mutual
inductive Dq (H : Hp) : V → PyData → Prop
  | non : Dq H .non .none
  | bl (b : Bool) : Dq H (.bl b) (.bool b)
  | int (i : Int) : Dq H (.int i) (.int i)
  | str (x : Str) : Dq H (.str x) (.str x)
  | lst {a : Addr} {xs : List V} {ds : List PyData} : H a = some (.lst xs) → DqAll H xs ds → Dq H (.ref a) (.list ds)
  | tup {a : Addr} {xs : List V} {ds : List PyData} : H a = some (.tup xs) → DqAll H xs ds → Dq H (.ref a) (.tuple ds)
  | dic {a : Addr} {ks : List (Key × V)} {ds : List PyData} : H a = some (.dK ks) → (ks.map (·.1)).Nodup → DqAll H (ks.map (·.2)) ds → Dq H (.ref a) (.dict (zipK ks ds))
inductive DqAll (H : Hp) : List V → List PyData → Prop
  | nil : DqAll H [] []
  | cons {v : V} {vs : List V} {d : PyData} {ds : List PyData} : Dq H v d → DqAll H vs ds → DqAll H (v :: vs) (d :: ds)
end
theorem DqAll.len {H : Hp} : ∀ {vs : List V} {ds : List PyData}, DqAll H vs ds → vs.length = ds.length
  | _, _, .nil => rfl
  | _, _, .cons _ h => by simp [DqAll.len h]
theorem DqAll.of_each {H : Hp} {P : V → PyData → Prop} : ∀ {vs : List V} {ds : List PyData}, DqAll H vs ds → (∀ v d, Dq H v d → P v d) → Paired P vs ds
  | _, _, .nil, _ => .nil
  | _, _, .cons a b, f => .cons (f _ _ a) (DqAll.of_each b f)
theorem DqAll.paired {H : Hp} : ∀ {vs : List V} {ds : List PyData}, DqAll H vs ds → Paired (Dq H) vs ds
  | _, _, .nil => .nil
  | _, _, .cons a b => .cons a (DqAll.paired b)
theorem DqAll.of_paired {H : Hp} : ∀ {vs : List V} {ds : List PyData}, Paired (Dq H) vs ds → DqAll H vs ds
  | _, _, .nil => .nil
  | _, _, .cons a b => .cons a (DqAll.of_paired b)
theorem dKv_le : ∀ (ks : List (Key × V)) (ds : List PyData), ks.length = ds.length → PyData.depthAll ds ≤ PyData.depthKv (zipK ks ds)
  | [], [], _ => Nat.le_refl _
  | p :: ks, d :: ds, h => by
    have ih := dKv_le ks ds (Nat.succ.inj h)
    show max (PyData.depth d) (PyData.depthAll ds) ≤ max (max (PyData.depth (enK p.1)) (PyData.depth d)) (PyData.depthKv (zipK ks ds))
    omega
theorem dq_mono_n {H H' : Hp} (s : Same H H') : ∀ (n : Nat) (d : PyData) (v : V), PyData.depth d ≤ n → Dq H v d → Dq H' v d := by
  intro n
  induction n with
  | zero =>
    intro d v hn h
    cases h with
    | non => exact .non
    | bl b => exact .bl b
    | int i => exact .int i
    | str x => exact .str x
    | lst _ _ => exact absurd hn (by simp [PyData.depth])
    | tup _ _ => exact absurd hn (by simp [PyData.depth])
    | dic _ _ _ => exact absurd hn (by simp [PyData.depth])
  | succ n ih =>
    have all : ∀ {vs : List V} {ds : List PyData}, DqAll H vs ds → PyData.depthAll ds ≤ n → DqAll H' vs ds := by
      intro vs
      induction vs with
      | nil => intro ds h _; cases h; exact .nil
      | cons v vs iv =>
        intro ds h hd
        cases h with
        | @cons _ _ d ds a b =>
          have hd' : max (PyData.depth d) (PyData.depthAll ds) ≤ n := hd
          exact .cons (ih d v (by omega) a) (iv b (by omega))
    intro d v hn h
    cases h with
    | non => exact .non
    | bl b => exact .bl b
    | int i => exact .int i
    | str x => exact .str x
    | lst h1 h2 => exact .lst (s _ _ h1) (all h2 (by simp only [PyData.depth] at hn; omega))
    | tup h1 h2 => exact .tup (s _ _ h1) (all h2 (by simp only [PyData.depth] at hn; omega))
    | @dic a ks ds h1 nd h2 =>
      have := dKv_le ks ds (by have := h2.len; rwa [List.length_map] at this)
      exact .dic (s _ _ h1) nd (all h2 (by simp only [PyData.depth] at hn; omega))
theorem Dq.same {H H' : Hp} {v : V} {d : PyData} (h : Dq H v d) (s : Same H H') : Dq H' v d := dq_mono_n s _ d v (Nat.le_refl _) h
theorem DqAll.same {H H' : Hp} (s : Same H H') : ∀ {vs : List V} {ds : List PyData}, DqAll H vs ds → DqAll H' vs ds
  | _, _, .nil => .nil
  | _, _, .cons a b => .cons (a.same s) (DqAll.same s b)
section
variable {X : Cx} {pins : List (Addr × Obj)} {σ : L2.St} {H : Hp} {s : Shared}
/-- what repr asks of a value that reads as d -/
def RpOk (X : Cx) (s : Shared) (u : Value) (d : PyData) : Prop := ∃ as bs, Reads s.heap u d as ∧ ReadAtMost s.heap (PyData.depth d) bs ∧ ReprK X.prog X.w bs s.heap (PyData.depth d) u (PyData.shown d)
def RpAll (X : Cx) (s : Shared) (us : List Value) (ds : List PyData) : Prop := ∃ as bs, ReadsAll s.heap us ds as ∧ ReadAtMost s.heap (PyData.depthAll ds) bs ∧ ReprAllK X.prog X.w bs s.heap (PyData.depthAll ds) us (PyData.shownAll ds)
theorem rp_all {n : Nat} (ih : ∀ (d : PyData) (v : V) (u : Value), PyData.depth d ≤ n → Dq H v d → RelV v u → PyData.showable d = true → (PyData.shown d).length ≤ sizeLine → RpOk X s u d) :
    ∀ {vs : List V} {us : List Value} {ds : List PyData}, DqAll H vs ds → PyData.depthAll ds ≤ n → Vals vs us → PyData.showableAll ds = true → (∀ t ∈ PyData.shownAll ds, t.length ≤ sizeLine) → RpAll X s us ds
  | [], us, ds, h, _, r, _, _ => by
    cases h
    cases r
    exact ⟨[], [], .nil, (fun _ h => nomatch h), .nil⟩
  | v :: vs, us, ds, h, hd, r, hs, hz => by
    cases h with
    | @cons _ _ d ds a b =>
      cases r with
      | @cons _ u _ us r1 r2 =>
        have hd' : max (PyData.depth d) (PyData.depthAll ds) ≤ n := hd
        have hs' : PyData.showable d = true ∧ PyData.showableAll ds = true := by simpa [PyData.showableAll] using hs
        obtain ⟨as1, bs1, x1, y1, z1⟩ := ih d v u (by omega) a r1 hs'.1 (hz _ (by simp only [PyData.shownAll]; exact List.mem_cons_self))
        obtain ⟨as2, bs2, x2, y2, z2⟩ := rp_all ih b (by omega) r2 hs'.2 (fun t ht => hz t (by simp only [PyData.shownAll]; exact List.mem_cons_of_mem _ ht))
        refine ⟨as1 ++ as2, bs1 ++ bs2, .cons x1 x2, fun b hm => ?_, ?_⟩
        · show ∃ d' as', Reads s.heap (.ref b) d' as' ∧ PyData.depth d' ≤ max (PyData.depth d) (PyData.depthAll ds)
          rcases List.mem_append.mp hm with hm | hm
          · obtain ⟨d', as', r', hd'⟩ := y1 b hm
            exact ⟨d', as', r', by omega⟩
          · obtain ⟨d', as', r', hd'⟩ := y2 b hm
            exact ⟨d', as', r', by omega⟩
        · simp only [PyData.depthAll, PyData.shownAll]
          exact .cons ((z1.more fun b hb => List.mem_append_left bs2 hb).level_le (Nat.le_max_left _ _)) (z2.more_le (fun b hb => List.mem_append_right bs1 hb) (Nat.le_max_right _ _))
theorem pairs_vals {P : Program} {w : World} : ∀ {es : List DictEntry} {kvs : List (Key × Value)}, Pairs (mixKind P w) es kvs → es.map (·.val) = kvs.map (·.2)
  | _, _, .nil => rfl
  | _, _, .cons _ hv hp => by rw [List.map_cons, List.map_cons, hv, pairs_vals hp]
theorem pairs_keys {h : Heap} {P : Program} {w : World} : ∀ {es : List DictEntry} {vs : List (Key × Value)} {ks : List (Key × V)} {ds : List PyData}, Pairs (mixKind P w) es vs → KV ks vs → ks.length = ds.length → ReadsAll h (es.map (·.key)) ((zipK ks ds).map (·.1)) []
  | _, _, [], [], .nil, _, _ => .nil
  | _, _, p :: ks, d :: ds, .cons (kv := q) hk hv hp, r, hl => by
    cases r with
    | cons r1 r2 =>
      have hk' := hk
      rw [← r1.1] at hk'
      exact ReadsAll.cons (enK_reads _ _ hk') (pairs_keys hp r2 (Nat.succ.inj hl))
  | _, _, p :: ks, d :: ds, .nil, r, hl => by cases r
  | _, _, [], [], .cons _ _ _, r, _ => by cases r
  | _, _, [], d :: ds, _, _, hl => nomatch hl
  | _, _, p :: ks, [], _, _, hl => nomatch hl
theorem kv_vals : ∀ {ks : List (Key × V)} {vs : List (Key × Value)}, KV ks vs → Vals (ks.map (·.2)) (vs.map (·.2))
  | _, _, .nil => .nil
  | _, _, .cons r rs => .cons r.2 (kv_vals rs)
theorem dq_rp (I : Inv X pins σ H s) : ∀ (n : Nat) (d : PyData) (v : V) (u : Value), PyData.depth d ≤ n → Dq H v d → RelV v u → PyData.showable d = true → (PyData.shown d).length ≤ sizeLine → RpOk X s u d := by
  intro n
  induction n with
  | zero =>
    intro d v u hn h r hs hz
    cases h with
    | non => cases r; exact ⟨_, [], .none, (fun _ h => nomatch h), by simp only [PyData.shown]; exact .of_is ReprIs.none _ _ _⟩
    | bl b => cases r; exact ⟨_, [], .bool b, (fun _ h => nomatch h), by simp only [PyData.shown]; exact .of_is (ReprIs.bool b) _ _ _⟩
    | int i =>
      obtain ⟨t, rfl⟩ := r
      exact ⟨_, [], .int i t, (fun _ h => nomatch h), by simp only [PyData.shown]; exact .of_is (ReprIs.int t (by simpa [PyData.showable] using hs)) _ _ _⟩
    | str x =>
      obtain ⟨t, rfl⟩ := r
      exact ⟨_, [], .str x t, (fun _ h => nomatch h), by simp only [PyData.shown]; exact .of_is (ReprIs.str x t (by simpa only [PyData.shown] using hz)) _ _ _⟩
    | lst _ _ => exact absurd hn (by simp [PyData.depth])
    | tup _ _ => exact absurd hn (by simp [PyData.depth])
    | dic _ _ _ => exact absurd hn (by simp [PyData.depth])
  | succ n ih =>
    intro d v u hn h r hs hz
    cases h with
    | non => exact ih _ _ _ (Nat.zero_le _) .non r hs hz
    | bl b => exact ih _ _ _ (Nat.zero_le _) (.bl b) r hs hz
    | int i => exact ih _ _ _ (Nat.zero_le _) (.int i) r hs hz
    | str x => exact ih _ _ _ (Nat.zero_le _) (.str x) r hs hz
    | @lst a xs ds h1 h2 =>
      cases (show u = Value.ref a from r)
      obtain ⟨_, its, m, rv, ho⟩ := (show ObjOk X.prog X.w H s.heap a (.lst xs) from I.hok a _ h1)
      have zz : (listText (PyData.shownAll ds)).length ≤ sizeLine := by simpa only [PyData.shown] using hz
      obtain ⟨as, bs, ra, rm, rk⟩ := rp_all ih h2 (by simp only [PyData.depth] at hn; omega) rv (by simpa [PyData.showable] using hs) (fun t ht => Nat.le_trans (listText_mem_le ht) zz)
      have rd : Reads s.heap (.ref a) (.list ds) (a :: as) := .list ho rfl rfl ra
      have na : a ∉ bs := not_mem_of_deeper rd (by simp only [PyData.depth]; omega) rm
      refine ⟨_, a :: bs, rd, ReadAtMost.cons rd (by simp only [PyData.depth]; omega) rm, ?_⟩
      simp only [PyData.depth, PyData.shown]
      cases its with
      | nil =>
        cases ra
        simp only [PyData.shownAll, listText_nil]
        exact ReprK.listEmpty ho rfl rfl
      | cons x l => exact ReprK.list ho rfl rfl na (by simpa using rk.length_eq) (fun i y e => rk.item i y (by simpa using e))
    | @tup a xs ds h1 h2 =>
      cases (show u = Value.ref a from r)
      obtain ⟨_, its, rv, o, ho, oc, m, od⟩ := (show ObjOk X.prog X.w H s.heap a (.tup xs) from I.hok a _ h1)
      have zz : (tupleText (PyData.shownAll ds)).length ≤ sizeLine := by simpa only [PyData.shown] using hz
      obtain ⟨as, bs, ra, rm, rk⟩ := rp_all ih h2 (by simp only [PyData.depth] at hn; omega) rv (by simpa [PyData.showable] using hs) (fun t ht => Nat.le_trans (tupleText_mem_le ht) zz)
      have rd : Reads s.heap (.ref a) (.tuple ds) as := .tuple ho oc od ra
      have na : a ∉ bs := not_mem_of_deeper rd (by simp only [PyData.depth]; omega) rm
      refine ⟨_, a :: bs, rd, ReadAtMost.cons rd (by simp only [PyData.depth]; omega) rm, ?_⟩
      simp only [PyData.depth, PyData.shown]
      exact ReprK.tuple ho oc od na rk
    | @dic a ks ds h1 nd h2 =>
      cases (show u = Value.ref a from r)
      obtain ⟨_, hsys, vs, rkv, dof⟩ := (show ObjOk X.prog X.w H s.heap a (.dK ks) from I.hok a _ h1)
      have kl : ks.length = ds.length := by have := h2.len; rwa [List.length_map] at this
      have zz : (dictText (PyData.shownKv (zipK ks ds))).length ≤ sizeLine := by simpa only [PyData.shown] using hz
      obtain ⟨o, es, ep, ho, hx, hdat, _, hp, _⟩ := dof
      have vv : (zipK ks ds).map (·.2) = ds := zipK_vals kl
      obtain ⟨sh1, sh2⟩ := PyData.showableKv_split _ (show PyData.showableKv (zipK ks ds) = true by simpa [PyData.showable] using hs)
      rw [vv] at sh2
      have rk1 : ReadsAll s.heap (es.toList.map (·.key)) ((zipK ks ds).map (·.1)) [] := pairs_keys hp rkv kl
      have dle := dKv_le ks ds kl
      obtain ⟨as2, b2, ra2, hb2, k2⟩ := rp_all ih h2 (by simp only [PyData.depth] at hn; omega) (kv_vals rkv) sh2 (fun t ht => by
        rw [← vv] at ht
        obtain ⟨p, hp, hl⟩ := PyData.shownKv_val_le _ t ht
        exact Nat.le_trans hl (Nat.le_trans (dictText_mem_le hp) zz))
      obtain ⟨b1, hb1, k1⟩ := ReprAllK.of_readsAll (prog := X.prog) (w := X.w) rk1 sh1 (fun _ z => nomatch z) (fun t ht => let ⟨p, hp, hl⟩ := PyData.shownKv_key_le _ t ht; Nat.le_trans hl (Nat.le_trans (dictText_mem_le hp) zz))
      have ev : es.toList.map (·.val) = vs.map (·.2) := pairs_vals hp
      rw [← ev] at ra2 k2
      have ra2' : ReadsAll s.heap (es.toList.map (·.val)) ((zipK ks ds).map (·.2)) as2 := by rw [vv]; exact ra2
      have rd : Reads s.heap (.ref a) (.dict (zipK ks ds)) (a :: [] ++ as2) := .dict ho hx.1 hdat rk1 ra2'
      have rm : ReadAtMost s.heap (PyData.depthKv (zipK ks ds)) (b1 ++ b2) := (hb1.mono (PyData.depthAll_keys_le _)).append (hb2.mono dle)
      have na : a ∉ b1 ++ b2 := not_mem_of_deeper rd (by simp only [PyData.depth]; omega) rm
      refine ⟨_, a :: (b1 ++ b2), rd, ReadAtMost.cons rd (by simp only [PyData.depth]; omega) rm, ?_⟩
      have EK := ReprEntriesK.of_two es.toList _ _ (k1.more_le (fun b z => List.mem_append_left b2 z) (PyData.depthAll_keys_le (zipK ks ds))) (k2.more_le (fun b z => List.mem_append_right b1 z) dle)
      rw [show PyData.shownAll ds = PyData.shownAll ((zipK ks ds).map (·.2)) by rw [vv], ← PyData.shownKv_eq] at EK
      simp only [PyData.depth, PyData.shown]
      exact ReprK.dict ho hx.1 hdat hsys na EK
theorem rp_list (I : Inv X pins σ H s) {vs : List V} {us : List Value} {ds : List PyData} (h : DqAll H vs ds) (r : Vals vs us) (hs : PyData.showableAll ds = true) (hz : ∀ t ∈ PyData.shownAll ds, t.length ≤ sizeLine) : RpAll X s us ds :=
  rp_all (fun d v u hn => dq_rp I _ d v u hn) h (Nat.le_refl _) r hs hz
def rRepQ : List V → Hp → VK → Prop := fun xs H Q => ∃ (a : Addr) (d : PyData), xs = [.ref a] ∧ Dq H (.ref a) d ∧ PyData.showable d = true ∧ PyData.depth d ≤ 40 ∧ (PyData.shown d).length ≤ sizeLine ∧ Q (.str (PyData.shown d)) H
theorem call_repQ (gd : X.A.guards = some []) (hu : X.A.units + 64 < cLine) : CallR X (.builtin "repr") rRepQ := by
  intro pins s σ H xs us Q I r h
  obtain ⟨a, d, rfl, hd, hs, dep, hz, q⟩ := h
  obtain ⟨u, rfl, ru⟩ := vals1 r
  cases (show u = Value.ref a from ru)
  have fin : ∀ (h' : Heap) (v : Tok) (tk : Nat), (∀ b o, s.heap.get? b = some o → h'.get? b = some o) → EP X pins σ Q (.str (PyData.shown d) v) { s with heap := h', toks := tk } := fun h' v tk hk => ⟨.str _, H, I.kept hk, ⟨v, rfl⟩, q⟩
  cases hd with
  | @lst _ xs ds h1 h2 =>
    obtain ⟨_, its, m, rv, ho⟩ := (show ObjOk X.prog X.w H s.heap a (.lst xs) from I.hok a _ h1)
    have zz : (listText (PyData.shownAll ds)).length ≤ sizeLine := by simpa only [PyData.shown] using hz
    obtain ⟨as, bs, ra, rm, rk⟩ := rp_list I h2 rv (by simpa [PyData.showable] using hs) (fun t ht => Nat.le_trans (listText_mem_le ht) zz)
    have rd : Reads s.heap (.ref a) (.list ds) (a :: as) := .list ho rfl rfl ra
    have na : a ∉ bs := not_mem_of_deeper rd (by simp only [PyData.depth]; omega) rm
    simp only [PyData.depth] at dep
    simp only [PyData.shown] at fin
    cases its with
    | nil =>
      cases ra
      simp only [PyData.shownAll, listText_nil] at fin
      exact call_repr_slot (T := "list") (by omega) ⟨_, ho, rfl⟩ F.slot_list_repr.toG (call_list_repr_empty ⟨_, ho, rfl⟩ ho rfl ⟨_, _, rfl, fin s.heap _ _ fun _ _ e => e⟩)
    | cons x l =>
      exact call_repr_slot (T := "list") (by omega) ⟨_, ho, rfl⟩ F.slot_list_repr.toG (call_list_reprK (h₀ := s.heap) ho rfl rfl na (by simpa using rk.length_eq) (fun i y e => rk.item i y (by simpa using e)) gd (fun b _ => Clear.nil b) (by show X.A.units + 1 + _ < cLine; omega) (fun _ _ e => e) (fun h' v tk hk => ⟨_, _, rfl, fin h' v tk hk⟩) zz)
  | @tup _ xs ds h1 h2 =>
    obtain ⟨_, its, rv, o, ho, oc, m, od⟩ := (show ObjOk X.prog X.w H s.heap a (.tup xs) from I.hok a _ h1)
    have zz : (tupleText (PyData.shownAll ds)).length ≤ sizeLine := by simpa only [PyData.shown] using hz
    obtain ⟨as, bs, ra, rm, rk⟩ := rp_list I h2 rv (by simpa [PyData.showable] using hs) (fun t ht => Nat.le_trans (tupleText_mem_le ht) zz)
    have rd : Reads s.heap (.ref a) (.tuple ds) as := .tuple ho oc od ra
    have na : a ∉ bs := not_mem_of_deeper rd (by simp only [PyData.depth]; omega) rm
    simp only [PyData.depth] at dep
    simp only [PyData.shown] at fin
    exact call_repr_slot (T := "tuple") (by omega) ⟨_, ho, oc⟩ F.slot_tuple_repr (call_tuple_reprK (h₀ := s.heap) ho oc od na rk gd (fun b _ => Clear.nil b) (by show X.A.units + 1 + _ < cLine; omega) (fun _ _ e => e) (fun h' v tk hk => ⟨_, _, rfl, fin h' v tk hk⟩) zz)
  | @dic _ ks ds h1 nd h2 =>
    obtain ⟨_, hsys, vs, rkv, dof⟩ := (show ObjOk X.prog X.w H s.heap a (.dK ks) from I.hok a _ h1)
    have kl : ks.length = ds.length := by have := h2.len; rwa [List.length_map] at this
    have zz : (dictText (PyData.shownKv (zipK ks ds))).length ≤ sizeLine := by simpa only [PyData.shown] using hz
    obtain ⟨o, es, ep, ho, hx, hdat, _, hp, _⟩ := dof
    have vv : (zipK ks ds).map (·.2) = ds := zipK_vals kl
    obtain ⟨sh1, sh2⟩ := PyData.showableKv_split _ (show PyData.showableKv (zipK ks ds) = true by simpa [PyData.showable] using hs)
    rw [vv] at sh2
    have rk1 : ReadsAll s.heap (es.toList.map (·.key)) ((zipK ks ds).map (·.1)) [] := pairs_keys hp rkv kl
    have dle := dKv_le ks ds kl
    obtain ⟨as2, b2, ra2, hb2, k2⟩ := rp_list I h2 (kv_vals rkv) sh2 (fun t ht => by
      rw [← vv] at ht
      obtain ⟨p, hp, hl⟩ := PyData.shownKv_val_le _ t ht
      exact Nat.le_trans hl (Nat.le_trans (dictText_mem_le hp) zz))
    obtain ⟨b1, hb1, k1⟩ := ReprAllK.of_readsAll (prog := X.prog) (w := X.w) rk1 sh1 (fun _ z => nomatch z) (fun t ht => let ⟨p, hp, hl⟩ := PyData.shownKv_key_le _ t ht; Nat.le_trans hl (Nat.le_trans (dictText_mem_le hp) zz))
    have ev : es.toList.map (·.val) = vs.map (·.2) := pairs_vals hp
    rw [← ev] at ra2 k2
    have ra2' : ReadsAll s.heap (es.toList.map (·.val)) ((zipK ks ds).map (·.2)) as2 := by rw [vv]; exact ra2
    have rd : Reads s.heap (.ref a) (.dict (zipK ks ds)) (a :: [] ++ as2) := .dict ho hx.1 hdat rk1 ra2'
    have rm : ReadAtMost s.heap (PyData.depthKv (zipK ks ds)) (b1 ++ b2) := (hb1.mono (PyData.depthAll_keys_le _)).append (hb2.mono dle)
    have na : a ∉ b1 ++ b2 := not_mem_of_deeper rd (by simp only [PyData.depth]; omega) rm
    have EK := ReprEntriesK.of_two es.toList _ _ (k1.more_le (fun b z => List.mem_append_left b2 z) (PyData.depthAll_keys_le (zipK ks ds))) (k2.more_le (fun b z => List.mem_append_right b1 z) dle)
    rw [show PyData.shownAll ds = PyData.shownAll ((zipK ks ds).map (·.2)) by rw [vv], ← PyData.shownKv_eq] at EK
    simp only [PyData.depth] at dep
    simp only [PyData.shown] at fin
    exact call_repr_slot (T := "dict") (idr := "dict.__repr__") (by omega) ⟨o, ho, hx.1⟩ F.slot_dict_repr (call_dict_reprK (h₀ := s.heap) ho hx.1 hdat hsys na EK gd (fun b _ => Clear.nil b) (by show X.A.units + 1 + _ < cLine; omega) (fun _ _ e => e) (fun h' v tk hk => ⟨_, _, rfl, fin h' v tk hk⟩) zz)
end
end VL

set_option Elab.async false
set_option linter.all false
set_option maxRecDepth 100000
set_option maxHeartbeats 4000000
namespace VL
open PySem PySem.Spec PyProof.Rows L2
/-! ### dict comprehensions over any walk; dicts read while locked -/
theorem dc_itQ {J : It} {n : Nat} {G : Hp → Prop} {Y : Nat → Hp → V → Hp → Prop} (w : Walk J n G Y) {g : TG} {tt : TT} {tk tv : TE} {vs : List Nat} {σ : L2.St} {H1 : Hp} {D : Addr} {Qd : Hp → Prop} (Pv : Nat → Hp → Prop) (h0 : Pv 0 (upd H1 D (.dK []))) (hG : ∀ i H, i ≤ n → Pv i H → G H)
    (hs : ∀ i x H H', i < n → Pv i H → Y i H x H' → g x (wipe σ vs) H' fun σ2 H2 => wipe σ2 vs = wipe σ vs ∧ tt σ2 H2 fun b H3 =>
      if b = true then tk σ2 H3 fun y H4 => tv σ2 H4 fun z H5 => ∃ kvs k, y = kV k ∧ H5 D = some (.dK kvs) ∧ kvs.length < sizeLine ∧ Pv (i + 1) (upd H5 D (.dK (putK kvs k z))) else Pv (i + 1) H3) (hd : ∀ H, Pv n H → Qd H) :
    ∃ W : Nat → Nat → Hp → Prop, (∃ m, W 0 m (upd H1 D (.dK []))) ∧ ∀ i m H, W i m H →
      (J.stop i H ∧ Qd H) ∨ (J.go i H ∧ ∃ Nx : Hp → Prop, (∀ H', Nx H' → ∃ m', m' < m ∧ W (i + 1) m' H') ∧ ∀ x H', J.yld i H x H' → g x (wipe σ vs) H' fun σ2 H2 => wipe σ2 vs = wipe σ vs ∧ tt σ2 H2 fun b H3 =>
        if b = true then tk σ2 H3 fun y H4 => tv σ2 H4 fun z H5 => ∃ kvs k, y = kV k ∧ H5 D = some (.dK kvs) ∧ kvs.length < sizeLine ∧ Nx (upd H5 D (.dK (putK kvs k z))) else Nx H3) := by
  refine ⟨fun i m H => m = n - i ∧ i ≤ n ∧ Pv i H, ⟨n, by simp, Nat.zero_le _, h0⟩, ?_⟩
  rintro i m H ⟨rfl, hi, p⟩
  have q := hG i H hi p
  by_cases hlt : i < n
  · refine .inr ⟨w.goes i H hlt q, Pv (i + 1), fun H' p' => ⟨n - (i + 1), by omega, rfl, hlt, p'⟩, fun x H' y => hs i x H H' hlt p (w.yields i H x H' hlt q y)⟩
  · have e : i = n := by omega
    subst e
    exact .inl ⟨w.stops H q, hd H p⟩
theorem dget_fz {H : Hp} {a : Addr} {o : Obj} {kvs : List (Key × V)} {k : Key} (e : H a = some (.frz o (.dK kvs))) : DGet H a (kV k) (valV kvs k) := .inl ⟨kvs, k, .inr ⟨o, e⟩, rfl, rfl⟩
theorem putK_nw {ks : List (Key × V)} {k : Key} {v : V} (h : valV ks k = none) : putK ks k v = ks ++ [(k, v)] := by
  unfold putK
  rw [valV_any, h]
  rfl
theorem valV_out {ks : List (Key × V)} {k : Key} (h : k ∉ ks.map (·.1)) : valV ks k = none := by
  induction ks with
  | nil => rfl
  | cons p ks ih =>
    rw [valV_neg (fun z => h (by rw [List.map_cons, ← z]; exact List.mem_cons_self))]
    exact ih fun z => h (List.mem_cons_of_mem _ z)
theorem valV_nd : ∀ {ks : List (Key × V)} {i : Nat} {k : Key} {v : V}, (ks.map (·.1)).Nodup → ks[i]? = some (k, v) → valV ks k = some v
  | [], _, _, _, _, h => by simp at h
  | p :: ks, 0, k, v, nd, h => by
    simp at h
    subst h
    exact valV_pos rfl
  | p :: ks, i + 1, k, v, nd, h => by
    simp at h
    rw [List.map_cons, List.nodup_cons] at nd
    have hm : k ∈ ks.map (·.1) := List.mem_map.mpr ⟨_, List.mem_of_getElem? h, rfl⟩
    rw [valV_neg (fun z => nd.1 (by rw [z]; exact hm))]
    exact valV_nd nd.2 h
theorem zipK_keys : ∀ {ks ls : List (Key × V)} {ds : List PyData}, ks.map (·.1) = ls.map (·.1) → zipK ks ds = zipK ls ds
  | [], [], _, _ => by unfold zipK; rfl
  | p :: ks, q :: ls, [], h => by unfold zipK; rfl
  | p :: ks, q :: ls, d :: ds, h => by
    rw [List.map_cons, List.map_cons] at h
    injection h with h1 h2
    show (enK p.1, d) :: zipK ks ds = (enK q.1, d) :: zipK ls ds
    rw [h1, zipK_keys h2]
  | [], q :: ls, _, h => nomatch h
  | p :: ks, [], _, h => nomatch h
theorem zipK_app : ∀ {ks ls : List (Key × V)} {ds es : List PyData}, ks.length = ds.length → zipK (ks ++ ls) (ds ++ es) = zipK ks ds ++ zipK ls es
  | [], ls, [], es, _ => rfl
  | p :: ks, ls, d :: ds, es, h => by
    show (enK p.1, d) :: zipK (ks ++ ls) (ds ++ es) = (enK p.1, d) :: zipK ks ds ++ zipK ls es
    rw [zipK_app (Nat.succ.inj h)]
    rfl
theorem enK_inj {a b : Key} (h : enK a = enK b) : a = b := by
  cases a with
  | inl i => cases b with
    | inl j => injection h with h; rw [h]
    | inr y => exact nomatch h
  | inr x => cases b with
    | inl j => exact nomatch h
    | inr y => injection h with h; rw [h]
/-! ### what stands there is one thing -/
theorem dq_det_n {H : Hp} : ∀ (n : Nat) (d d' : PyData) (v : V), PyData.depth d ≤ n → Dq H v d → Dq H v d' → d = d' := by
  intro n
  induction n with
  | zero =>
    intro d d' v hn h h'
    cases h with
    | non => cases h'; rfl
    | bl b => cases h'; rfl
    | int i => cases h'; rfl
    | str x => cases h'; rfl
    | lst _ _ => exact absurd hn (by simp [PyData.depth])
    | tup _ _ => exact absurd hn (by simp [PyData.depth])
    | dic _ _ _ => exact absurd hn (by simp [PyData.depth])
  | succ n ih =>
    have all : ∀ {vs : List V} {ds es : List PyData}, DqAll H vs ds → DqAll H vs es → PyData.depthAll ds ≤ n → ds = es := by
      intro vs
      induction vs with
      | nil => intro ds es h h' _; cases h; cases h'; rfl
      | cons v vs iv =>
        intro ds es h h' hd
        cases h with
        | @cons _ _ d ds a b =>
          cases h' with
          | @cons _ _ e es a' b' =>
            have hd' : max (PyData.depth d) (PyData.depthAll ds) ≤ n := hd
            rw [ih d e v (by omega) a a', iv b b' (by omega)]
    intro d d' v hn h h'
    cases h with
    | non => cases h'; rfl
    | bl b => cases h'; rfl
    | int i => cases h'; rfl
    | str x => cases h'; rfl
    | lst h1 h2 =>
      simp only [PyData.depth] at hn
      cases h' with
      | lst g1 g2 => rw [h1] at g1; cases g1; rw [all h2 g2 (by omega)]
      | tup g1 g2 => rw [h1] at g1; cases g1
      | dic g1 _ g2 => rw [h1] at g1; cases g1
    | tup h1 h2 =>
      simp only [PyData.depth] at hn
      cases h' with
      | lst g1 g2 => rw [h1] at g1; cases g1
      | tup g1 g2 => rw [h1] at g1; cases g1; rw [all h2 g2 (by omega)]
      | dic g1 _ g2 => rw [h1] at g1; cases g1
    | @dic a ks ds h1 nd h2 =>
      have := dKv_le ks ds (by have := h2.len; rwa [List.length_map] at this)
      simp only [PyData.depth] at hn
      cases h' with
      | lst g1 g2 => rw [h1] at g1; cases g1
      | tup g1 g2 => rw [h1] at g1; cases g1
      | dic g1 _ g2 => rw [h1] at g1; cases g1; rw [all h2 g2 (by omega)]
theorem Dq.det {H : Hp} {v : V} {d d' : PyData} (h : Dq H v d) (h' : Dq H v d') : d = d' := dq_det_n _ d d' v (Nat.le_refl _) h h'
/-- a store at what is deeper changes nothing -/
theorem dq_upd_n {H : Hp} {a : Addr} {da : PyData} {o : HO} (ha : Dq H (.ref a) da) : ∀ (n : Nat) (d : PyData) (v : V), PyData.depth d ≤ n → PyData.depth d < PyData.depth da → Dq H v d → Dq (upd H a o) v d := by
  intro n
  induction n with
  | zero =>
    intro d v hn _ h
    cases h with
    | non => exact .non
    | bl b => exact .bl b
    | int i => exact .int i
    | str x => exact .str x
    | lst _ _ => exact absurd hn (by simp [PyData.depth])
    | tup _ _ => exact absurd hn (by simp [PyData.depth])
    | dic _ _ _ => exact absurd hn (by simp [PyData.depth])
  | succ n ih =>
    have all : ∀ {vs : List V} {ds : List PyData}, DqAll H vs ds → PyData.depthAll ds ≤ n → PyData.depthAll ds < PyData.depth da → DqAll (upd H a o) vs ds := by
      intro vs
      induction vs with
      | nil => intro ds h _ _; cases h; exact .nil
      | cons v vs iv =>
        intro ds h hd hl
        cases h with
        | @cons _ _ d ds b c =>
          have hd' : max (PyData.depth d) (PyData.depthAll ds) ≤ n := hd
          have hl' : max (PyData.depth d) (PyData.depthAll ds) < PyData.depth da := hl
          exact .cons (ih d v (by omega) (by omega) b) (iv c (by omega) (by omega))
    intro d v hn hl h
    have ne : ∀ b : Addr, v = .ref b → b ≠ a := fun b e z => by
      subst e
      subst z
      rw [h.det ha] at hl
      exact Nat.lt_irrefl _ hl
    cases h with
    | non => exact .non
    | bl b => exact .bl b
    | int i => exact .int i
    | str x => exact .str x
    | lst h1 h2 =>
      simp only [PyData.depth] at hn hl
      exact .lst (by rw [upd_ne (ne _ rfl)]; exact h1) (all h2 (by omega) (by omega))
    | tup h1 h2 =>
      simp only [PyData.depth] at hn hl
      exact .tup (by rw [upd_ne (ne _ rfl)]; exact h1) (all h2 (by omega) (by omega))
    | @dic b ks ds h1 nd h2 =>
      have := dKv_le ks ds (by have := h2.len; rwa [List.length_map] at this)
      simp only [PyData.depth] at hn hl
      exact .dic (by rw [upd_ne (ne _ rfl)]; exact h1) nd (all h2 (by omega) (by omega))
theorem Dq.upd {H : Hp} {a : Addr} {da d : PyData} {v : V} {o : HO} (h : Dq H v d) (ha : Dq H (.ref a) da) (hl : PyData.depth d < PyData.depth da) : Dq (upd H a o) v d := dq_upd_n ha _ d v (Nat.le_refl _) hl h
theorem mem_depth {d : PyData} : ∀ {ds : List PyData}, d ∈ ds → PyData.depth d ≤ PyData.depthAll ds
  | e :: ds, h => by
    show _ ≤ max (PyData.depth e) (PyData.depthAll ds)
    rcases List.mem_cons.mp h with rfl | h
    · omega
    · have := mem_depth h
      omega
/-! ### reading a dict's data -/
def keyB : PyData → Key → Bool
  | .int i, .inl j => decide (i = j)
  | .str x, .inr y => decide (x = y)
  | _, _ => false
theorem keyB_en (a b : Key) : keyB (enK a) b = decide (a = b) := by
  cases a with
  | inl i => cases b with
    | inl j => show decide (i = j) = decide (Sum.inl i = Sum.inl j); by_cases e : i = j <;> simp [e]
    | inr y => show false = decide (Sum.inl i = Sum.inr y); simp
  | inr x => cases b with
    | inl j => show false = decide (Sum.inr x = Sum.inl j); simp
    | inr y => show decide (x = y) = decide (Sum.inr x = Sum.inr y); by_cases e : x = y <;> simp [e]
def lkp : List (PyData × PyData) → Key → Option PyData
  | [], _ => none
  | p :: r, k => if keyB p.1 k = true then some p.2 else lkp r k
theorem lkp_at {H : Hp} {k : Key} : ∀ {ks : List (Key × V)} {ds : List PyData}, DqAll H (ks.map (·.2)) ds → (lkp (zipK ks ds) k = none ∧ valV ks k = none) ∨ ∃ d v, lkp (zipK ks ds) k = some d ∧ valV ks k = some v ∧ Dq H v d
  | [], ds, h => by
    cases h
    exact .inl ⟨rfl, rfl⟩
  | p :: ks, _, .cons (d := d) (ds := ds) a b => by
    have e : lkp (zipK (p :: ks) (d :: ds)) k = if keyB (enK p.1) k = true then some d else lkp (zipK ks ds) k := rfl
    rw [e, keyB_en]
    by_cases q : p.1 = k
    · rw [if_pos (decide_eq_true q), valV_pos q]
      exact .inr ⟨d, p.2, rfl, rfl, a⟩
    · rw [if_neg (by simp [q]), valV_neg q]
      exact lkp_at b
theorem dq_dict {H : Hp} {v : V} {kvs : List (PyData × PyData)} (h : Dq H v (.dict kvs)) : ∃ a ks, v = .ref a ∧ H a = some (.dK ks) ∧ (ks.map (·.1)).Nodup ∧ ks.length = kvs.length ∧
    ∀ k, (lkp kvs k = none ∧ valV ks k = none) ∨ ∃ d v, lkp kvs k = some d ∧ valV ks k = some v ∧ Dq H v d := by
  cases h with
  | @dic a ks ds h1 nd h2 =>
    refine ⟨a, ks, rfl, h1, nd, ?_, fun k => lkp_at h2⟩
    have e : ks.length = ds.length := by have := h2.len; rwa [List.length_map] at this
    have : ((zipK ks ds).map (·.2)).length = ds.length := by rw [zipK_vals e]
    rw [List.length_map] at this
    omega
theorem dq_list {H : Hp} {v : V} {ds : List PyData} (h : Dq H v (.list ds)) : ∃ a xs, v = .ref a ∧ H a = some (.lst xs) ∧ DqAll H xs ds := by
  cases h with
  | @lst a xs _ h1 h2 => exact ⟨a, xs, rfl, h1, h2⟩
theorem dq_tup {H : Hp} {v : V} {ds : List PyData} (h : Dq H v (.tuple ds)) : ∃ a xs, v = .ref a ∧ H a = some (.tup xs) ∧ DqAll H xs ds := by
  cases h with
  | @tup a xs _ h1 h2 => exact ⟨a, xs, rfl, h1, h2⟩
theorem dqAll_at {H : Hp} : ∀ {vs : List V} {ds : List PyData}, DqAll H vs ds → ∀ {i : Nat} {d : PyData}, ds[i]? = some d → ∃ v, vs[i]? = some v ∧ Dq H v d
  | _, _, .nil, i, d, h => by simp at h
  | _, _, .cons a b, 0, d, h => by
    simp at h
    subst h
    exact ⟨_, rfl, a⟩
  | _, _, .cons a b, i + 1, d, h => by
    simp at h
    obtain ⟨v, h1, h2⟩ := dqAll_at b h
    exact ⟨v, by simpa using h1, h2⟩
theorem dqAll_ap {H : Hp} : ∀ {vs ws : List V} {ds es : List PyData}, DqAll H vs ds → DqAll H ws es → DqAll H (vs ++ ws) (ds ++ es)
  | _, _, _, _, .nil, q => q
  | _, _, _, _, .cons a b, q => .cons a (dqAll_ap b q)
/-! ### small data -/
structure Small (c k : Nat) (d : PyData) : Prop where
  sh : PyData.showable d = true
  dp : PyData.depth d ≤ k
  ln : (PyData.shown d).length ≤ c
theorem Small.mono {c k c' k' : Nat} {d : PyData} (h : Small c k d) (h1 : c ≤ c') (h2 : k ≤ k') : Small c' k' d := ⟨h.sh, Nat.le_trans h.dp h2, Nat.le_trans h.ln h1⟩
theorem tupText_le (ts : List Str) : (tupleText ts).length ≤ 3 + piled ts := by
  have e1 : ((("(" : String) : Str)).length = 1 := rfl
  have e3 : (((if ts.length == 1 then ",)" else ")" : String) : Str)).length ≤ 2 := by split <;> decide
  unfold tupleText
  rw [strApp, strApp, e1]
  by_cases h : ts = []
  · subst h
    have : (Str.join ", " ([] : List Str)).length = 0 := rfl
    omega
  · have := join_length_add ts h
    omega
theorem shAll_mem : ∀ {ds : List PyData}, (∀ d ∈ ds, PyData.showable d = true) → PyData.showableAll ds = true
  | [], _ => rfl
  | d :: ds, h => by
    show (PyData.showable d && PyData.showableAll ds) = true
    rw [h d List.mem_cons_self, shAll_mem fun x hx => h x (List.mem_cons_of_mem _ hx)]
    rfl
theorem dpAll_mem {k : Nat} : ∀ {ds : List PyData}, (∀ d ∈ ds, PyData.depth d ≤ k) → PyData.depthAll ds ≤ k
  | [], _ => Nat.zero_le _
  | d :: ds, h => by
    show max (PyData.depth d) (PyData.depthAll ds) ≤ k
    have := h d List.mem_cons_self
    have := dpAll_mem fun x hx => h x (List.mem_cons_of_mem _ hx)
    omega
theorem shownAll_len : ∀ ds : List PyData, (PyData.shownAll ds).length = ds.length
  | [] => rfl
  | d :: ds => by
    show (PyData.shownAll ds).length + 1 = _
    rw [shownAll_len ds]
    rfl
theorem shownAll_mem : ∀ {ds : List PyData} {t : Str}, t ∈ PyData.shownAll ds → ∃ d ∈ ds, t = PyData.shown d
  | d :: ds, t, h => by
    rcases List.mem_cons.mp (show t ∈ PyData.shown d :: PyData.shownAll ds from h) with rfl | h
    · exact ⟨d, List.mem_cons_self, rfl⟩
    · obtain ⟨e, h1, h2⟩ := shownAll_mem h
      exact ⟨e, List.mem_cons_of_mem _ h1, h2⟩
theorem piledAll {c k : Nat} {ds : List PyData} (h : ∀ d ∈ ds, Small c k d) : piled (PyData.shownAll ds) ≤ ds.length * (c + 2) := by
  have := piled_le (c := c) (ts := PyData.shownAll ds) fun t ht => by
    obtain ⟨d, hd, rfl⟩ := shownAll_mem ht
    exact (h d hd).ln
  rwa [shownAll_len] at this
theorem small_list {c k n : Nat} {ds : List PyData} (h : ∀ d ∈ ds, Small c k d) (hl : ds.length ≤ n) : Small (2 + n * (c + 2)) (k + 1) (.list ds) := by
  refine ⟨?_, ?_, ?_⟩
  · show PyData.showableAll ds = true
    exact shAll_mem fun d hd => (h d hd).sh
  · show PyData.depthAll ds + 1 ≤ k + 1
    have := dpAll_mem fun d hd => (h d hd).dp
    omega
  · show (listText (PyData.shownAll ds)).length ≤ _
    have h1 := listText_le (PyData.shownAll ds)
    have h2 := piledAll h
    have h3 := Nat.mul_le_mul_right (c + 2) hl
    omega
theorem small_tup {c k n : Nat} {ds : List PyData} (h : ∀ d ∈ ds, Small c k d) (hl : ds.length ≤ n) : Small (3 + n * (c + 2)) (k + 1) (.tuple ds) := by
  refine ⟨?_, ?_, ?_⟩
  · show PyData.showableAll ds = true
    exact shAll_mem fun d hd => (h d hd).sh
  · show PyData.depthAll ds + 1 ≤ k + 1
    have := dpAll_mem fun d hd => (h d hd).dp
    omega
  · show (tupleText (PyData.shownAll ds)).length ≤ _
    have h1 := tupText_le (PyData.shownAll ds)
    have h2 := piledAll h
    have h3 := Nat.mul_le_mul_right (c + 2) hl
    omega
theorem small_dict {c k n : Nat} {kvs : List (PyData × PyData)} (h : ∀ p ∈ kvs, Small c k p.1 ∧ Small c k p.2) (hl : kvs.length ≤ n) : Small (2 + n * (2 * c + 4)) (k + 1) (.dict kvs) := by
  have sh : ∀ L : List (PyData × PyData), (∀ p ∈ L, Small c k p.1 ∧ Small c k p.2) → PyData.showableKv L = true ∧ PyData.depthKv L ≤ k ∧ piled (PyData.shownKv L) ≤ L.length * (2 * c + 4) := by
    intro L
    induction L with
    | nil => exact fun _ => ⟨rfl, Nat.zero_le _, by simp [PyData.shownKv, piled]⟩
    | cons p L ih =>
      intro hp
      obtain ⟨i1, i2, i3⟩ := ih fun x hx => hp x (List.mem_cons_of_mem _ hx)
      obtain ⟨a, b⟩ := hp p List.mem_cons_self
      refine ⟨?_, ?_, ?_⟩
      · show (PyData.showable p.1 && PyData.showable p.2 && PyData.showableKv L) = true
        rw [a.sh, b.sh, i1]
        rfl
      · show max (max (PyData.depth p.1) (PyData.depth p.2)) (PyData.depthKv L) ≤ k
        have := a.dp
        have := b.dp
        omega
      · have e : PyData.shownKv (p :: L) = (PyData.shown p.1 ++ (": " : Str) ++ PyData.shown p.2) :: PyData.shownKv L := rfl
        have e2 : piled (PyData.shownKv (p :: L)) = (PyData.shown p.1 ++ (": " : Str) ++ PyData.shown p.2).length + 2 + piled (PyData.shownKv L) := by rw [e]; simp [piled]
        have e3 : ((": " : String) : Str).length = 2 := rfl
        have := a.ln
        have := b.ln
        have e4 : (p :: L).length * (2 * c + 4) = L.length * (2 * c + 4) + (2 * c + 4) := by rw [List.length_cons, Nat.succ_mul]
        rw [e2, strApp, strApp]
        omega
  obtain ⟨i1, i2, i3⟩ := sh kvs h
  refine ⟨i1, ?_, ?_⟩
  · show PyData.depthKv kvs + 1 ≤ k + 1
    omega
  · show (dictText (PyData.shownKv kvs)).length ≤ _
    have h1 := dictText_le (PyData.shownKv kvs)
    have h3 := Nat.mul_le_mul_right (2 * c + 4) hl
    omega
end VL

set_option Elab.async false
set_option linter.all false
set_option maxRecDepth 100000
namespace VL
open PySem PySem.Spec PyProof.Rows L2
/-! ### != of lists of any texts; repr of a truth value or None -/
section
variable {X : Cx}
def rNeP (K : PySem.W.Frag) : R2 := fun x y H Q => ∃ d e, Dp K H x d ∧ Dp K H y e ∧ d.plain = true ∧ e.plain = true ∧ PyData.depth d ≤ 60 ∧ Q (.bl (!PyData.eqv d e)) H
theorem op_neP (hu : X.A.units + 64 < cLine) : OpR X (compareOp .NotEq) (rNeP X.K) := by
  intro pins s σ H x y v u Q I rx ry h
  obtain ⟨d, e, hd, he, sd, se, dp, q⟩ := h
  obtain ⟨as, r1⟩ := Dp.reads I d x v hd rx
  obtain ⟨bs, r2⟩ := Dp.reads I e y u he ry
  exact SeqAt.ne_plain r1 r2 sd se (by have := Nat.min_le_left d.depth e.depth; omega) ⟨.bl _, H, I, rfl, q⟩
def rEqP (K : PySem.W.Frag) : R2 := fun x y H Q => ∃ d e, Dp K H x d ∧ Dp K H y e ∧ d.plain = true ∧ e.plain = true ∧ PyData.depth d ≤ 60 ∧ Q (.bl (PyData.eqv d e)) H
theorem op_eqP {K : PySem.W.Frag} (hK : X.K = K) (hu : X.A.units + 64 < cLine) : OpR X (compareOp .Eq) (rEqP K) := by
  subst hK
  intro pins s σ H x y v u Q I rx ry h
  obtain ⟨d, e, hd, he, sd, se, dp, q⟩ := h
  obtain ⟨as, r1⟩ := Dp.reads I d x v hd rx
  obtain ⟨bs, r2⟩ := Dp.reads I e y u he ry
  exact SeqAt.eq_plain r1 r2 sd se (by have := Nat.min_le_left d.depth e.depth; omega) ⟨.bl _, H, I, rfl, q⟩
def rRepB : List V → Hp → VK → Prop := fun xs H Q => ∃ x : Str, (xs = [.non] ∧ x = "None" ∨ ∃ b : Bool, xs = [.bl b] ∧ x = if b then "True" else "False") ∧ Q (.str x) H
theorem call_repB : CallR X (.builtin "repr") rRepB := by
  intro pins s σ H xs us Q I r h
  obtain ⟨x, h, q⟩ := h
  have fin : ∀ (t : Tok) (tk : Nat), EP X pins σ Q (.str x t) { s with toks := tk } := fun t tk => ⟨.str _, H, I.kept (h' := s.heap) (fun _ _ e => e), ⟨t, rfl⟩, q⟩
  rcases h with ⟨rfl, rfl⟩ | ⟨b, rfl, rfl⟩
  · obtain ⟨u, rfl, ru⟩ := vals1 r
    cases (show u = Value.none from ru)
    exact P.repr_of_none (fin _ _)
  · obtain ⟨u, rfl, ru⟩ := vals1 r
    cases (show u = Value.bool b from ru)
    refine P.repr_of_bool ?_
    cases b
    · exact fin _ _
    · exact fin _ _
theorem dpAll_strT {K : PySem.W.Frag} {H : Hp} : ∀ ns : List Str, DpAll K H (ns.map V.str) (ns.map PyData.str)
  | [] => .nil
  | a :: ns => .cons (.str a) (dpAll_strT ns)
theorem plain_strs (ns : List Str) : PyData.plain (.list (ns.map PyData.str)) = true := by
  show PyData.plainAll _ = true
  induction ns with
  | nil => rfl
  | cons a ns ih =>
    show (PyData.plain (.str a) && PyData.plainAll (ns.map PyData.str)) = true
    rw [ih]
    rfl
theorem depth_strs (ns : List Str) : PyData.depth (.list (ns.map PyData.str)) = 1 := by
  have : ∀ ns : List Str, PyData.depthAll (ns.map PyData.str) = 0 := by
    intro ns
    induction ns with
    | nil => rfl
    | cons a ns ih => simp [PyData.depthAll, PyData.depth, ih]
  simp [PyData.depth, this]
end
end VL

set_option Elab.async false
set_option linter.all false
set_option maxRecDepth 100000
set_option maxHeartbeats 4000000
namespace VL
open PySem PySem.Spec PyProof.Rows L2
/-! ### copies of values: what may be copied, what is new -/
mutual
def cpy : PyData → Bool
  | .list ds => decide (ds.length ≤ 1000) && cpyAll ds
  | .dict kvs => decide (kvs.length ≤ 1000) && cpyKv kvs
  | .tuple _ => false
  | .none | .bool _ | .int _ | .str _ => true
def cpyAll : List PyData → Bool
  | [] => true
  | d :: ds => cpy d && cpyAll ds
def cpyKv : List (PyData × PyData) → Bool
  | [] => true
  | (_, d) :: r => cpy d && cpyKv r
end
theorem cpyAll_mem : ∀ {ds : List PyData}, cpyAll ds = true → ∀ d ∈ ds, cpy d = true
  | e :: ds, h, d, hd => by
    have h' : cpy e = true ∧ cpyAll ds = true := by simpa [cpyAll] using h
    rcases List.mem_cons.mp hd with rfl | hd
    · exact h'.1
    · exact cpyAll_mem h'.2 d hd
theorem cpyKv_zip : ∀ {ks : List (Key × V)} {ds : List PyData}, ks.length = ds.length → cpyKv (zipK ks ds) = true → cpyAll ds = true
  | [], [], _, _ => rfl
  | p :: ks, d :: ds, hl, h => by
    have h' : cpy d = true ∧ cpyKv (zipK ks ds) = true := by
      have e : cpyKv (zipK (p :: ks) (d :: ds)) = (cpy d && cpyKv (zipK ks ds)) := rfl
      rw [e] at h
      simpa using h
    show (cpy d && cpyAll ds) = true
    rw [h'.1, cpyKv_zip (Nat.succ.inj hl) h'.2]
    rfl
/-- what has come since H -/
def newer (H H' : Hp) : Hp := fun b => match H b with
  | none => H' b
  | some _ => none
theorem newer_some {H H' : Hp} {b : Addr} {o : HO} (h : newer H H' b = some o) : H b = none ∧ H' b = some o := by
  unfold newer at h
  cases e : H b with
  | none => rw [e] at h; exact ⟨rfl, h⟩
  | some u => rw [e] at h; exact nomatch h
theorem newer_mk {H H' : Hp} {b : Addr} {o : HO} (h1 : H b = none) (h2 : H' b = some o) : newer H H' b = some o := by
  unfold newer
  rw [h1]
  exact h2
theorem newer_same (H H' : Hp) : Same (newer H H') H' := fun b o h => (newer_some h).2
def spCopy (n : Nat) : Sp := fun vs H Q _ => ∃ (v : V) (d : PyData), vs = [v] ∧ Dq H v d ∧ cpy d = true ∧ PyData.depth d ≤ n ∧ ∀ v' H', Same H H' → Dq (newer H H') v' d → Q v' H'
end VL

set_option Elab.async false
set_option linter.all false
set_option maxRecDepth 100000
set_option maxHeartbeats 4000000
namespace VL
open PySem PySem.Spec PyProof.Rows L2
/-! ### a part of a heap, and a few objects beside it that change -/
structure Sb (G H : Hp) (M : List (Addr × HO)) : Prop where
  s : Same G H
  m : ∀ p ∈ M, G p.1 = none ∧ H p.1 = some p.2
  nd : (M.map (·.1)).Nodup
def joinH (G N : Hp) : Hp := fun b => match G b with
  | some o => some o
  | none => N b
theorem joinH_l {G N : Hp} : Same G (joinH G N) := fun b o e => by
  unfold joinH
  rw [e]
theorem joinH_r {G H H' : Hp} (s : Same G H) : Same (newer H H') (joinH G (newer H H')) := fun b o e => by
  obtain ⟨z, _⟩ := newer_some e
  unfold joinH
  cases g : G b with
  | none => exact e
  | some u => rw [s _ _ g] at z; exact nomatch z
theorem Sb.alloc {G H : Hp} {M : List (Addr × HO)} {t : Addr} {o : HO} (S : Sb G H M) (h : H t = none) : Sb (upd G t o) (upd H t o) M := by
  refine ⟨fun b u e => ?_, fun p hp => ?_, S.nd⟩
  · by_cases z : b = t
    · subst z
      rw [upd_same] at e ⊢
      exact e
    · rw [upd_ne z] at e ⊢
      exact S.s _ _ e
  · obtain ⟨h1, h2⟩ := S.m p hp
    have n : p.1 ≠ t := ne_of_none h2 h
    rw [upd_ne n, upd_ne n]
    exact ⟨h1, h2⟩
theorem Sb.gnone {G H : Hp} {M : List (Addr × HO)} {t : Addr} (S : Sb G H M) (h : H t = none) : G t = none := Same.free S.s h
theorem Sb.grow {G H : Hp} {M : List (Addr × HO)} {t : Addr} {o : HO} (S : Sb G H M) (h : H t = none) : Same G (upd G t o) := fun b u e => by rw [upd_ne (ne_of_none e (S.gnone h))]; exact e
theorem Sb.call {G H H' : Hp} {M : List (Addr × HO)} (S : Sb G H M) (s : Same H H') : Sb (joinH G (newer H H')) H' M := by
  refine ⟨fun b u e => ?_, fun p hp => ?_, S.nd⟩
  · unfold joinH at e
    cases g : G b with
    | some o => rw [g] at e; rw [← e]; exact s _ _ (S.s _ _ g)
    | none => rw [g] at e; exact (newer_some e).2
  · obtain ⟨h1, h2⟩ := S.m p hp
    refine ⟨?_, s _ _ h2⟩
    unfold joinH
    rw [h1]
    show newer H H' p.1 = none
    unfold newer
    rw [h2]
theorem Sb.add {G H : Hp} {M : List (Addr × HO)} {t : Addr} {o : HO} (S : Sb G H M) (h : H t = none) : Sb G (upd H t o) ((t, o) :: M) := by
  refine ⟨fun b u e => by rw [upd_ne (ne_of_none (S.s _ _ e) h)]; exact S.s _ _ e, fun p hp => ?_, ?_⟩
  · rcases List.mem_cons.mp hp with rfl | hp
    · exact ⟨S.gnone h, upd_same⟩
    · obtain ⟨h1, h2⟩ := S.m p hp
      exact ⟨h1, by rw [upd_ne (ne_of_none h2 h)]; exact h2⟩
  · rw [List.map_cons, List.nodup_cons]
    refine ⟨fun hm => ?_, S.nd⟩
    obtain ⟨p, hp, e⟩ := List.mem_map.mp hm
    have := (S.m p hp).2
    rw [e] at this
    rw [show H (t, o).1 = none from h] at this
    exact nomatch this
theorem Sb.put {G H : Hp} {M : List (Addr × HO)} {t : Addr} {o : HO} {u : HO} (S : Sb G H ((t, o) :: M)) : Sb G (upd H t u) ((t, u) :: M) := by
  have nd := S.nd
  rw [List.map_cons, List.nodup_cons] at nd
  have gt := (S.m (t, o) List.mem_cons_self).1
  refine ⟨fun b v e => by rw [upd_ne (ne_of_none e gt)]; exact S.s _ _ e, fun p hp => ?_, ?_⟩
  · rcases List.mem_cons.mp hp with rfl | hp
    · exact ⟨gt, upd_same⟩
    · obtain ⟨h1, h2⟩ := S.m p (List.mem_cons_of_mem _ hp)
      have n : p.1 ≠ t := fun z => nd.1 (List.mem_map.mpr ⟨p, hp, z⟩)
      exact ⟨h1, by rw [upd_ne n]; exact h2⟩
  · rw [List.map_cons, List.nodup_cons]
    exact nd
theorem Sb.swap {G H : Hp} {M : List (Addr × HO)} {p q : Addr × HO} (S : Sb G H (p :: q :: M)) : Sb G H (q :: p :: M) := by
  have nd := S.nd
  refine ⟨S.s, fun r hr => S.m r ?_, ?_⟩
  · rcases List.mem_cons.mp hr with rfl | hr
    · exact List.mem_cons_of_mem _ List.mem_cons_self
    · rcases List.mem_cons.mp hr with rfl | hr
      · exact List.mem_cons_self
      · exact List.mem_cons_of_mem _ (List.mem_cons_of_mem _ hr)
  · simp only [List.map_cons, List.nodup_cons, List.mem_cons] at nd ⊢
    refine ⟨fun z => ?_, fun z => nd.1 (.inr z), nd.2.2⟩
    rcases z with z | z
    · exact nd.1 (.inl z.symm)
    · exact nd.2.1 z
theorem Sb.drop {G H : Hp} {M : List (Addr × HO)} {t : Addr} {o : HO} (S : Sb G H ((t, o) :: M)) : Sb (upd G t o) H M ∧ Same G (upd G t o) := by
  have nd := S.nd
  rw [List.map_cons, List.nodup_cons] at nd
  obtain ⟨gt, ht⟩ := S.m (t, o) List.mem_cons_self
  refine ⟨⟨fun b u e => ?_, fun p hp => ?_, nd.2⟩, fun b u e => by rw [upd_ne (ne_of_none e gt)]; exact e⟩
  · by_cases z : b = t
    · subst z
      rw [upd_same] at e
      rw [← e]
      exact ht
    · rw [upd_ne z] at e
      exact S.s _ _ e
  · obtain ⟨h1, h2⟩ := S.m p (List.mem_cons_of_mem _ hp)
    have n : p.1 ≠ t := fun z => nd.1 (List.mem_map.mpr ⟨p, hp, z⟩)
    exact ⟨by rw [upd_ne n]; exact h1, h2⟩
theorem Sb.hd {G H : Hp} {M : List (Addr × HO)} {p : Addr × HO} (S : Sb G H (p :: M)) : H p.1 = some p.2 := (S.m p List.mem_cons_self).2
theorem Sb.hd2 {G H : Hp} {M : List (Addr × HO)} {p q : Addr × HO} (S : Sb G H (q :: p :: M)) : H p.1 = some p.2 := (S.m p (List.mem_cons_of_mem _ List.mem_cons_self)).2
theorem Sb.nil {H : Hp} : Sb H H [] := ⟨Same.refl _, (fun _ h => nomatch h), List.nodup_nil⟩
end VL

set_option Elab.async false
set_option linter.all false
set_option maxRecDepth 100000
set_option maxHeartbeats 4000000
namespace VL
open PySem PySem.Spec PyProof.Rows L2
theorem Sb.put2 {G H : Hp} {M : List (Addr × HO)} {p : Addr × HO} {t : Addr} {o u : HO} (S : Sb G H (p :: (t, o) :: M)) : Sb G (upd H t u) (p :: (t, u) :: M) := S.swap.put.swap
theorem Sb.more {G H H' : Hp} {M : List (Addr × HO)} (S : Sb G H M) (s : Same H H') : ∃ G', Sb G' H' M ∧ Same G G' := ⟨_, S.call s, joinH_l⟩
theorem flat_one {α : Type} (l : List α) : (l.map fun c => [c]).flatten = l := by
  induction l with
  | nil => rfl
  | cons c cs ih => simp [ih]
theorem valV_in2 {k : Key} : ∀ {ks : List (Key × V)}, k ∈ ks.map (·.1) → (valV ks k).isSome = true
  | p :: ks, h => by
    by_cases e : p.1 = k
    · rw [valV_pos e]
      rfl
    · rw [valV_neg e]
      refine valV_in2 ?_
      rcases List.mem_cons.mp (show k ∈ p.1 :: ks.map (·.1) from h) with z | z
      · exact absurd z.symm e
      · exact z
end VL

set_option Elab.async false
set_option linter.all false
set_option maxRecDepth 100000
set_option maxHeartbeats 4000000
namespace VL
open PySem PySem.Spec PyProof.Rows L2

/-! ### what the text has: methods with keyword-only parameters, properties, written tuples, own exceptions without a text of their own -/
def WrT (K : PySem.W.Frag) (a : Addr) (xs : List V) : Prop := ∃ (o : Obj) (its : Array Value) (n : Nat), K.lookup a = some o ∧ o.cls = .type "tuple" ∧ o.data = .seq its n ∧ its.size ≤ sizeLine ∧ Vals xs its.toList ∧ o.dict = none
abbrev catG {α : Type} (us ws : List α) : List α := us ++ ws
def MethKE (K : PySem.W.Frag) (C : Addr) (x qual : Str) (st : Stmt) (ps : List Str) (n : Nat) (ks : List Str) : Prop :=
  ∃ (f : Addr) (fd : FuncData), Fun K x qual st f fd ∧ Meth K C x f ∧ KBn K fd ps n ks catG catG
def PropE (K : PySem.W.Frag) (C : Addr) (x qual : Str) (st : Stmt) : Prop := ∃ (p g : Addr) (fd : FuncData), PropOf K C x p g ∧ Fun K x qual st g fd ∧ Binds K fd ["self"] []
structure ExT (K : PySem.W.Frag) (mg : Str → Option Value) (x : Str) (D : Addr) : Prop where
  g : mg x = some (.ref D)
  xx : PySem.W.excIn K D [.type "ValueError", .type "Exception", .type "BaseException", .type "object"] "ValueError.__new__" = true
  kp : PySem.W.keepIn K (.ref D) = true
  bP : PySem.W.subIn K (.ref D) (.type "BaseException") = some true
  tP : PySem.W.typeIn K (.ref D) = some (.type "type")
  em : PySem.W.exmOne K (.ref D) (.ref D) = some true
  ec : ExcC K D
theorem fun_kbn {K : PySem.W.Frag} {x qual : Str} {st : Stmt} {f : Addr} {fd : FuncData} {ps : List Str} (F : Fun K x qual st f fd) (n : Nat) (ks : List Str)
    (h : ∀ (kV doc pm : Value) (an : Option Addr) (cdv ct : Value) (us ws : List Value), us.length = n → ws.length = ks.length → bindArgs (PySem.W.fnOf x qual (defArgs st) (defBody st) (defScope st) .none kV doc pm an cdv ct) ⟨us, ks.zip ws⟩ = pure (ps.zip (us ++ ws))) :
    KBn K fd ps n ks catG catG := by
  obtain ⟨oc, od, kV, doc, pm, an, cdv, ct, osl, rfl, lk, hcd⟩ := F.ex
  exact ⟨fun s us ws X l1 l2 => .of_eq (h kV doc pm an cdv ct us ws l1 l2), fun r1 r2 => r1.append r2⟩
/-! ### as callers see them -/
structure MetK (P : Program) (w : World) (K : PySem.W.Frag) (mg : Str → Option Value) (base : Heap) (k : Nat) (C : Addr) (m : Str) (sp : Sp) (n : Nat) (ks : List Str) (gV : List V → List V → List V) : Prop where
  ex : ∃ (f : Addr) (fd : FuncData) (ps : List Str) (g : List Value → List Value → List Value), Cls K C ∧ Meth K C m f ∧ FnOk P w K mg base CX0 k f fd ps sp ∧ KBn K fd ps n ks g gV
structure Pro (P : Program) (w : World) (K : PySem.W.Frag) (mg : Str → Option Value) (base : Heap) (k : Nat) (C : Addr) (x : Str) (sp : Sp) : Prop where
  ex : ∃ (p g : Addr) (fd : FuncData), Cls K C ∧ PropOf K C x p g ∧ FnOk P w K mg base CX0 k g fd ["self"] sp ∧ Binds K fd ["self"] []
/-- o.m(.., k = v, ..): n is one more than the values written -/
def tMethK (C : Addr) (m : Str) (sp : Sp) (n kn : Nat) (gV : List V → List V → List V) (ta : TE) (t tk : TA) : TE := fun σ H Q => ta σ H fun x H1 => ∃ a dx fs, x = .ref a ∧ H1 a = some (.ins C dx fs) ∧ fs.lookup m = none ∧ t σ H1 fun vs H2 => tk σ H2 fun zs H3 => vs.length + 1 = n ∧ zs.length = kn ∧ sp (gV (.ref a :: vs) zs) H3 Q E0
section
variable {X : Cx} {k j n : Nat} {C : Addr} {m x : Str} {ks : List Str} {sp : Sp} {pos apos : Pos} {e o : Expr} {es : List Expr} {kws : List Keyword} {ta : TE} {t tk : TA} {gV : List V → List V → List V}
theorem pe_mtK {pl : Sem Bool} (c : MetK X.prog X.w X.K X.mg X.base k C m sp n ks gV) (hr : Room j X.A) (hk : k ≤ j) (he : PE X o ta) (ha : PA X (e :: es) t) (hkw : PK X kws tk)
    (hall : (backToKw pos (keywordEach kws X.env)).all (·.1.isSome) = true := by rfl) (hks : (backToKw pos (keywordEach kws X.env)).filterMap (·.1) = ks := by rfl)
    (hst : starEach (e :: es) X.env = (false, eval e X.env) :: starEach es X.env := by rfl)
    (hpl : ((backTo pos (starEach (e :: es) X.env)).any (·.1) || (backToKw pos (keywordEach kws X.env)).any (·.1.isNone)) = false := by rfl)
    (ht : eval (.Call (.Attribute o m apos) (e :: es) kws pos) X.env = (do
      let ov ← eval o X.env
      standAt apos.atName
      let (f, first) ← holding [ov] (getMethod ov m pl)
      callWith pos f first (backTo pos (starEach (e :: es) X.env)) (backToKw pos (keywordEach kws X.env))) := by rfl) :
    PE X (.Call (.Attribute o m apos) (e :: es) kws pos) (tMethK C m sp n ks.length gV ta t tk) := by
  obtain ⟨f, fd, ps, g, hc, hm, F, b⟩ := c.ex
  refine ⟨fun pins s σ H Q I h => ?_⟩
  refine PySem.W.methodCall_KW (pl := pl) (thn (he.run pins s σ H _ I h) fun u s1 ⟨x, H1, I1, rx, a, dx, fs, ex, ea, l, q⟩ => ?_) ht
  subst ex
  obtain rfl : u = Value.ref a := rx
  refine getmeth_ok I1 ea hc hm l ?_
  refine PySem.W.callWith_KW (first := [.ref a]) (h₀ := X.base) I.ok.mod.kin hm.kp hall (thn (ha.run pos pins s1 σ H1 _ I1 q) fun us s2 ⟨vs, H2, I2, r, q2⟩ => ?_) hpl hst
  refine thn (hkw.run pos pins s2 σ H2 _ I2 q2) fun ws s3 ⟨zs, H3, I3, rz, l1, l2, q3⟩ => ⟨I3.kIn, ?_⟩
  rw [hks]
  exact run_fnN (us := .ref a :: us) (vs := .ref a :: vs) F (hr.mono hk) b pass0 I3 (.cons rfl r) rz l1 l2 q3
theorem pe_mtK0 {pl : Sem Bool} (c : MetK X.prog X.w X.K X.mg X.base k C m sp n ks gV) (hr : Room j X.A) (hk : k ≤ j) (he : PE X o ta) (hkw : PK X kws tk)
    (hall : (backToKw pos (keywordEach kws X.env)).all (·.1.isSome) = true := by rfl) (hks : (backToKw pos (keywordEach kws X.env)).filterMap (·.1) = ks := by rfl)
    (hpl : ((backTo pos (starEach [] X.env)).any (·.1) || (backToKw pos (keywordEach kws X.env)).any (·.1.isNone)) = false := by rfl)
    (ht : eval (.Call (.Attribute o m apos) [] kws pos) X.env = (do
      let ov ← eval o X.env
      standAt apos.atName
      let (f, first) ← holding [ov] (getMethod ov m pl)
      callWith pos f first (backTo pos (starEach [] X.env)) (backToKw pos (keywordEach kws X.env))) := by rfl) :
    PE X (.Call (.Attribute o m apos) [] kws pos) (tMethK C m sp n ks.length gV ta tNil tk) := by
  obtain ⟨f, fd, ps, g, hc, hm, F, b⟩ := c.ex
  refine ⟨fun pins s σ H Q I h => ?_⟩
  refine PySem.W.methodCall_KW (pl := pl) (thn (he.run pins s σ H _ I h) fun u s1 ⟨x, H1, I1, rx, a, dx, fs, ex, ea, l, q⟩ => ?_) ht
  subst ex
  obtain rfl : u = Value.ref a := rx
  refine getmeth_ok I1 ea hc hm l ?_
  refine PySem.W.callWith_KW0 (first := [.ref a]) (h₀ := X.base) I.ok.mod.kin hm.kp hall ?_ hpl
  refine thn (hkw.run pos pins s1 σ H1 _ I1 q) fun ws s3 ⟨zs, H3, I3, rz, l1, l2, q3⟩ => ⟨I3.kIn, ?_⟩
  rw [hks]
  exact run_fnN (us := [.ref a]) (vs := [.ref a]) F (hr.mono hk) b pass0 I3 (.cons rfl .nil) rz l1 l2 q3
theorem pe_pr (c : Pro X.prog X.w X.K X.mg X.base k C x sp) (hr : Room j X.A) (hk : k + 1 ≤ j) (he : PE X e ta) (hab : attributeBase e x X.env (eval e X.env) = eval e X.env := by rfl) : PE X (.Attribute e x pos) (tProp C sp [] E0 ta) := by
  obtain ⟨p, g, fd, hc, hp, F, b⟩ := c.ex
  exact pe_prop he hc hp F (hr.mono hk) b .nil pass0 hab
end
section
variable {P : Program} {w : World} {K : PySem.W.Frag} {mg : Str → Option Value} {base : Heap}
theorem metK_of {C : Addr} {x qual : Str} {st : Stmt} {ps ks N : List Str} {k n : Nat} {sp : Sp} (D : MethKE K C x qual st ps n ks) (c : Cls K C) (S : FnScope N ps (defScope st)) (len : ∀ vs H Q E, sp vs H Q E → vs.length = ps.length)
    (hbody : ∀ (f : Addr) (cdv : Value) (A : Around) (outer : List Env) (s : Shared) (H : Hp) (vs : List V) (Q : VK) (E : XK), Room k (A.deeper (envOfC qual (defScope st) s.heap.objs.size f cdv)) → sp vs H Q E →
      ∃ t, PSs (cxOf CX0 P w K mg base N qual (defScope st) f cdv A outer s H E).nox (defBody st) t ∧ t { nx := fun _ H' => Q .non H', rt := Q } (start N vs) H) : MetK P w K mg base (k + 1) C x sp n ks catG := by
  obtain ⟨f, fd, F, hm, b⟩ := D
  exact ⟨f, fd, ps, _, c, hm, F.ok S len (hbody f), b⟩
theorem pro_of {C : Addr} {x qual : Str} {st : Stmt} {N : List Str} {k : Nat} {sp : Sp} (D : PropE K C x qual st) (c : Cls K C) (S : FnScope N ["self"] (defScope st)) (len : ∀ vs H Q E, sp vs H Q E → vs.length = 1)
    (hbody : ∀ (f : Addr) (cdv : Value) (A : Around) (outer : List Env) (s : Shared) (H : Hp) (vs : List V) (Q : VK) (E : XK), Room k (A.deeper (envOfC qual (defScope st) s.heap.objs.size f cdv)) → sp vs H Q E →
      ∃ t, PSs (cxOf CX0 P w K mg base N qual (defScope st) f cdv A outer s H E).nox (defBody st) t ∧ t { nx := fun _ H' => Q .non H', rt := Q } (start N vs) H) : Pro P w K mg base (k + 1) C x sp := by
  obtain ⟨p, g, fd, hp, F, b⟩ := D
  exact ⟨p, g, fd, c, hp, F.ok S len (hbody g), b⟩
end
end VL

set_option Elab.async false
set_option linter.all false
set_option maxRecDepth 100000
set_option maxHeartbeats 4000000
namespace VL
open PySem PySem.Spec PyProof.Rows L2
/-! ### rules whose readings speak of K, with K told: within comprehensions and except suites -/
theorem u65 {A : Around} {k : Nat} (r : Room k A) : A.units + 65 < cLine := by have := r.un; omega
section
variable {X : Cx} {K : PySem.W.Frag} {e o : Expr} {f : Str} {pos : Pos} {ta : TE}
theorem pe_fldS (hK : X.K = K) (he : PE X e ta) (hb : attributeBase e f X.env (eval e X.env) = eval e X.env) : PE X (.Attribute e f pos) (tFld K ta f) := by subst hK; exact pe_fld he hb
theorem pe_conS (hK : X.K = K) (he : PE X e ta) (hb : attributeBase e f X.env (eval e X.env) = eval e X.env) : PE X (.Attribute e f pos) (tCon K ta f) := by subst hK; exact pe_con he hb
theorem pe_cvalS (hK : X.K = K) (he : PE X e ta) (hb : attributeBase e f X.env (eval e X.env) = eval e X.env := by rfl) : PE X (.Attribute e f pos) (ClX.tCVal K ta f) := by subst hK; exact ClX.pe_cval he hb
theorem ix_listS (hK : X.K = K) : IxR X (rIxL K) := by subst hK; exact ix_list
theorem ix_tupS (hK : X.K = K) : IxR X (rIxT K) := by subst hK; exact ix_tup
theorem sl_listS (hK : X.K = K) : SlR X (rSlL K) := by subst hK; exact sl_list
theorem sl_tupS (hK : X.K = K) : SlR X (rSlT K) := by subst hK; exact sl_tup
theorem op_in_seqS (hK : X.K = K) : OpR X (compareOp .In) (rIn K false) := by subst hK; exact op_in_seq
theorem op_notIn_seqS (hK : X.K = K) : OpR X (compareOp .NotIn) (rIn K true) := by subst hK; exact op_notIn_seq
theorem call_len_seqS (hK : X.K = K) : CallR X (.builtin "len") (fun xs H Q => ∃ p ys, xs = [.ref p] ∧ (SqL K H p ys ∨ SqT K H p ys) ∧ Q (.int ys.length) H) := by subst hK; exact call_len_seq
theorem call_list_ofS (hK : X.K = K) : CallR X (.type "list") (fun xs H Q => ∃ p ys, xs = [.ref p] ∧ (SqL K H p ys ∨ SqT K H p ys) ∧ ∀ l, H l = none → Q (.ref l) (upd H l (.lst ys))) := by subst hK; exact call_list_of
theorem call_isiS (hK : X.K = K) : CallR X (.builtin "isinstance") (rIsi K) := by subst hK; exact call_isi
theorem op_eqDS (hK : X.K = K) (hu : X.A.units + 64 < cLine) : OpR X (compareOp .Eq) (rEqD K) := by subst hK; exact op_eqD hu
theorem op_neDS (hK : X.K = K) (hu : X.A.units + 64 < cLine) : OpR X (compareOp .NotEq) (rNeD K) := by subst hK; exact op_neD hu
theorem cr_maxS (hK : X.K = K) (hc : X.calm = true) : CallR X (.builtin "max") (rMax K) := by subst hK; exact cr_max hc
theorem cr_minS (hK : X.K = K) (hc : X.calm = true) : CallR X (.builtin "min") (rMin K) := by subst hK; exact cr_min hc
theorem op_inDS (hK : X.K = K) (hu : X.A.units + 65 < cLine) : OpR X (compareOp .In) (rInD K) := by subst hK; exact op_inD hu
theorem pt_truthS (hK : X.K = K) (ha : PE X e ta) (he : ∀ whole, isTrue e X.env whole = (do let v ← whole; standAt e.pos; holding [v] (truthy v))) :
    PT X e (fun σ H Q => ta σ H fun x H' => ∃ k, TruV K x H' k ∧ Q k H') := by subst hK; exact pt_truth ha he
theorem pi_listS {tg : Expr} (hK : X.K = K) (hl : PE X e ta) : PI X tg e (iList K ta) := by subst hK; exact pi_list hl
theorem pi_tupS {tg : Expr} (hK : X.K = K) (hl : PE X e ta) : PI X tg e (iTup K ta) := by subst hK; exact pi_tup hl
theorem pg_tupS {es : List Expr} {k : Nat} {t : TGs} {n : Nat} (hK : X.K = K) (hc : X.calm = true) (h : PGs X es t)
    (hn : (assignEach es X.env).length = n := by rfl) (hst : (assignEach es X.env).findIdx? (·.1) = none := by rfl) : PG X (.Tuple es k pos) (gTup K n t) := by subst hK; exact pg_tup hc h hn hst
end
end VL

set_option Elab.async false
set_option linter.all false
set_option maxRecDepth 100000
set_option maxHeartbeats 4000000
namespace VL
open PySem PySem.Spec PyProof.Rows L2 NdefX

/-! ### an own exception's __init__ that begins with super().__init__(..), over ValueError -/
abbrev supBody (p0 p1 p2 p3 p4 : Pos) (es : List Expr) (rest : List Stmt) : List Stmt := .Expr (.Call (.Attribute (.Call (.Name "super" p0) [] [] p1) "__init__" p2) es [] p3) p4 :: rest
section
variable {CX : CXT} {P : Program} {w : World} {K : PySem.W.Frag} {mg : Str → Option Value} {base : Heap} {k : Nat} {f D cc cda : Addr} {name qual : Str} {params : Arguments} {es : List Expr} {ar : Arg} {rest : List Stmt} {p0 p1 p2 p3 p4 : Pos} {scope : Scope}
  {dV kV doc pm ct oc cl ccl : Value} {od cld cdd an : Option Addr} {osl csl ccs : Array (Option Value)} {vsC : Array Value} {file : Str} {tf : Tok} {cdD : ClassData} {N ps : List Str} {sp : Sp}
/-- what the written part says of it -/
structure SupK (P : Program) (K : PySem.W.Frag) (mg : Str → Option Value) (f D cc cda : Addr) (fd : FuncData) (qual : Str) : Prop where
  lk : ∃ oc od osl, K.lookup f = some ⟨oc, od, .func fd, osl⟩
  cd : PySem.W.codeIn K (.ref cda) qual = true
  cell : ∃ cl cld csl, K.lookup cc = some ⟨cl, cld, .cell (some (.ref D)), csl⟩
  code : ∃ ccl cdd vsC ccs file tf, K.lookup cda = some ⟨ccl, cdd, .fields vsC, ccs⟩ ∧ vsC[2]? = some (.str file tf) ∧ ((P.main.file : Str) == file) = true
  cls : ∃ cdD, PySem.W.clsIn K D = some cdD
  sub : PySem.W.mroIn K D (.ref D) = some true
  zsuper : mg "super" = none
  ops : PySem.W.nsIn K cStatics "thirdparty.any" = some none
  along : PySem.W.ks_superIn K D D "__init__" = some (some (.builtin "ValueError.__init__"))
  subV : PySem.W.subIn K (.ref D) (.type "ValueError") = some true
  top : (P.main.scope.names.lookup ("super" : Str)).isSome = false
theorem fn_sup {fd : FuncData} (T : SupK P K mg f D cc cda fd qual) (O : OexC K D) (efd : fd = PySem.W.fnX name qual params (supBody p0 p1 p2 p3 p4 es rest) scope [("__class__", cc)] dV kV doc pm an (.ref cda) ct)
    (S : NScope N ps ["__class__"] scope) (har : (params.posonlyargs ++ params.args).head? = some ar) (hps : ps.head? = some ar.arg) (hks : scope.names.lookup ("super" : Str) = some .globalImplicit)
    (hsw : ∀ env : Env, swapsWith (.Call (.Attribute (.Call (.Name "super" p0) [] [] p1) "__init__" p2) es [] p3) none p4.line env = pure false)
    (hst : ∀ env : Env, (backTo p3 (starEach es env)).any (·.1) = false)
    (hee : ∀ env : Env, ∃ x r, backTo p3 (starEach es env) = (false, x) :: r)
    {pl : Sem Bool} (hev : ∀ env : Env, eval (.Call (.Attribute (.Call (.Name "super" p0) [] [] p1) "__init__" p2) es [] p3) env = (do
      let ov ← attributeBase (.Call (.Name "super" p0) [] [] p1) "__init__" env (eval (.Call (.Name "super" p0) [] [] p1) env)
      standAt p2.atName
      let (g, first) ← holding [ov] (getMethod ov "__init__" pl)
      callWith p3 g first (backTo p3 (starEach es env)) []))
    (len : ∀ vs H Q E, sp vs H Q E → vs.length = ps.length)
    (hbody : ∀ (A : Around) (outer : List Env) (s : Shared) (H : Hp) (vs : List V) (Q : VK) (E : XK), Room k (A.deeper (envF ⟨name, qual, params, supBody p0 p1 p2 p3 p4 es rest, scope, [("__class__", cc)], cda⟩ f s.heap.objs.size)) → sp vs H Q E →
      ∃ ta tr, PA (ncx CX P w K mg base N ⟨name, qual, params, supBody p0 p1 p2 p3 p4 es rest, scope, [("__class__", cc)], cda⟩ f A outer s H E) es ta ∧
        PSs (ncx CX P w K mg base N ⟨name, qual, params, supBody p0 p1 p2 p3 p4 es rest, scope, [("__class__", cc)], cda⟩ f A outer s H E) rest tr ∧
        ∃ (a : Addr) (vs' : List V), vs = .ref a :: vs' ∧ H a = some (exo a D none) ∧
          ta (startF N vs [some (.ref D)]) H fun ws H1 => ws.length ≤ 1000 ∧ H1 a = some (exo a D none) ∧ tr { nx := fun _ H' => Q .non H', rt := Q } (startF N vs [some (.ref D)]) H1) :
    FnOk P w K mg base CX (k + 1) f fd ps sp := by
  subst efd
  obtain ⟨oc, od, osl, lk⟩ := T.lk
  obtain ⟨cl, cld, csl, hcell⟩ := T.cell
  obtain ⟨ccl, cdd, vsC, ccs, file, tf, hcode, hvs, hfile⟩ := T.code
  obtain ⟨cdD, hD⟩ := T.cls
  refine ⟨len, fun A outer s H args us vs Q E hr e0 hb r hsp => ?_⟩
  have hl := len _ _ _ _ hsp
  have KX : K.In s.heap := e0.mod.kin.keeps fun b o q => (e0.bs b o q).1
  have lim : s.heap.NoLimit := e0.mod.nolimit.keeps fun b o e => (e0.bs b o e).1
  have C : CellsAt [("__class__", cc)] ["__class__"] [some (.ref D)] s.heap H := by
    have one : ∀ y c, [(("__class__" : Str), cc)].lookup y = some c → y = "__class__" ∧ c = cc := fun y c e => by
      by_cases h : y = ("__class__" : Str)
      · subst h
        have e2 : [(("__class__" : Str), cc)].lookup ("__class__" : Str) = some cc := by simp [List.lookup]
        rw [e2] at e
        exact ⟨rfl, (Option.some.inj e).symm⟩
      · have q : (y == ("__class__" : Str)) = false := by simpa using h
        simp [List.lookup, q] at e
    have hc : ∃ v, s.heap.IsCell cc v := ⟨_, _, KX _ _ hcell, rfl⟩
    have hcH : H cc = none := (e0.bs cc _ (e0.mod.kin _ _ hcell)).2
    refine ⟨rfl, fun y c e => ?_, fun x y c e1 e2 => ?_, fun i y e => ?_⟩
    · obtain ⟨_, rfl⟩ := one y c e
      exact ⟨hcH, hc⟩
    · rw [(one _ _ e1).1, (one _ _ e2).1]
    · cases i with
      | zero =>
        injection e with e
        subst e
        refine ⟨cc, by simp [List.lookup], fun v ev => ?_⟩
        injection ev with ev
        injection ev with ev
        subst ev
        exact ⟨_, rfl, _, KX _ _ hcell, rfl⟩
      | succ i => cases i <;> cases e
  refine PySem.ks_codeAny_call_defAt (body := supBody p0 p1 p2 p3 p4 es rest) hr.depth (KX _ _ lk) rfl lim (PySem.W.codeRec_of KX T.cd) rfl hb S.nocell (fun ⟨n, _⟩ hy => S.par n (List.of_mem_zip hy).1) (fun h₁ hns kp => ?_) S.co S.gen S.kind
  obtain ⟨ta, tr, hA, hR, a, vs', ev, ha0, hq⟩ := hbody A outer s H vs Q E (hr.deeper _) hsp
  generalize hF : (⟨name, qual, params, supBody p0 p1 p2 p3 p4 es rest, scope, [("__class__", cc)], cda⟩ : NF) = F at hA hR
  have I : Inv (ncx CX P w K mg base N F f A outer s H E) [] (startF N vs [some (.ref D)]) H { s with heap := h₁, toks := s.toks + (ps.zip us).length } := by
    subst hF
    exact inv_startN S hr.hd e0 hl r C hns kp
  have eenv : callEnv (PySem.W.fnX name qual params (supBody p0 p1 p2 p3 p4 es rest) scope [("__class__", cc)] dV kV doc pm an (.ref cda) ct) s.heap.objs.size f = envF F f s.heap.objs.size := by
    subst hF
    rfl
  rw [eenv]
  have fin : ∀ {σ' : L2.St} {H' : Hp} {v : V} {u : Value} {s' : Shared}, Inv (ncx CX P w K mg base N F f A outer s H E) [] σ' H' s' → L2.RelV v u → Q v H' → CE outer P w H s Q u s' :=
    fun {σ' H' v u s'} J rv q => ⟨v, H', J.os, J.bare, J.base, J.hok, rv, q⟩
  refine PySem.ks_wpAt_mono (Q := SP (ncx CX P w K mg base N F f A outer s H E) [] { nx := fun _ H' => Q .non H', rt := Q }) (E := (ncx CX P w K mg base N F f A outer s H E).xe) ?go (fun fl s' hs => ?en) (fun _ _ x => x)
  case en =>
    cases fl with
    | ret u =>
      obtain ⟨v, σ', H', J, rv, q⟩ := hs
      exact fin J rv q
    | next =>
      obtain ⟨σ', H', J, q⟩ := hs
      exact fin (v := V.non) (u := Value.none) J rfl q
    | brk =>
      obtain ⟨_, _, _, q⟩ := hs
      exact False.elim q
    | cont =>
      obtain ⟨_, _, _, q⟩ := hs
      exact False.elim q
  have ekind : ∀ x, (envF F f s.heap.objs.size).kindOf x = scope.names.lookup x := by
    subst hF
    intro x
    rfl
  refine PySem.ks_wpAt_execs_cons (PySem.ks_wpAt_Expr_any (PySem.ks_wpAt_MethodCall (pl := pl) ?_ (hev _)) I.quiet (hsw _))
  refine PySem.ks_wpAt_super_base (env := envF F f s.heap.objs.size) ((ekind _).trans hks) ((ekind _).trans (S.frk _ List.mem_cons_self)) rfl rfl (kp _ _ (KX _ _ lk)) rfl har (by subst hF; rfl) (kp _ _ (KX _ _ hcode)) rfl hvs hfile T.top ?_
  have escope : (envF F f s.heap.objs.size).scope = scope := by subst hF; rfl
  have ecells : (envF F f s.heap.objs.size).cells = [(("__class__" : Str), cc)] := by subst hF; rfl
  obtain ⟨mb, b1, b2⟩ := e0.mod.blt
  have kb : ∀ b o, base.get? b = some o → h₁.get? b = some o := fun b o q => kp b o (e0.bs b o q).1
  have X₁ : K.In h₁ := KX.keeps kp
  have hgl := e0.mod.glob.keeps kb
  have hbl := b1.keeps kb
  refine PySem.W.ks_loadName_global (by rw [escope]; exact S.kind) ((ekind _).trans hks) (Calls.loadGlobal_builtin hgl T.zsuper hbl ((b2 _ (by decide +kernel)).trans Boot.«super») ⟨rfl, ?_⟩)
  refine wpAny_loadName_free (by rw [escope]; exact S.kind) ((ekind _).trans (S.frk _ List.mem_cons_self)) (c := cc) (v := .ref D) (by rw [ecells]; simp [List.lookup]) ⟨_, X₁ _ _ hcell, rfl⟩ ?_
  have hself : (ps.zip us).reverse.lookup ar.arg = some (.ref a) := by
    subst ev
    cases ps with
    | nil => cases hps
    | cons p ps' =>
      injection hps with hps
      subst hps
      cases r with
      | @cons _ u0 _ ur ra rw' =>
        obtain rfl : u0 = Value.ref a := ra
        have nd : (ar.arg :: ps').Nodup := by
          have q := S.nd.sublist (List.take_sublist ((ar.arg :: ps').length + [("__class__" : Str)].length) N)
          rw [S.pre] at q
          exact (List.nodup_append.mp q).1
        exact zip_look (i := 0) nd rfl rfl
  have hpar : scope.names.lookup ar.arg = some .local := by
    refine S.par _ ?_
    cases ps with
    | nil => cases hps
    | cons p ps' =>
      injection hps with hps
      subst hps
      exact List.mem_cons_self
  refine wpAny_loadName_local (by rw [escope]; exact S.kind) ((ekind _).trans hpar) hns hself ?_
  obtain ⟨oD, hD1, hD2⟩ : ∃ oD, h₁.get? D = some oD ∧ oD.data = .cls cdD := by
    have z := hD
    unfold PySem.W.clsIn at z
    split at z
    · rename_i ho
      cases z
      exact ⟨_, X₁ _ _ ho, rfl⟩
    · cases z
  refine PySem.ks_wpAny_isType_cls hD1 hD2 ⟨rfl, ?_⟩
  obtain ⟨t1, hoa⟩ := exo_at I.hok ha0
  refine PySem.ks_wpAny_call_super hD1 hD2 hoa rfl (fun c e => by cases e) (PySem.W.looks_mroIn X₁ T.sub) (fun h₂ e2 k2 => ?_)
  have I2 := I.kept (t' := s.toks + (ps.zip us).length) k2
  have X₂ : K.In h₂ := X₁.keeps k2
  have IA : PySem.W.InstAt h₂ a { cls := .ref D, dict := none, data := .fields #[.ref t1, .none, .none, .none, .bool false, .none] } D none := ⟨k2 _ _ hoa, rfl, rfl, trivial⟩
  have hal := T.along
  unfold PySem.W.ks_superIn at hal
  rw [hD] at hal
  have hmro : PySem.W.Looks (model P w) h₂ (mroOf (.ref D)) cdD.mro := fun A Q E s k q => wpAny_bind ((PySem.W.looks_clsIn X₂ hD) A _ E s k (wpAny_pure q))
  refine PySem.W.kxs_getMethod PySem.W.kxs_ValueError e2 (PySem.W.looks_opaque X₂ T.ops) hmro rfl X₂ hal (IA.type.andThen (PySem.W.looks_subIn X₂ T.subV)) (PySem.W.ks_ne X₂ IA hD) rfl ?_
  have kmw : ∀ b o, h₂.get? b = some o → (h₂.push (PySem.W.kxs_mw "ValueError.__init__" a)).get? b = some o := fun b o q => Heap.get?_push_of_some _ q
  have I3 : Inv (ncx CX P w K mg base N F f A outer s H E) [(h₂.objs.size, PySem.W.kxs_mw "ValueError.__init__" a)] (startF N vs [some (.ref D)]) H { s with heap := h₂.push (PySem.W.kxs_mw "ValueError.__init__" a), toks := s.toks + (ps.zip us).length + 1 } := by
    refine (I2.kept (t' := s.toks + (ps.zip us).length + 1) kmw).pins_of fun p hp => ?_
    rw [List.mem_singleton.mp hp]
    exact ⟨Heap.get?_push_at rfl rfl, I2.hok.fresh (Nat.le_refl _), Nat.ne_of_gt I2.lt, I2.nofs (Nat.le_refl _), fun v e => by cases e⟩
  refine PySem.W.kxs_callWith (i := "ValueError.__init__") (x := a) (hst _) ?_
  obtain ⟨x0, r0, hx⟩ := hee (envF F f s.heap.objs.size)
  rw [hx]
  refine Calls.evalArgs_plain ?_
  rw [← hx]
  refine thn (hA.run p3 _ _ _ H _ I3 hq) (fun us1 s4 ⟨ws, H1, I4, r1, hz, ha1, hrest⟩ => ⟨(I4.pin (h₂.objs.size, PySem.W.kxs_mw "ValueError.__init__" a) (List.mem_append_right _ List.mem_cons_self)).1, ?_⟩)
  have hu := (I4.pin (h₂.objs.size, PySem.W.kxs_mw "ValueError.__init__" a) (List.mem_append_right _ List.mem_cons_self)).1
  have I5 : Inv (ncx CX P w K mg base N F f A outer s H E) [] (startF N vs [some (.ref D)]) H1 s4 := I4.pins_of fun p hp => by cases hp
  obtain ⟨nm, q, Nn, bs, bm, sn, sub, ab, col, dd, k0, k1, k2', k3, k5, hC, hbm⟩ := O.cls
  obtain ⟨t2, ho⟩ := exo_at I5.hok ha1
  have hus : us1.length ≤ sizeLine := by
    rw [← Paired.length r1]
    exact Nat.le_trans hz (by decide)
  have kin4 := I5.kIn
  obtain ⟨hp, g, d, tk, os⟩ := s4
  refine wpAny_call (codeAny_of_tree ?_)
  show wpAny _ (A.deeper (envF F f s.heap.objs.size)).in1 (callAny (.ref h₂.objs.size) ⟨us1, []⟩) _ _ _
  simp only [callAny]
  refine wpAny_bind (wpAny_load hu ?_)
  simp only [PySem.W.kxs_mw, show (Value.type "method-wrapper" == Value.type "method" || Value.type "method-wrapper" == Value.type "builtin_function_or_method" || Value.type "method-wrapper" == Value.type "method-wrapper") = true by decide, if_true]
  refine PySem.W.KFB.if_so (by decide) ?_
  refine wpAny_bind (PySem.W.check_bound_init PySem.F.excBase_ValueError.toExcCallFacts (kin4 _ _ hC) ho rfl ?_)
  refine wpAny_bind (wpAny_pure (wpAny_pure ?_))
  refine ⟨plainId_quiet PySem.F.excBase_ValueError.init.plain _, codeAny_builtin PySem.F.excBase_ValueError.initEntry ?_⟩
  refine PySem.W.exc_init_tree (cls := .ref D) (t0 := t2) (dv := none) (c2 := .none) (c3 := .none) (b4 := .bool false) ho hus fun h' kk e' _ => ?_
  have J := I5.write (t' := tk) (x := a) (e := a) (o := exo a D none) (by rw [ha1]; exact True.intro) (.inl rfl) kk ⟨_, e'⟩ (exo_ok e')
  have eu : upd H1 a (exo a D none) = H1 := by
    funext b
    by_cases hb : b = a
    · rw [hb, upd_same, ha1]
    · rw [upd_ne hb]
  rw [eu] at J
  exact wpAt_of_wpAny (hR.run [] _ _ H1 _ J hrest)
end
end VL

set_option Elab.async false
set_option linter.all false
set_option maxRecDepth 100000
set_option maxHeartbeats 4000000
namespace VL
open PySem PySem.Spec PyProof.Rows L2 NdefX

/-! ### isinstance of a caught error that has a dict -/
theorem call_isED {X : Cx} {a D : Addr} {oe : Obj} {cls : Value} {d : Option Addr} {pn : List (Addr × Obj)} (C : ExcC X.K D) (hz : Zc cls d oe) (hf : ∃ vs, oe.data = .fields vs) :
    CallR (X.suite a ((a, oe) :: pn)) (.builtin "isinstance") (fun xs H Q => cls = .ref D ∧ ∃ (dd : Addr) (fs : List (Str × V)) (c : V) (cv : Value) (b : Bool), d = some dd ∧ H dd = some (.xd fs) ∧ xs = [.ref a, c] ∧ (∀ u, RelV c u → u = cv) ∧ PySem.W.kitOne X.K (.ref D) cv = some b ∧ Q (.bl b) H) := by
  intro pins s σ H xs us Q I r h
  obtain ⟨ec, dd, fs, c, cv, b, ed, ea, ex, hcv, e, q⟩ := h
  subst ec ed ex
  cases r with
  | cons rx rr =>
    cases rr with
    | cons rt rr =>
      cases rr
      cases rx
      obtain rfl := hcv _ rt
      have hp := (I.pin (a, oe) (List.mem_append_left _ List.mem_cons_self)).1
      obtain ⟨vs, hv⟩ := hf
      have hx : ObjOk X.prog X.w H s.heap dd (.xd fs) := I.hok dd _ ea
      obtain ⟨mA, hns, _⟩ := hx
      obtain ⟨od, ho, _⟩ := lookIn_ns hns
      have J : PySem.W.InstAt s.heap a oe D (some od) := ⟨hp, hz.1, by unfold PySem.W.notCls; rw [hv] <;> rfl, by rw [hz.2]; exact ho⟩
      have hcl : (PySem.W.clsIn X.K D).isSome = true := by
        obtain ⟨cd, hc, _⟩ := PySem.W.any_some C.hd
        rw [hc]
        rfl
      exact PySem.W.kia_one (PySem.W.kitx_exc (ox := oe) (od := some od) hcl C.hg C.hk C.hs C.ha C.hn C.ht C.hm) I.kIn J e (fun z => nomatch z) fun tk => ⟨.bl b, H, I.kept (t' := tk) fun _ _ z => z, rfl, q⟩
end VL

set_option Elab.async false
set_option linter.all false
set_option maxRecDepth 100000
set_option maxHeartbeats 4000000
namespace VL
open PySem PySem.Spec PyProof.Rows L2 NdefX
/-! ### what a law's text says of an own exception class with its own __init__ -/
abbrev exFd (qual : Str) (st : Stmt) (cc cda : Addr) (kV doc pm : Value) (an : Option Addr) (ct : Value) : FuncData := PySem.W.fnX "__init__" qual (defArgs st) (defBody st) (defScope st) [("__class__", cc)] .none kV doc pm an (.ref cda) ct
structure ExI (P : Program) (K : PySem.W.Frag) (mg : Str → Option Value) (name qual : Str) (D : Addr) (st : Stmt) (ps attrs : List Str) : Prop where
  init : ∃ (fI cc cda : Addr) (kV doc pm ct : Value) (an : Option Addr), SupK P K mg fI D cc cda (exFd qual st cc cda kV doc pm an ct) qual ∧ PySem.W.findIn K (.ref D) "__init__" = some (some (.ref fI)) ∧ PySem.W.typeIn K (.ref fI) = some (.type "function") ∧
    Binds K (exFd qual st cc cda kV doc pm an ct) ps []
  o : OexC K D
  na : ∀ a ∈ attrs, PySem.W.findIn K (.ref D) a = some none
  g : mg name = some (.ref D)
  exm : PySem.W.exmOne K (.ref D) (.ref D) = some true
  xf : XfC K D
  ec : ExcC K D
end VL

set_option Elab.async false
set_option linter.all false
set_option maxRecDepth 100000
set_option maxHeartbeats 4000000
namespace VL
open PySem PySem.Spec PyProof.Rows L2

/-! ### defs and methods that may raise -/
structure CalX (P : Program) (w : World) (K : PySem.W.Frag) (mg : Str → Option Value) (base : Heap) (k : Nat) (x : Str) (sp : Sp) : Prop where
  ex : ∃ (f : Addr) (fd : FuncData) (ps : List Str), FnOk P w K mg base (L2.CX P w) k f fd ps sp ∧ mg x = some (.ref f) ∧ PySem.W.keepIn K (.ref f) = true ∧ Binds K fd ps []
structure MetX (P : Program) (w : World) (K : PySem.W.Frag) (mg : Str → Option Value) (base : Heap) (k : Nat) (C : Addr) (m : Str) (sp : Sp) : Prop where
  ex : ∃ (f : Addr) (fd : FuncData) (ps : List Str), Cls K C ∧ Meth K C m f ∧ FnOk P w K mg base (L2.CX P w) k f fd ps sp ∧ Binds K fd ps []
structure MakX (P : Program) (w : World) (K : PySem.W.Frag) (mg : Str → Option Value) (base : Heap) (k : Nat) (x : Str) (C : Addr) (sp : Sp) : Prop where
  ex : ∃ (f : Addr) (fd : FuncData) (ps : List Str), Mk K C f ∧ FnOk P w K mg base (L2.CX P w) k f fd ps sp ∧ mg x = some (.ref C) ∧ Binds K fd ps []
section
variable {X : Cx} {k j : Nat} {C : Addr} {x m : Str} {sp : Sp} {E : XK} {p pos apos : Pos} {e o : Expr} {es : List Expr} {ta : TE} {t : TA}
theorem pe_cX (hx : Passes (L2.CX X.prog X.w) X E) (c : CalX X.prog X.w X.K X.mg X.base k x sp) (hr : Room j X.A) (hk : k ≤ j) (hg : Gl X x) (ha : PA X (e :: es) t)
    (hdb : (x == ("__debug__" : Str)) = false := by decide) (he : starEach (e :: es) X.env = (false, eval e X.env) :: starEach es X.env := by rfl) (hpl : (backTo pos (starEach es X.env)).any (·.1) = false := by rfl) :
    PE X (.Call (.Name x p) (e :: es) [] pos) (tCall sp [] E t) := by
  obtain ⟨f, fd, ps, F, hm, kp, b⟩ := c.ex
  exact pe_call F (hr.mono hk) hg hm kp b .nil hx ha hdb he hpl
theorem pe_mkX (hx : Passes (L2.CX X.prog X.w) X E) (c : MakX X.prog X.w X.K X.mg X.base k x C sp) (hr : Room j X.A) (hk : k + 1 ≤ j) (hg : Gl X x) (ha : PA X (e :: es) t)
    (hdb : (x == ("__debug__" : Str)) = false := by decide) (he : starEach (e :: es) X.env = (false, eval e X.env) :: starEach es X.env := by rfl) (hpl : (backTo pos (starEach es X.env)).any (·.1) = false := by rfl) :
    PE X (.Call (.Name x p) (e :: es) [] pos) (tMake C sp [] E t) := by
  obtain ⟨f, fd, ps, M, F, hm, b⟩ := c.ex
  exact pe_make M F (hr.mono hk) hg hm b .nil hx ha hdb he hpl
theorem pe_mtX {pl : Sem Bool} (hx : Passes (L2.CX X.prog X.w) X E) (c : MetX X.prog X.w X.K X.mg X.base k C m sp) (hr : Room j X.A) (hk : k ≤ j) (he : PE X o ta) (ha : PA X (e :: es) t)
    (hst : starEach (e :: es) X.env = (false, eval e X.env) :: starEach es X.env := by rfl) (hpl : (backTo pos (starEach es X.env)).any (·.1) = false := by rfl)
    (ht : eval (.Call (.Attribute o m apos) (e :: es) [] pos) X.env = (do
      let ov ← eval o X.env
      standAt apos.atName
      let (f, first) ← holding [ov] (getMethod ov m pl)
      callWith pos f first (backTo pos (starEach (e :: es) X.env)) (backToKw pos (keywordEach [] X.env))) := by rfl) :
    PE X (.Call (.Attribute o m apos) (e :: es) [] pos) (tMeth C m sp [] E ta t) := by
  obtain ⟨f, fd, ps, hc, hm, F, b⟩ := c.ex
  exact pe_meth (pl := pl) he hc hm F (hr.mono hk) b .nil hx ha hst hpl ht
theorem pe_mtX0 {pl : Sem Bool} (hx : Passes (L2.CX X.prog X.w) X E) (c : MetX X.prog X.w X.K X.mg X.base k C m sp) (hr : Room j X.A) (hk : k ≤ j) (he : PE X o ta)
    (ht : eval (.Call (.Attribute o m apos) [] [] pos) X.env = (do
      let ov ← eval o X.env
      standAt apos.atName
      let (f, first) ← holding [ov] (getMethod ov m pl)
      callWith pos f first (backTo pos (starEach [] X.env)) (backToKw pos (keywordEach [] X.env))) := by rfl) :
    PE X (.Call (.Attribute o m apos) [] [] pos) (tMeth C m sp [] E ta tNil) := by
  obtain ⟨f, fd, ps, hc, hm, F, b⟩ := c.ex
  exact pe_meth0 (pl := pl) he hc hm F (hr.mono hk) b .nil hx ht
end
section
variable {P : Program} {w : World} {K : PySem.W.Frag} {mg : Str → Option Value} {base : Heap}
theorem okX_of {x qual : Str} {st : Stmt} {ps N : List Str} {f : Addr} {fd : FuncData} {k : Nat} {sp : Sp} (F : Fun K x qual st f fd) (S : FnScope N ps (defScope st)) (len : ∀ vs H Q E, sp vs H Q E → vs.length = ps.length)
    (hbody : ∀ (f : Addr) (cdv : Value) (A : Around) (outer : List Env) (s : Shared) (H : Hp) (vs : List V) (Q : VK) (E : XK), Room k (A.deeper (envOfC qual (defScope st) s.heap.objs.size f cdv)) → sp vs H Q E →
      ∃ t, PSs (cxOf (L2.CX P w) P w K mg base N qual (defScope st) f cdv A outer s H E) (defBody st) t ∧ t { nx := fun _ H' => Q .non H', rt := Q } (start N vs) H) : FnOk P w K mg base (L2.CX P w) (k + 1) f fd ps sp :=
  F.okX S len (hbody f)
theorem calX_of {x : Str} {st : Stmt} {ps N : List Str} {k : Nat} {sp : Sp} (D : DefE K mg x st ps) (S : FnScope N ps (defScope st)) (len : ∀ vs H Q E, sp vs H Q E → vs.length = ps.length)
    (hbody : ∀ (f : Addr) (cdv : Value) (A : Around) (outer : List Env) (s : Shared) (H : Hp) (vs : List V) (Q : VK) (E : XK), Room k (A.deeper (envOfC x (defScope st) s.heap.objs.size f cdv)) → sp vs H Q E →
      ∃ t, PSs (cxOf (L2.CX P w) P w K mg base N x (defScope st) f cdv A outer s H E) (defBody st) t ∧ t { nx := fun _ H' => Q .non H', rt := Q } (start N vs) H) : CalX P w K mg base (k + 1) x sp := by
  obtain ⟨f, fd, F, hm, b⟩ := D
  exact ⟨f, fd, ps, okX_of F S len hbody, hm, F.kp, b⟩
theorem metX_of {C : Addr} {x qual : Str} {st : Stmt} {ps N : List Str} {k : Nat} {sp : Sp} (D : MethE K C x qual st ps) (c : Cls K C) (S : FnScope N ps (defScope st)) (len : ∀ vs H Q E, sp vs H Q E → vs.length = ps.length)
    (hbody : ∀ (f : Addr) (cdv : Value) (A : Around) (outer : List Env) (s : Shared) (H : Hp) (vs : List V) (Q : VK) (E : XK), Room k (A.deeper (envOfC qual (defScope st) s.heap.objs.size f cdv)) → sp vs H Q E →
      ∃ t, PSs (cxOf (L2.CX P w) P w K mg base N qual (defScope st) f cdv A outer s H E) (defBody st) t ∧ t { nx := fun _ H' => Q .non H', rt := Q } (start N vs) H) : MetX P w K mg base (k + 1) C x sp := by
  obtain ⟨f, fd, F, hm, b⟩ := D
  exact ⟨f, fd, ps, c, hm, okX_of F S len hbody, b⟩
theorem makX_of {C : Addr} {cn qual : Str} {st : Stmt} {ps N : List Str} {k : Nat} {sp : Sp} (D : InitE K mg cn C qual st ps) (S : FnScope N ps (defScope st)) (len : ∀ vs H Q E, sp vs H Q E → vs.length = ps.length)
    (hbody : ∀ (f : Addr) (cdv : Value) (A : Around) (outer : List Env) (s : Shared) (H : Hp) (vs : List V) (Q : VK) (E : XK), Room k (A.deeper (envOfC qual (defScope st) s.heap.objs.size f cdv)) → sp vs H Q E →
      ∃ t, PSs (cxOf (L2.CX P w) P w K mg base N qual (defScope st) f cdv A outer s H E) (defBody st) t ∧ t { nx := fun _ H' => Q .non H', rt := Q } (start N vs) H) : MakX P w K mg base (k + 1) cn C sp := by
  obtain ⟨f, fd, F, M, hm, b⟩ := D
  exact ⟨f, fd, ps, M, okX_of F S len hbody, hm, b⟩
end
/-- what leaves a def that may raise -/
abbrev thruX {P : Program} {w : World} {K : PySem.W.Frag} {mg : Str → Option Value} {base : Heap} {N : List Str} {qual : Str} {scope : Scope} {f : Addr} {cdv : Value} {A : Around} {outer : List Env} {s : Shared} {H : Hp} {E : XK} :
    Passes (L2.CX P w) (cxOf (L2.CX P w) P w K mg base N qual scope f cdv A outer s H E) E := passes_call (W := fun cls d _ H => E cls d H) (takes_of rfl rfl rfl rfl) fun _ _ _ _ h => h
abbrev takeX {P : Program} {w : World} {K : PySem.W.Frag} {mg : Str → Option Value} {base : Heap} {N : List Str} {qual : Str} {scope : Scope} {f : Addr} {cdv : Value} {A : Around} {outer : List Env} {s : Shared} {H : Hp} {E : XK} :
    Takes (cxOf (L2.CX P w) P w K mg base N qual scope f cdv A outer s H E) (fun cls d _ H => E cls d H) := takes_of rfl rfl rfl rfl
end VL

set_option Elab.async false
set_option linter.all false
set_option maxRecDepth 100000
set_option maxHeartbeats 4000000
namespace VL
open PySem PySem.Spec PyProof.Rows L2
/-! ### isinstance of a caught own error without a dict, whatever was caught; a call in a try's body -/
theorem call_isEN {X : Cx} {a D : Addr} {oe : Obj} {cls : Value} {d : Option Addr} {pn : List (Addr × Obj)} (C : ExcC X.K D) (hz : Zc cls d oe) (hf : ∃ vs, oe.data = .fields vs) :
    CallR (X.suite a ((a, oe) :: pn)) (.builtin "isinstance") (fun xs H Q => cls = .ref D ∧ d = none ∧ ∃ (c : V) (cv : Value) (b : Bool), xs = [.ref a, c] ∧ (∀ u, RelV c u → u = cv) ∧ PySem.W.kitOne X.K (.ref D) cv = some b ∧ Q (.bl b) H) := by
  intro pins s σ H xs us Q I r h
  obtain ⟨ec, ed, h⟩ := h
  subst ec ed
  exact call_isE C hz hf pins s σ H xs us Q I r h
section
variable {X : Cx} {k j : Nat} {x : Str} {sp : Sp} {E : L2.St → XK} {p pos : Pos} {e : Expr} {es : List Expr} {t : TA}
theorem pe_cXS (c : CalX X.prog X.w X.K X.mg X.base k x sp) (hr : Room j X.A) (hk : k ≤ j) (hg : Gl X x) (hx : ∀ σ, PassesAt (L2.CX X.prog X.w) X σ (E σ)) (ha : PA X (e :: es) t)
    (hdb : (x == ("__debug__" : Str)) = false := by decide) (he : starEach (e :: es) X.env = (false, eval e X.env) :: starEach es X.env := by rfl) (hpl : (backTo pos (starEach es X.env)).any (·.1) = false := by rfl) :
    PE X (.Call (.Name x p) (e :: es) [] pos) (tCallS sp E t) := by
  obtain ⟨f, fd, ps, F, hm, kp, b⟩ := c.ex
  exact pe_callS F (hr.mono hk) hg hm kp b hx ha hdb he hpl
end
end VL

set_option Elab.async false
set_option linter.all false
set_option maxRecDepth 100000
set_option maxHeartbeats 4000000
namespace VL
open PySem PySem.Spec PyProof.Rows L2 L2H

/-- an unreachable rest -/
theorem pss_dead {X : Cx} {sts : List Stmt} : PSs X sts (fun _ _ _ => False) := ⟨fun _ _ _ _ _ _ z => z.elim⟩

/-! ### a def that raises nothing, called while an error is handled, whatever its context -/
abbrev cxQ (P : Program) (w : World) (K : PySem.W.Frag) (mg : Str → Option Value) (base : Heap) (N : List Str) (qual : Str) (sc : Scope) (f : Addr) (cd : Value) (A : Around) (outer : List Env) (s : Shared) (H : Hp) (p : Addr × Obj) : Cx := cxH CX0 P w K mg base N qual sc f cd A outer s H E0 p
structure CalQ (P : Program) (w : World) (K : PySem.W.Frag) (mg : Str → Option Value) (base : Heap) (k : Nat) (x : Str) (sp : Sp) : Prop where
  ex : ∃ (f : Addr) (fd : FuncData) (ps : List Str), (∀ vs H Q E, sp vs H Q E → vs.length = ps.length) ∧ mg x = some (.ref f) ∧ PySem.W.keepIn K (.ref f) = true ∧ Binds K fd ps [] ∧
    ∀ (A : Around) (outer : List Env) (s : Shared) (H : Hp) (args : Args) (us : List Value) (vs : List V) (Q : VK) (p : Addr × Obj), RoomH k A → PinOk outer H s p → Env0 P w K mg base A outer s H → BindsTo s fd args (ps.zip us) → Vals vs us → sp vs H Q E0 →
      codeAny (model P w) A (.call (.ref f) args) (CR CX0 outer P w H s Q E0) s
section
variable {P : Program} {w : World} {K : PySem.W.Frag} {mg : Str → Option Value} {base : Heap}
theorem calQ_of {x : Str} {st : Stmt} {ps N : List Str} {k : Nat} {sp : Sp} (D : DefE K mg x st ps) (S : FnScope N ps (defScope st)) (len : ∀ vs H Q E, sp vs H Q E → vs.length = ps.length)
    (hbody : ∀ (f : Addr) (cdv : Value) (A : Around) (outer : List Env) (s : Shared) (H : Hp) (vs : List V) (Q : VK) (p : Addr × Obj), RoomH k (A.deeper (envOfC x (defScope st) s.heap.objs.size f cdv)) → sp vs H Q E0 →
      ∃ t, PSs (cxQ P w K mg base N x (defScope st) f cdv A outer s H p) (defBody st) t ∧ t { nx := fun _ H' => Q .non H', rt := Q } (L2.start N vs) H) : CalQ P w K mg base (k + 1) x sp := by
  obtain ⟨f, fd, F, hm, hbs⟩ := D
  have F0 := F
  obtain ⟨oc, od, kV, doc, pm, an, cdv, ct, osl, efd, lk, hcd⟩ := F.ex
  subst efd
  refine ⟨f, _, ps, len, hm, F0.kp, hbs, fun A outer s H args us vs Q p hr hpin e0 hb rv hsp => ?_⟩
  have hlen := len _ _ _ _ hsp
  have hK : K.In s.heap := e0.mod.kin.keeps fun b o z => (e0.bs b o z).1
  have hNo : s.heap.NoLimit := e0.mod.nolimit.keeps fun b o z => (e0.bs b o z).1
  refine codeAny_call_function hr.depth (hK _ _ lk) rfl S.co S.gen rfl (PySem.W.codeRec_of hK hcd) (hb _ _ _ _ ?_)
  refine wpAny_newFunctionEnv_cells S.kind (fun ⟨n, u⟩ hy => ?_) fun env he s1 z => ?_
  · exact (S.par n (List.of_mem_zip hy).1).imp id fun q => ⟨q, PySem.W.cellsFrom_some _ _ _ (.inl q)⟩
  subst he
  refine ⟨hNo.keeps z.toInCall.keep, codeAny_func ?_⟩
  obtain ⟨t, ht, hq⟩ := hbody f cdv A outer s H vs Q p (hr.deeper _) hsp
  have J : Inv (cxQ P w K mg base N x (defScope st) f cdv A outer s H p) [] (L2.start N vs) H s1 := inv_startH S hpin e0 hlen rv z
  have out : ∀ {σ' : L2.St} {H' : Hp} {v : V} {u : Value} {s' : Shared}, Inv (cxQ P w K mg base N x (defScope st) f cdv A outer s H p) [] σ' H' s' → L2.RelV v u → Q v H' → CE outer P w H s Q u s' :=
    fun {σ' H' v u s'} J' r' q => ⟨v, H', J'.os, J'.bare, J'.base, J'.hok, r', q⟩
  refine wpAny_mono (ht.run [] s1 _ H _ J hq) (fun fl s' hs => ?_) fun e s' hs => hs
  cases fl with
  | ret u =>
    obtain ⟨v, σ', H', J', r', q⟩ := hs
    exact out J' r' q
  | next =>
    obtain ⟨σ', H', J', q⟩ := hs
    exact out (v := V.non) (u := Value.none) J' rfl q
  | brk => exact hs.elim fun _ hs => hs.elim fun _ hs => hs.2.elim
  | cont => exact hs.elim fun _ hs => hs.elim fun _ hs => hs.2.elim
end
section
variable {X : Cx} {k j : Nat} {x : Str} {sp : Sp} {p pos : Pos} {e : Expr} {es : List Expr} {t : TA}
theorem pe_cQ {q : Addr × Obj} (hq : q ∈ X.pn) (c : CalQ X.prog X.w X.K X.mg X.base k x sp) (hr : RoomH j X.A) (hk : k ≤ j) (hg : Gl X x) (ha : PA X (e :: es) t)
    (hdb : (x == ("__debug__" : Str)) = false := by decide) (he : starEach (e :: es) X.env = (false, eval e X.env) :: starEach es X.env := by rfl) (hpl : (backTo pos (starEach es X.env)).any (·.1) = false := by rfl) :
    PE X (.Call (.Name x p) (e :: es) [] pos) (fun σ H Q => t σ H fun vs H1 => sp vs H1 Q E0) := by
  obtain ⟨f, fd, ps, len, hm, kp, hbs, run⟩ := c.ex
  refine ⟨fun pins s σ H Q I h => ?_⟩
  refine wpAny_Call_Name_kw (ld_glob I hg hm ?_ hdb)
  refine PySem.W.callWith_K (h₀ := X.base) I.ok.mod.kin kp (thn (ha.run pos pins s σ H _ I h) fun us s1 hh => ?_) he hpl
  obtain ⟨vs, H1, I1, rv, hsp⟩ := hh
  refine ⟨I1.kIn, ?_⟩
  have hlen : us.length = ps.length := by rw [← rv.length]; exact len _ _ _ _ hsp
  have bb := hbs s1 us I1.kIn (by rw [List.append_nil]; exact hlen)
  rw [List.append_nil] at bb
  have P1 := I1.pin q (List.mem_append_left _ hq)
  have hpin : PinOk X.stack H1 s1 q := ⟨P1.1, P1.2.1, fun hm => (List.mem_cons.mp (I1.stkSub q.1 hm)).elim P1.2.2.1 P1.2.2.2.1, P1.2.2.2.2⟩
  refine wpAny_call (codeAny_mono (run X.A X.stack s1 H1 ⟨us, []⟩ us vs Q q (hr.mono hk) hpin I1.env0 bb rv hsp) fun r s' hz => ?_)
  cases r with
  | error e => exact (pass0 (X := X) pins σ H1 s1 e s' I1 hz)
  | ok fl =>
    cases fl with
    | ret u => exact I1.after hz
    | next => exact hz.elim
    | brk => exact hz.elim
    | cont => exact hz.elim
end
/-! ### a call of a local name that holds a def that may raise -/
theorem pe_callLS {X : Cx} {CX : CXT} {k i : Nat} {f : Addr} {fd : FuncData} {ps : List Str} {sp : Sp} {E : L2.St → XK} {x : Str} {p pos : Pos} {e : Expr} {es : List Expr} {t : TA}
    (F : FnOk X.prog X.w X.K X.mg X.base CX k f fd ps sp) (hr : Room k X.A) (hN : X.N[i]? = some x) (hv : Vis X.env.scope x) (hk : PySem.W.keepIn X.K (.ref f) = true) (hb : Binds X.K fd ps []) (hx : ∀ σ, PassesAt CX X σ (E σ)) (ha : PA X (e :: es) t)
    (hdb : (x == ("__debug__" : Str)) = false := by decide) (hcd : (x == ("__classdict__" : Str)) = false := by decide)
    (he : starEach (e :: es) X.env = (false, eval e X.env) :: starEach es X.env := by rfl) (hpl : (backTo pos (starEach es X.env)).any (·.1) = false := by rfl) :
    PE X (.Call (.Name x p) (e :: es) [] pos) (fun σ H Q => σ[i]? = some (some (.ref f)) ∧ t σ H fun vs H1 => sp vs H1 Q (E σ)) := by
  refine ⟨fun pins s σ H Q I h => ?_⟩
  obtain ⟨hs, ht⟩ := h
  have hv := (pe_var (pos := p) hN hv hdb hcd).run pins s σ H (fun v H1 => v = .ref f ∧ H1 = H) I ⟨.ref f, hs, rfl, rfl⟩
  refine wpAny_Call_Name_kw (thn hv fun u s1 hh => ?_)
  obtain ⟨v, H1, I1, r1, ev, eH⟩ := hh
  subst ev eH
  cases r1
  refine PySem.W.callWith_K (h₀ := X.base) I.ok.mod.kin hk (thn (ha.run pos pins s1 σ _ _ I1 ht) fun us s2 hh => ?_) he hpl
  obtain ⟨vs, H2, I2, r, q⟩ := hh
  exact ⟨I2.kIn, run_fnS F hr hb (hx σ) I2 r q⟩
end VL

set_option Elab.async false
set_option linter.all false
set_option maxRecDepth 100000
set_option maxHeartbeats 4000000
namespace VL
open PySem PySem.Spec PyProof.Rows L2
/-! ### data without dicts, as the rules of == and != see it -/
theorem upd_id {H : Hp} {a : Addr} {o : HO} (h : H a = some o) : upd H a o = H := by
  funext b
  by_cases e : b = a
  · subst e; rw [upd_same, h]
  · rw [upd_ne e]
theorem dq_dp_n {K : PySem.W.Frag} {H : Hp} : ∀ (n : Nat) (d : PyData) (v : V), PyData.depth d ≤ n → d.plain = true → Dq H v d → Dp K H v d := by
  intro n
  induction n with
  | zero =>
    intro d v hn hp h
    cases h with
    | non => exact .non
    | bl b => exact .bl b
    | int i => exact .int i
    | str x => exact .str x
    | lst _ _ => exact absurd hn (by simp [PyData.depth])
    | tup _ _ => exact absurd hn (by simp [PyData.depth])
    | dic _ _ _ => exact absurd hn (by simp [PyData.depth])
  | succ n ih =>
    have all : ∀ {vs : List V} {ds : List PyData}, DqAll H vs ds → PyData.depthAll ds ≤ n → PyData.plainAll ds = true → DpAll K H vs ds := by
      intro vs
      induction vs with
      | nil => intro ds h _ _; cases h; exact .nil
      | cons v vs iv =>
        intro ds h hd hp
        cases h with
        | @cons _ _ d ds a b =>
          have hd' : max (PyData.depth d) (PyData.depthAll ds) ≤ n := hd
          have hp' : d.plain = true ∧ PyData.plainAll ds = true := by simpa [PyData.plainAll] using hp
          exact .cons (ih d v (by omega) hp'.1 a) (iv b (by omega) hp'.2)
    intro d v hn hp h
    cases h with
    | non => exact .non
    | bl b => exact .bl b
    | int i => exact .int i
    | str x => exact .str x
    | lst h1 h2 => exact .lst (SqL.of h1) (all h2 (by simp only [PyData.depth] at hn; omega) (by simpa [PyData.plain] using hp))
    | tup h1 h2 => exact .tup (SqT.of h1) (all h2 (by simp only [PyData.depth] at hn; omega) (by simpa [PyData.plain] using hp))
    | dic _ _ _ => exact nomatch hp
theorem Dq.dp {K : PySem.W.Frag} {H : Hp} {v : V} {d : PyData} (h : Dq H v d) (hp : d.plain = true) : Dp K H v d := dq_dp_n _ d v (Nat.le_refl _) hp h
end VL

set_option linter.all false
namespace VL
inductive Nd where
  | tx (x : List Nat)
  | el (t : List Nat) (as : List (List Nat × List Nat)) (ks : List Nd)
  | aw (n : Option Int) (ks : List Nd)
/-- each c of a text becomes z -/
def esc1 (c : Nat) (z l : List Nat) : List Nat := l.flatMap fun d => if d = c then z else [d]
theorem esc1_app (c : Nat) (z a b : List Nat) : esc1 c z (a ++ b) = esc1 c z a ++ esc1 c z b := by simp [esc1]
theorem esc1_len {c k : Nat} {z : List Nat} (h : z.length ≤ k) (hk : 1 ≤ k) : ∀ l : List Nat, (esc1 c z l).length ≤ k * l.length
  | [] => by simp [esc1]
  | d :: l => by
    have ih := esc1_len (c := c) h hk l
    have e : esc1 c z (d :: l) = (if d = c then z else [d]) ++ esc1 c z l := by simp [esc1]
    rw [e, List.length_append, List.length_cons, Nat.mul_succ]
    have : (if d = c then z else [d]).length ≤ k := by
      split
      · exact h
      · exact hk
    omega
abbrev zAmp : List Nat := [38, 97, 109, 112, 59]
abbrev zLt : List Nat := [38, 108, 116, 59]
abbrev zGt : List Nat := [38, 103, 116, 59]
abbrev zQuot : List Nat := [38, 113, 117, 111, 116, 59]
def escT (l : List Nat) : List Nat := esc1 62 zGt (esc1 60 zLt (esc1 38 zAmp l))
def escV (l : List Nat) : List Nat := esc1 34 zQuot (esc1 60 zLt (esc1 38 zAmp l))
theorem escT_app (a b : List Nat) : escT (a ++ b) = escT a ++ escT b := by simp [escT, esc1_app]
theorem escT_nil : escT [] = [] := rfl
theorem escT_len (l : List Nat) : (escT l).length ≤ 80 * l.length := by
  have h1 := esc1_len (c := 38) (z := zAmp) (k := 5) (by decide) (by decide) l
  have h2 := esc1_len (c := 60) (z := zLt) (k := 4) (by decide) (by decide) (esc1 38 zAmp l)
  have h3 := esc1_len (c := 62) (z := zGt) (k := 4) (by decide) (by decide) (esc1 60 zLt (esc1 38 zAmp l))
  unfold escT
  omega
theorem escV_len (l : List Nat) : (escV l).length ≤ 120 * l.length := by
  have h1 := esc1_len (c := 38) (z := zAmp) (k := 5) (by decide) (by decide) l
  have h2 := esc1_len (c := 60) (z := zLt) (k := 4) (by decide) (by decide) (esc1 38 zAmp l)
  have h3 := esc1_len (c := 34) (z := zQuot) (k := 6) (by decide) (by decide) (esc1 60 zLt (esc1 38 zAmp l))
  unfold escV
  omega
/-- ' name="value"' of each -/
def pairL (a : List Nat × List Nat) : List Nat := [32] ++ a.1 ++ [61, 34] ++ escV a.2 ++ [34]
def elemL (t : List Nat) (as : List (List Nat × List Nat)) (inner : List Nat) : List Nat := [60] ++ t ++ as.flatMap pairL ++ [62] ++ inner ++ [60, 47] ++ t ++ [62]
def wA (as : List (List Nat × List Nat)) : Nat := (as.map fun a => a.1.length + 120 * a.2.length + 20).sum
mutual
def wN : Nd → Nat
  | .tx x => 80 * x.length + 20
  | .el t as ks => 2 * t.length + 50 + wA as + wS ks
  | .aw _ ks => 100 + wS ks
def wS : List Nd → Nat
  | [] => 0
  | d :: r => wN d + wS r
end
mutual
def dpN : Nd → Nat
  | .tx _ => 0
  | .el _ _ ks => dpS ks + 1
  | .aw _ ks => dpS ks + 1
def dpS : List Nd → Nat
  | [] => 0
  | d :: r => max (dpN d) (dpS r)
end
mutual
def pieceP : Nd → List Nat
  | .tx x => escT x
  | .el t as ks => elemL t as (catP ks)
  | .aw _ ks => catP ks
def catP : List Nd → List Nat
  | [] => []
  | d :: r => pieceP d ++ catP r
end
abbrev zE : List Nat := [60, 33, 45, 45, 101, 45, 45, 62]
abbrev zT : List Nat := [60, 33, 45, 45, 116, 45, 45, 62]
abbrev zA : List Nat := [60, 33, 45, 45, 91]
abbrev zB : List Nat := [45, 45, 62]
abbrev zC : List Nat := [60, 33, 45, 45, 93, 45, 45, 62]
def isT : Nd → Bool
  | .tx x => decide (x ≠ [])
  | _ => false
/-- the text of a number -/
def numL (f : Int → List Nat) : Option Int → List Nat
  | none => []
  | some i => f i
section
variable (f : Int → List Nat)
mutual
def pieceW : Nd → List Nat
  | .tx x => if x = [] then zE else escT x
  | .el t as ks => elemL t as (catW false ks)
  | .aw n ks => zA ++ numL f n ++ zB ++ catW false ks ++ zC
def catW : Bool → List Nd → List Nat
  | _, [] => []
  | b, d :: r => (if b && isT d then zT else []) ++ pieceW d ++ catW (isT d) r
end
end
/-! what the law makes of it -/
def jnS (acc : List Nd) (d : Nd) : List Nd := match d, acc.getLast? with
  | .tx y, some (.tx x) => acc.dropLast ++ [.tx (x ++ y)]
  | d, _ => acc ++ [d]
def jn (l : List Nd) : List Nd := l.foldl jnS []
mutual
def flN : Nd → List Nd
  | .tx x => if x = [] then [] else [.tx x]
  | .el t as ks => [.el t as (jn (flS ks))]
  | .aw _ ks => flS ks
def flS : List Nd → List Nd
  | [] => []
  | d :: r => flN d ++ flS r
end
theorem wS_app (a b : List Nd) : wS (a ++ b) = wS a + wS b := by
  induction a with
  | nil => simp [wS]
  | cons d a ih => simp [wS, ih]; omega
theorem catP_app (a b : List Nd) : catP (a ++ b) = catP a ++ catP b := by
  induction a with
  | nil => simp [catP]
  | cons d a ih => simp [catP, ih]
theorem flS_app (a b : List Nd) : flS (a ++ b) = flS a ++ flS b := by
  induction a with
  | nil => simp [flS]
  | cons d a ih => simp [flS, ih]
theorem dpS_app (a b : List Nd) : dpS (a ++ b) = max (dpS a) (dpS b) := by
  induction a with
  | nil => simp [dpS]
  | cons d a ih => simp [dpS, ih]
theorem dp_mem {d : Nd} : ∀ {ks : List Nd}, d ∈ ks → dpN d ≤ dpS ks
  | e :: ks, h => by
    simp only [dpS]
    rcases List.mem_cons.mp h with rfl | h
    · omega
    · have := dp_mem h
      omega
theorem w_mem {d : Nd} : ∀ {ks : List Nd}, d ∈ ks → wN d ≤ wS ks
  | e :: ks, h => by
    simp only [wS]
    rcases List.mem_cons.mp h with rfl | h
    · omega
    · have := w_mem h
      omega
theorem wN_pos : ∀ d : Nd, 20 ≤ wN d
  | .tx x => by simp [wN]
  | .el t as ks => by simp only [wN]; omega
  | .aw n ks => by simp only [wN]; omega
theorem len_wS : ∀ ks : List Nd, 20 * ks.length ≤ wS ks
  | [] => by simp [wS]
  | d :: r => by
    have := wN_pos d
    have := len_wS r
    simp only [wS, List.length_cons]
    omega
theorem pair_len (a : List Nat × List Nat) : (pairL a).length ≤ a.1.length + 120 * a.2.length + 20 := by
  have := escV_len a.2
  simp only [pairL, List.length_append, List.length_cons, List.length_nil]
  omega
theorem pairs_len : ∀ as : List (List Nat × List Nat), (as.flatMap pairL).length ≤ wA as
  | [] => by simp [wA]
  | a :: as => by
    have := pair_len a
    have ih := pairs_len as
    simp only [wA, List.map_cons, List.sum_cons, List.flatMap_cons, List.length_append] at ih ⊢
    omega
theorem elem_len (t : List Nat) (as : List (List Nat × List Nat)) (i : List Nat) : (elemL t as i).length ≤ 2 * t.length + 10 + wA as + i.length := by
  have := pairs_len as
  simp only [elemL, List.length_append, List.length_cons, List.length_nil]
  omega
mutual
theorem pieceP_len : ∀ d : Nd, (pieceP d).length ≤ wN d
  | .tx x => by have := escT_len x; simp only [pieceP, wN]; omega
  | .el t as ks => by have := elem_len t as (catP ks); have := catP_len ks; simp only [pieceP, wN]; omega
  | .aw n ks => by have := catP_len ks; simp only [pieceP, wN]; omega
theorem catP_len : ∀ ks : List Nd, (catP ks).length ≤ wS ks
  | [] => by simp [catP, wS]
  | d :: r => by have := pieceP_len d; have := catP_len r; simp only [catP, wS, List.length_append]; omega
end
/-! joined -/
theorem jnS_nt {acc : List Nd} {d : Nd} (h : ∀ y, d ≠ .tx y) : jnS acc d = acc ++ [d] := by
  cases d with
  | tx y => exact absurd rfl (h y)
  | el t as ks => unfold jnS; rfl
  | aw n ks => unfold jnS; rfl
theorem jnS_nil (d : Nd) : jnS [] d = [d] := by
  cases d <;> rfl
theorem jnS_sn {a : List Nd} {e d : Nd} : jnS (a ++ [e]) d = match d, e with | .tx y, .tx x => a ++ [.tx (x ++ y)] | _, _ => a ++ [e] ++ [d] := by
  unfold jnS
  rw [List.getLast?_concat]
  cases d with
  | tx y => cases e <;> simp
  | el t as ks => cases e <;> simp
  | aw n ks => cases e <;> simp
theorem snoc_cases (l : List Nd) : l = [] ∨ ∃ a e, l = a ++ [e] := by
  rcases List.eq_nil_or_concat l with h | ⟨a, e, h⟩
  · exact .inl h
  · exact .inr ⟨a, e, by simpa using h⟩
theorem catP_jnS (acc : List Nd) (d : Nd) : catP (jnS acc d) = catP acc ++ pieceP d := by
  rcases snoc_cases acc with rfl | ⟨a, e, rfl⟩
  · rw [jnS_nil]; simp [catP]
  · rw [jnS_sn]
    cases d with
    | tx y => cases e <;> simp [catP_app, catP, pieceP, escT_app]
    | el t as ks => cases e <;> simp [catP_app, catP]
    | aw n ks => cases e <;> simp [catP_app, catP]
theorem catP_fold : ∀ (l acc : List Nd), catP (l.foldl jnS acc) = catP acc ++ catP l
  | [], acc => by simp [catP]
  | d :: l, acc => by
    rw [List.foldl_cons, catP_fold l, catP_jnS]
    simp [catP]
theorem catP_jn (l : List Nd) : catP (jn l) = catP l := by
  unfold jn
  rw [catP_fold]
  simp [catP]
mutual
theorem catP_flN : ∀ d : Nd, catP (flN d) = pieceP d
  | .tx x => by
    by_cases h : x = []
    · subst h; simp [flN, catP, pieceP, escT_nil]
    · simp [flN, h, catP]
  | .el t as ks => by simp only [flN, catP, pieceP, catP_jn, catP_flS ks, List.append_nil]
  | .aw n ks => by simp only [flN, pieceP, catP_flS ks]
theorem catP_flS : ∀ ks : List Nd, catP (flS ks) = catP ks
  | [] => by simp [flS]
  | d :: r => by simp only [flS, catP_app, catP, catP_flN d, catP_flS r]
end
theorem wS_jnS (acc : List Nd) (d : Nd) : wS (jnS acc d) ≤ wS acc + wN d := by
  rcases snoc_cases acc with rfl | ⟨a, e, rfl⟩
  · rw [jnS_nil]; simp [wS]
  · rw [jnS_sn]
    cases d with
    | tx y => cases e with
      | tx x => simp only [wS_app, wS, wN, List.length_append]; omega
      | el t as ks => simp only [wS_app, wS]; omega
      | aw n ks => simp only [wS_app, wS]; omega
    | el t as ks => cases e <;> (simp only [wS_app, wS]; omega)
    | aw n ks => cases e <;> (simp only [wS_app, wS]; omega)
theorem wS_fold : ∀ (l acc : List Nd), wS (l.foldl jnS acc) ≤ wS acc + wS l
  | [], acc => by simp [wS]
  | d :: l, acc => by
    have h1 := wS_fold l (jnS acc d)
    have h2 := wS_jnS acc d
    simp only [List.foldl_cons, wS]
    omega
theorem wS_jn (l : List Nd) : wS (jn l) ≤ wS l := by
  have := wS_fold l []
  simp only [wS] at this
  unfold jn
  omega
mutual
theorem wS_flN : ∀ d : Nd, wS (flN d) ≤ wN d
  | .tx x => by
    by_cases h : x = []
    · simp [flN, h, wS]
    · simp [flN, h, wS]
  | .el t as ks => by have := wS_flS ks; have := wS_jn (flS ks); simp only [flN, wS, wN]; omega
  | .aw n ks => by have := wS_flS ks; simp only [flN, wN]; omega
theorem wS_flS : ∀ ks : List Nd, wS (flS ks) ≤ wS ks
  | [] => by simp [flS]
  | d :: r => by have := wS_flN d; have := wS_flS r; simp only [flS, wS_app, wS]; omega
end
theorem dpS_jnS (acc : List Nd) (d : Nd) : dpS (jnS acc d) ≤ max (dpS acc) (dpN d) := by
  rcases snoc_cases acc with rfl | ⟨a, e, rfl⟩
  · rw [jnS_nil]; simp [dpS]
  · rw [jnS_sn]
    cases d with
    | tx y => cases e <;> simp [dpS_app, dpS, dpN] <;> omega
    | el t as ks => cases e <;> simp [dpS_app, dpS] <;> omega
    | aw n ks => cases e <;> simp [dpS_app, dpS] <;> omega
theorem dpS_fold : ∀ (l acc : List Nd), dpS (l.foldl jnS acc) ≤ max (dpS acc) (dpS l)
  | [], acc => by simp [dpS]
  | d :: l, acc => by
    have h1 := dpS_fold l (jnS acc d)
    have h2 := dpS_jnS acc d
    simp only [List.foldl_cons, dpS]
    omega
theorem dpS_jn (l : List Nd) : dpS (jn l) ≤ dpS l := by
  have := dpS_fold l []
  simp only [dpS] at this
  unfold jn
  omega
mutual
theorem dpS_flN : ∀ d : Nd, dpS (flN d) ≤ dpN d
  | .tx x => by
    by_cases h : x = []
    · simp [flN, h, dpS]
    · simp [flN, h, dpS]
  | .el t as ks => by have := dpS_flS ks; have := dpS_jn (flS ks); simp only [flN, dpS, dpN]; omega
  | .aw n ks => by have := dpS_flS ks; simp only [flN, dpN]; omega
theorem dpS_flS : ∀ ks : List Nd, dpS (flS ks) ≤ dpS ks
  | [] => by simp [flS]
  | d :: r => by have := dpS_flN d; have := dpS_flS r; simp only [flS, dpS_app, dpS]; omega
end
/-! neat trees: no awaits, no empty texts, no two texts in a row -/
mutual
def ntN : Nd → Prop
  | .tx x => x ≠ []
  | .el _ _ ks => ntS false ks
  | .aw _ _ => False
def ntS : Bool → List Nd → Prop
  | _, [] => True
  | b, d :: r => ntN d ∧ (b = true → isT d = false) ∧ ntS (isT d) r
end
section
variable (f : Int → List Nat)
mutual
theorem neatN : ∀ d : Nd, ntN d → pieceW f d = pieceP d
  | .tx x, h => by
    have h : x ≠ [] := h
    simp only [pieceW, pieceP]
    rw [if_neg h]
  | .el t as ks, h => by
    have := neatS false ks (by simpa only [ntN] using h)
    simp only [pieceW, pieceP, this]
  | .aw n ks, h => h.elim
theorem neatS : ∀ (b : Bool) (ks : List Nd), ntS b ks → catW f b ks = catP ks
  | b, [], _ => by simp [catW, catP]
  | b, d :: r, h => by
    obtain ⟨h1, h2, h3⟩ : ntN d ∧ (b = true → isT d = false) ∧ ntS (isT d) r := by simpa only [ntS] using h
    have e : (b && isT d) = false := by
      cases b with
      | false => rfl
      | true => simpa using h2 rfl
    simp only [catW, catP, neatN d h1, neatS _ r h3, e]
    rfl
end
end
def lastT (acc : List Nd) : Bool := match acc.getLast? with | some d => isT d | none => false
theorem ntS_app : ∀ (a : List Nd) (b : Bool) (d : Nd), ntS b a → ntN d → ((if a = [] then b else lastT a) = true → isT d = false) → ntS b (a ++ [d])
  | [], b, d, _, h2, h3 => by
    simp only [List.nil_append, ntS]
    exact ⟨h2, fun z => h3 (by simpa using z), trivial⟩
  | e :: a, b, d, h1, h2, h3 => by
    obtain ⟨g1, g2, g3⟩ : ntN e ∧ (b = true → isT e = false) ∧ ntS (isT e) a := by simpa only [ntS] using h1
    rw [List.cons_append]
    simp only [ntS]
    refine ⟨g1, g2, ntS_app a _ d g3 h2 fun z => h3 ?_⟩
    rw [if_neg (by simp)]
    cases a with
    | nil => simpa [lastT] using z
    | cons x xs =>
      rw [if_neg (by simp)] at z
      unfold lastT at z ⊢
      rw [List.getLast?_cons_cons]
      exact z
theorem ntS_dl : ∀ (a : List Nd) (b : Bool) (d : Nd), ntS b (a ++ [d]) → ntS b a ∧ ntN d ∧ ((if a = [] then b else lastT a) = true → isT d = false)
  | [], b, d, h => by
    obtain ⟨h1, h2, _⟩ : ntN d ∧ (b = true → isT d = false) ∧ ntS (isT d) [] := by simpa only [List.nil_append, ntS] using h
    exact ⟨by simp only [ntS], h1, fun z => h2 (by simpa using z)⟩
  | e :: a, b, d, h => by
    obtain ⟨h1, h2, h3⟩ : ntN e ∧ (b = true → isT e = false) ∧ ntS (isT e) (a ++ [d]) := by simpa only [List.cons_append, ntS] using h
    obtain ⟨i1, i2, i3⟩ := ntS_dl a _ d h3
    refine ⟨by simp only [ntS]; exact ⟨h1, h2, i1⟩, i2, fun z => i3 ?_⟩
    rw [if_neg (by simp)] at z
    cases a with
    | nil => simpa [lastT] using z
    | cons x xs =>
      rw [if_neg (by simp)]
      unfold lastT at z ⊢
      rw [List.getLast?_cons_cons] at z
      exact z
theorem nt_jnS {acc : List Nd} {d : Nd} (h : ntS false acc) (hd : ntN d) : ntS false (jnS acc d) := by
  rcases snoc_cases acc with rfl | ⟨a, e, rfl⟩
  · rw [jnS_nil]
    exact ntS_app [] false d h hd (fun z => by simp at z)
  · rw [jnS_sn]
    obtain ⟨i1, i2, i3⟩ := ntS_dl a false e h
    have app : ∀ d, ntN d → (isT e = true → isT d = false) → ntS false (a ++ [e] ++ [d]) := fun d hd hh =>
      ntS_app (a ++ [e]) false d h hd fun z => by
        rw [if_neg (by simp)] at z
        unfold lastT at z
        rw [List.getLast?_concat] at z
        exact hh (by simpa using z)
    cases d with
    | tx y =>
      have hy : y ≠ [] := hd
      cases e with
      | tx x =>
        have hx : x ≠ [] := i2
        refine ntS_app a false _ i1 (by simp [ntN, hx]) fun z => ?_
        have := i3 z
        simp [isT, hx] at this
      | el t as ks => exact app _ hd fun z => by simp [isT] at z
      | aw n ks => exact absurd i2 id
    | el t as ks =>
      cases e with
      | tx x => exact app _ hd fun _ => rfl
      | el t as ks => exact app _ hd fun _ => rfl
      | aw n ks => exact absurd i2 id
    | aw n ks => exact absurd hd id
theorem nt_fold : ∀ (l acc : List Nd), ntS false acc → (∀ d ∈ l, ntN d) → ntS false (l.foldl jnS acc)
  | [], acc, h, _ => h
  | d :: l, acc, h, hl => nt_fold l _ (nt_jnS h (hl d List.mem_cons_self)) fun x hx => hl x (List.mem_cons_of_mem _ hx)
theorem nt_jn {l : List Nd} (h : ∀ d ∈ l, ntN d) : ntS false (jn l) := nt_fold l [] (by simp only [ntS]) h
mutual
theorem nt_flN : ∀ d : Nd, ∀ e ∈ flN d, ntN e
  | .tx x => fun e he => by
    by_cases h : x = []
    · simp [flN, h] at he
    · simp only [flN, if_neg h, List.mem_singleton] at he
      subst he
      exact h
  | .el t as ks => fun e he => by
    simp only [flN, List.mem_singleton] at he
    subst he
    simp only [ntN]
    exact nt_jn (nt_flS ks)
  | .aw n ks => fun e he => by
    simp only [flN] at he
    exact nt_flS ks e he
theorem nt_flS : ∀ ks : List Nd, ∀ e ∈ flS ks, ntN e
  | [] => fun e he => by simp [flS] at he
  | d :: r => fun e he => by
    simp only [flS, List.mem_append] at he
    rcases he with he | he
    · exact nt_flN d e he
    · exact nt_flS r e he
end
/-- the law -/
theorem law68 (f : Int → List Nat) (ks : List Nd) : catW f false (jn (flS ks)) = catP ks := by
  rw [neatS f _ _ (nt_jn (nt_flS ks)), catP_jn, catP_flS]
end VL
namespace VL
/-! writing any tree -/
mutual
def nuN : Nd → Prop
  | .tx _ => True
  | .el _ _ ks => nuS ks
  | .aw n ks => (∀ i, n = some i → 0 ≤ i ∧ i < 10 ^ 30) ∧ nuS ks
def nuS : List Nd → Prop
  | [] => True
  | d :: r => nuN d ∧ nuS r
end
theorem nu_mem {d : Nd} : ∀ {ks : List Nd}, nuS ks → d ∈ ks → nuN d
  | e :: ks, h, m => by
    obtain ⟨h1, h2⟩ : nuN e ∧ nuS ks := by simpa only [nuS] using h
    rcases List.mem_cons.mp m with rfl | m
    · exact h1
    · exact nu_mem h2 m
mutual
theorem nt_nuN : ∀ d : Nd, ntN d → nuN d
  | .tx _, _ => trivial
  | .el _ _ ks, h => by simp only [nuN]; exact nt_nuS false ks (by simpa only [ntN] using h)
  | .aw _ _, h => h.elim
theorem nt_nuS : ∀ (b : Bool) (ks : List Nd), ntS b ks → nuS ks
  | _, [], _ => by simp only [nuS]
  | b, d :: r, h => by
    obtain ⟨h1, _, h3⟩ : ntN d ∧ (b = true → isT d = false) ∧ ntS (isT d) r := by simpa only [ntS] using h
    simp only [nuS]
    exact ⟨nt_nuN d h1, nt_nuS _ r h3⟩
end
section
variable (f : Int → List Nat)
theorem catW_sn : ∀ (a : List Nd) (b : Bool) (d : Nd), catW f b (a ++ [d]) = catW f b a ++ ((if (if a = [] then b else lastT a) && isT d then zT else []) ++ pieceW f d)
  | [], b, d => by simp [catW]
  | e :: a, b, d => by
    rw [List.cons_append]
    simp only [catW]
    rw [catW_sn a (isT e) d, if_neg (by simp : ¬ (e :: a = []))]
    have : (if a = [] then isT e else lastT a) = lastT (e :: a) := by
      cases a with
      | nil => simp [lastT]
      | cons x xs =>
        rw [if_neg (by simp)]
        unfold lastT
        rw [List.getLast?_cons_cons]
    rw [this]
    simp
theorem catW_sn0 (a : List Nd) (d : Nd) : catW f false (a ++ [d]) = catW f false a ++ ((if lastT a && isT d then zT else []) ++ pieceW f d) := by
  rw [catW_sn]
  cases a with
  | nil => simp [lastT]
  | cons x xs =>
    have e : (if (x :: xs) = [] then false else lastT (x :: xs)) = lastT (x :: xs) := if_neg (by simp)
    rw [e]
theorem lastT_sn (a : List Nd) (d : Nd) : lastT (a ++ [d]) = isT d := by
  unfold lastT
  rw [List.getLast?_concat]
mutual
theorem pieceW_len (hf : ∀ i, 0 ≤ i → i < 10 ^ 30 → (f i).length ≤ 30) : ∀ d : Nd, nuN d → (pieceW f d).length + 8 ≤ wN d
  | .tx x, _ => by
    have := escT_len x
    simp only [pieceW, wN]
    split <;> simp <;> omega
  | .el t as ks, h => by
    have := elem_len t as (catW f false ks)
    have := catW_len hf false ks (by simpa only [nuN] using h)
    simp only [pieceW, wN]
    omega
  | .aw n ks, h => by
    obtain ⟨h1, h2⟩ : (∀ i, n = some i → 0 ≤ i ∧ i < 10 ^ 30) ∧ nuS ks := by simpa only [nuN] using h
    have := catW_len hf false ks h2
    have : (numL f n).length ≤ 30 := by
      cases n with
      | none => simp [numL]
      | some i => exact hf i (h1 i rfl).1 (h1 i rfl).2
    simp only [pieceW, wN, List.length_append, List.length_cons, List.length_nil]
    omega
theorem catW_len (hf : ∀ i, 0 ≤ i → i < 10 ^ 30 → (f i).length ≤ 30) : ∀ (b : Bool) (ks : List Nd), nuS ks → (catW f b ks).length ≤ wS ks
  | _, [], _ => by simp [catW, wS]
  | b, d :: r, h => by
    obtain ⟨h1, h2⟩ : nuN d ∧ nuS r := by simpa only [nuS] using h
    have := pieceW_len hf d h1
    have := catW_len hf (isT d) r h2
    simp only [catW, wS, List.length_append]
    split <;> simp <;> omega
end
end
end VL
namespace VL
theorem len_jnS (acc : List Nd) (d : Nd) : (jnS acc d).length ≤ acc.length + 1 := by
  rcases snoc_cases acc with rfl | ⟨a, e, rfl⟩
  · rw [jnS_nil]; simp
  · rw [jnS_sn]
    cases d with
    | tx y => cases e <;> simp
    | el t as ks => cases e <;> simp
    | aw n ks => cases e <;> simp
theorem len_fold : ∀ (l acc : List Nd), (l.foldl jnS acc).length ≤ acc.length + l.length
  | [], acc => by simp
  | d :: l, acc => by
    have h1 := len_fold l (jnS acc d)
    have h2 := len_jnS acc d
    simp only [List.foldl_cons, List.length_cons]
    omega
theorem jn_snoc (l : List Nd) (d : Nd) : jn (l ++ [d]) = jnS (jn l) d := by
  unfold jn
  rw [List.foldl_append]
  rfl
end VL

set_option linter.all false
set_option maxRecDepth 100000
namespace VL
open PySem PySem.Spec PyProof.Rows L2
/-! ### the reader of written trees -/
inductive Hd where
  | el (t : List Nat) (as : List (List Nat × List Nat))
  | aw (n : Option Int)
def Hd.close : Hd → List Nd → Nd
  | .el t as, ks => .el t as ks
  | .aw n, ks => .aw n ks
structure RS where
  R : List Nat
  ls : List (List Nd)
  ar : List Hd
  ns : List (List Nat)
  bh : Bool
/-- whether a mark stands there; none: the text ends within it -/
def sd (m R : List Nat) : Option Bool := if R.take m.length = m then some true else if (R.take m.length).isPrefixOf m then none else some false
def marks4 : List (List Nat × Nat) := [(zAmp, 38), (zLt, 60), (zGt, 62), (zQuot, 34)]
def escR (R : List Nat) : List (List Nat × Nat) → Except Nat (Nat × List Nat)
  | [] => .error R.length
  | p :: r => match sd p.1 R with
    | none => .error 0
    | some true => .ok (p.2, R.drop p.1.length)
    | some false => escR R r
def takeS (e : Nat) : Nat → List Nat → Except Nat (List Nat × List Nat)
  | 0, R => .ok ([], R)
  | _ + 1, [] => .ok ([], [])
  | f + 1, c :: r => if c = e then .ok ([], c :: r) else
    if c = 38 then match escR (c :: r) marks4 with
      | .error k => .error k
      | .ok (s, R') => match takeS e f R' with
        | .error k => .error k
        | .ok (l, R2) => .ok (s :: l, R2)
    else match takeS e f r with
      | .error k => .error k
      | .ok (l, R2) => .ok (c :: l, R2)
def isSm (c : Nat) : Bool := decide (97 ≤ c) && decide (c ≤ 122)
def isDi (c : Nat) : Bool := decide (48 ≤ c) && decide (c ≤ 57)
def isWd (c : Nat) : Bool := isSm c || isDi c || decide (c = 45)
def wordR : List Nat → List Nat × List Nat
  | [] => ([], [])
  | c :: r => if isSm c then ((c :: r).takeWhile isWd, (c :: r).dropWhile isWd) else ([], c :: r)
def attR (names : List (List Nat)) (R : List Nat) : Except Nat ((List Nat × List Nat) × List Nat) :=
  if R.head? ≠ some 32 then .error R.length else
  if (wordR R.tail).1 = [] ∧ (wordR R.tail).2 ≠ [] then .error R.length else
  match sd [61, 34] (wordR R.tail).2 with
  | none => .error 0
  | some false => .error R.length
  | some true => if (wordR R.tail).1 ∈ names then .error R.tail.length else
    match takeS 34 ((wordR R.tail).2.drop 2).length ((wordR R.tail).2.drop 2) with
    | .error k => .error k
    | .ok (v, R2) => if R2 = [] then .error 0 else .ok (((wordR R.tail).1, v), R2.tail)
def attsR : Nat → List (List Nat × List Nat) → List Nat → Except Nat (List (List Nat × List Nat) × List Nat)
  | 0, _, _ => .error 0
  | f + 1, acc, R => match sd [62] R with
    | none => .error 0
    | some true => .ok (acc, R.tail)
    | some false => match attR (acc.map (·.1)) R with
      | .error k => .error k
      | .ok (a, R') => attsR f (acc ++ [a]) R'
def push (d : Nd) : List (List Nd) → List (List Nd)
  | [] => []
  | l :: r => (l ++ [d]) :: r
/-- the innermost node ends -/
def popN (s : RS) (R : List Nat) : RS := match s.ls, s.ar with
  | ks :: ls, h :: ar => ⟨R, push (h.close ks) ls, ar, s.ns, false⟩
  | ls, ar => ⟨R, ls, ar, s.ns, false⟩
abbrev zA0 : List Nat := [60, 33, 45, 45, 91, 45, 45, 62]
def waitR (s : RS) : Except Nat RS := match sd zA s.R with
  | none => .error 0
  | some false => .error s.R.length
  | some true => if (s.R.drop 5).takeWhile isDi = [] then .error s.R.length else
    match sd zB ((s.R.drop 5).dropWhile isDi) with
    | none => .error 0
    | some false => .error s.R.length
    | some true => if ((s.R.drop 5).takeWhile isDi).head? = some 48 ∨ 9 < ((s.R.drop 5).takeWhile isDi).length ∨ (s.R.drop 5).takeWhile isDi ∈ s.ns then .error s.R.length else
      if 40 < s.ls.length then .error s.R.length else
      .ok ⟨((s.R.drop 5).dropWhile isDi).drop 3, [] :: s.ls, .aw (some ((NumText.digitsVal ((s.R.drop 5).takeWhile isDi) : Nat) : Int)) :: s.ar, s.ns ++ [(s.R.drop 5).takeWhile isDi], false⟩
def commR (s : RS) : Except Nat RS := match sd zE s.R with
  | none => .error 0
  | some true => if 40 < s.ls.length then .error s.R.length else .ok ⟨s.R.drop 8, push (.tx []) s.ls, s.ar, s.ns, false⟩
  | some false => match sd zT s.R with
    | none => .error 0
    | some true => if s.bh = false ∨ (s.R.drop 8).head? = none ∨ (s.R.drop 8).head? = some 60 then .error s.R.length else .ok ⟨s.R.drop 8, s.ls, s.ar, s.ns, false⟩
    | some false => match sd zA0 s.R with
      | none => .error 0
      | some true => if 40 < s.ls.length then .error s.R.length else .ok ⟨s.R.drop 8, [] :: s.ls, .aw none :: s.ar, s.ns, false⟩
      | some false => match sd zC s.R with
        | none => .error 0
        | some true => match s.ar with
          | .aw _ :: _ => .ok (popN s (s.R.drop 8))
          | _ => .error s.R.length
        | some false => waitR s
def endR (s : RS) : Except Nat RS := match s.ar with
  | .el t _ :: _ => match sd ([60, 47] ++ t ++ [62]) s.R with
    | none => .error 0
    | some false => .error s.R.length
    | some true => .ok (popN s (s.R.drop (t.length + 3)))
  | _ => .error s.R.length
def startR (s : RS) : Except Nat RS := if 40 < s.ls.length then .error s.R.length else
  match attsR s.R.length [] (wordR s.R.tail).2 with
  | .error k => .error k
  | .ok (as, R') => .ok ⟨R', [] :: s.ls, .el (wordR s.R.tail).1 as :: s.ar, s.ns, false⟩
def hdSm : List Nat → Bool
  | [] => false
  | c :: _ => isSm c
def piece (s : RS) : Except Nat RS := if s.R.head? ≠ some 60 then
    (if 40 < s.ls.length then .error s.R.length else match takeS 60 s.R.length s.R with
      | .error k => .error k
      | .ok (l, R') => .ok ⟨R', push (.tx l) s.ls, s.ar, s.ns, true⟩)
  else if hdSm s.R.tail = true then startR s
  else match sd [60, 47] s.R with
    | none => .error 0
    | some true => endR s
    | some false => commR s
def runR : Nat → RS → Except Nat RS
  | 0, s => .ok s
  | f + 1, s => if s.R = [] then .ok s else match piece s with
    | .error k => .error k
    | .ok s' => runR f s'
def s0 (T : List Nat) : RS := ⟨T, [[]], [], [], false⟩
/-- the tree of a text, or how far from its end the fault is -/
def readT (T : List Nat) : Except Nat (List Nd) := match runR T.length (s0 T) with
  | .error k => .error k
  | .ok s => if s.ar = [] then .ok (s.ls.headD []) else .error 0
/-! ### what is written is read -/
inductive Steps : RS → RS → Prop
  | refl (s : RS) : Steps s s
  | step {s s' t : RS} : s.R ≠ [] → s'.R.length < s.R.length → piece s = .ok s' → Steps s' t → Steps s t
theorem Steps.trans {a b c : RS} (h : Steps a b) (k : Steps b c) : Steps a c := by
  induction h with
  | refl => exact k
  | step h1 h2 h3 _ ih => exact .step h1 h2 h3 (ih k)
theorem Steps.run {s t : RS} (h : Steps s t) (ht : t.R = []) : ∀ f, s.R.length ≤ f → runR f s = .ok t := by
  induction h with
  | refl s =>
    intro f _
    cases f with
    | zero => rfl
    | succ f => simp [runR, ht]
  | step h1 h2 h3 _ ih =>
    intro f hf
    cases f with
    | zero => exact absurd (List.length_eq_zero_iff.mp (by omega)) h1
    | succ f =>
      simp only [runR]
      rw [if_neg h1, h3]
      exact ih ht f (by omega)
theorem sd_yes {m r : List Nat} : sd m (m ++ r) = some true := by
  unfold sd
  rw [List.take_left]
  simp
theorem sd_no {m R : List Nat} {i : Nat} {a b : Nat} (hm : m[i]? = some a) (hR : R[i]? = some b) (h : a ≠ b) : sd m R = some false := by
  have him := (List.getElem?_eq_some_iff.mp hm).1
  have hT : (R.take m.length)[i]? = some b := by rw [List.getElem?_take, if_pos him, hR]
  unfold sd
  rw [if_neg (fun e => by rw [e, hm] at hT; exact h (Option.some.inj hT)), if_neg]
  intro hp
  obtain ⟨t, ht⟩ := List.isPrefixOf_iff_prefix.mp hp
  have : m[i]? = some b := by
    rw [← ht, List.getElem?_append_left (List.getElem?_eq_some_iff.mp hT).1]
    exact hT
  rw [hm] at this
  exact h (Option.some.inj this)
/-- the marks of the text's signs -/
def escG (g : Nat → List Nat) (l : List Nat) : List Nat := l.flatMap g
def gT (d : Nat) : List Nat := if d = 38 then zAmp else if d = 60 then zLt else if d = 62 then zGt else [d]
def gV (d : Nat) : List Nat := if d = 38 then zAmp else if d = 60 then zLt else if d = 34 then zQuot else [d]
/-- the text with > left as it is -/
def gU (d : Nat) : List Nat := if d = 38 then zAmp else if d = 60 then zLt else [d]
theorem flat_id {α β γ : Type} (f : α → List β) (g : β → List γ) (h : α → List γ) (hh : ∀ a, (f a).flatMap g = h a) : ∀ l : List α, (l.flatMap f).flatMap g = l.flatMap h
  | [] => rfl
  | a :: l => by simp [List.flatMap_cons, List.flatMap_append, hh a, flat_id f g h hh l]
theorem esc_two (l : List Nat) : esc1 60 zLt (esc1 38 zAmp l) = l.flatMap gU := by
  unfold esc1
  refine flat_id _ _ _ (fun d => ?_) l
  unfold gU
  by_cases h1 : d = 38
  · rw [if_pos h1, if_pos h1]
    decide
  · rw [if_neg h1, if_neg h1]
    simp
theorem escT_g (l : List Nat) : escT l = l.flatMap gT := by
  unfold escT
  rw [esc_two]
  unfold esc1
  refine flat_id _ _ _ (fun d => ?_) l
  unfold gT gU
  by_cases h1 : d = 38
  · rw [if_pos h1, if_pos h1]
    decide
  · by_cases h2 : d = 60
    · rw [if_neg h1, if_neg h1, if_pos h2, if_pos h2]
      decide
    · rw [if_neg h1, if_neg h1, if_neg h2, if_neg h2]
      simp
theorem escV_g (l : List Nat) : escV l = l.flatMap gV := by
  unfold escV
  rw [esc_two]
  unfold esc1
  refine flat_id _ _ _ (fun d => ?_) l
  unfold gV gU
  by_cases h1 : d = 38
  · rw [if_pos h1, if_pos h1]
    decide
  · by_cases h2 : d = 60
    · rw [if_neg h1, if_neg h1, if_pos h2, if_pos h2]
      decide
    · rw [if_neg h1, if_neg h1, if_neg h2, if_neg h2]
      simp
/-- a way of writing signs that the reader takes back, up to e -/
def Back (e : Nat) (g : Nat → List Nat) : Prop := ∀ d, (d ≠ e ∧ d ≠ 38 ∧ g d = [d]) ∨ (g d = zAmp ∧ d = 38) ∨ (g d = zLt ∧ d = 60) ∨ (g d = zGt ∧ d = 62) ∨ (g d = zQuot ∧ d = 34)
theorem esc_amp {r : List Nat} : escR (zAmp ++ r) marks4 = .ok (38, r) := by
  unfold marks4 escR
  rw [sd_yes]
  rfl
theorem esc_lt {r : List Nat} : escR (zLt ++ r) marks4 = .ok (60, r) := by
  unfold marks4 escR
  rw [sd_no (i := 1) (a := 97) (b := 108) rfl rfl (by decide)]
  show escR (zLt ++ r) [(zLt, 60), (zGt, 62), (zQuot, 34)] = _
  unfold escR
  rw [sd_yes]
  rfl
theorem esc_gt {r : List Nat} : escR (zGt ++ r) marks4 = .ok (62, r) := by
  unfold marks4 escR
  rw [sd_no (i := 1) (a := 97) (b := 103) rfl rfl (by decide)]
  show escR (zGt ++ r) [(zLt, 60), (zGt, 62), (zQuot, 34)] = _
  unfold escR
  rw [sd_no (i := 1) (a := 108) (b := 103) rfl rfl (by decide)]
  show escR (zGt ++ r) [(zGt, 62), (zQuot, 34)] = _
  unfold escR
  rw [sd_yes]
  rfl
theorem esc_quot {r : List Nat} : escR (zQuot ++ r) marks4 = .ok (34, r) := by
  unfold marks4 escR
  rw [sd_no (i := 1) (a := 97) (b := 113) rfl rfl (by decide)]
  show escR (zQuot ++ r) [(zLt, 60), (zGt, 62), (zQuot, 34)] = _
  unfold escR
  rw [sd_no (i := 1) (a := 108) (b := 113) rfl rfl (by decide)]
  show escR (zQuot ++ r) [(zGt, 62), (zQuot, 34)] = _
  unfold escR
  rw [sd_no (i := 1) (a := 103) (b := 113) rfl rfl (by decide)]
  show escR (zQuot ++ r) [(zQuot, 34)] = _
  unfold escR
  rw [sd_yes]
  rfl
theorem take_read {e : Nat} {g : Nat → List Nat} (he : e ≠ 38) (hg : Back e g) : ∀ (l : List Nat) (Z : List Nat) (f : Nat), (Z = [] ∨ Z.head? = some e) → (l.flatMap g ++ Z).length ≤ f → takeS e f (l.flatMap g ++ Z) = .ok (l, Z)
  | [], Z, f, hZ, hf => by
    cases f with
    | zero =>
      have : Z = [] := List.length_eq_zero_iff.mp (by simpa using hf)
      subst this
      rfl
    | succ f =>
      rcases hZ with rfl | hZ
      · rfl
      · cases Z with
        | nil => cases hZ
        | cons c r =>
          cases hZ
          simp [takeS]
  | d :: l, Z, f, hZ, hf => by
    have esc : ∀ (z : List Nat) (t : List Nat), z = 38 :: t → g d = z → (∀ r, escR (z ++ r) marks4 = .ok (d, r)) → takeS e f ((d :: l).flatMap g ++ Z) = .ok (d :: l, Z) := fun z t hz hgd hes => by
      have e1 : (d :: l).flatMap g ++ Z = z ++ (l.flatMap g ++ Z) := by rw [List.flatMap_cons, hgd, List.append_assoc]
      rw [e1] at hf ⊢
      subst hz
      cases f with
      | zero => simp at hf
      | succ f =>
        have ih := take_read he hg l Z f hZ (by simp only [List.cons_append, List.length_cons, List.length_append] at hf ⊢; omega)
        have h2 := hes (l.flatMap g ++ Z)
        simp only [List.cons_append] at h2 ⊢
        simp only [takeS]
        rw [if_neg (Ne.symm he), if_pos trivial, h2]
        simp only
        rw [ih]
    rcases hg d with ⟨h1, h2, h3⟩ | ⟨h1, h2⟩ | ⟨h1, h2⟩ | ⟨h1, h2⟩ | ⟨h1, h2⟩
    · have e1 : (d :: l).flatMap g ++ Z = d :: (l.flatMap g ++ Z) := by rw [List.flatMap_cons, h3]; rfl
      rw [e1] at hf ⊢
      cases f with
      | zero => simp at hf
      | succ f =>
        have ih := take_read he hg l Z f hZ (by simpa using hf)
        simp only [takeS]
        rw [if_neg h1, if_neg h2, ih]
    · exact esc zAmp _ rfl h1 (fun r => by rw [h2]; exact esc_amp)
    · exact esc zLt _ rfl h1 (fun r => by rw [h2]; exact esc_lt)
    · exact esc zGt _ rfl h1 (fun r => by rw [h2]; exact esc_gt)
    · exact esc zQuot _ rfl h1 (fun r => by rw [h2]; exact esc_quot)
theorem back_T : Back 60 gT := fun d => by
  unfold gT
  by_cases h1 : d = 38
  · exact .inr (.inl ⟨if_pos h1, h1⟩)
  by_cases h2 : d = 60
  · exact .inr (.inr (.inl ⟨by rw [if_neg h1, if_pos h2], h2⟩))
  by_cases h3 : d = 62
  · exact .inr (.inr (.inr (.inl ⟨by rw [if_neg h1, if_neg h2, if_pos h3], h3⟩)))
  · exact .inl ⟨h2, h1, by rw [if_neg h1, if_neg h2, if_neg h3]⟩
theorem back_U : Back 60 gU := fun d => by
  unfold gU
  by_cases h1 : d = 38
  · exact .inr (.inl ⟨if_pos h1, h1⟩)
  by_cases h2 : d = 60
  · exact .inr (.inr (.inl ⟨by rw [if_neg h1, if_pos h2], h2⟩))
  · exact .inl ⟨h2, h1, by rw [if_neg h1, if_neg h2]⟩
theorem back_V : Back 34 gV := fun d => by
  unfold gV
  by_cases h1 : d = 38
  · exact .inr (.inl ⟨if_pos h1, h1⟩)
  by_cases h2 : d = 60
  · exact .inr (.inr (.inl ⟨by rw [if_neg h1, if_pos h2], h2⟩))
  by_cases h3 : d = 34
  · exact .inr (.inr (.inr (.inr ⟨by rw [if_neg h1, if_neg h2, if_pos h3], h3⟩)))
  · exact .inl ⟨h3, h1, by rw [if_neg h1, if_neg h2, if_neg h3]⟩
end VL

set_option linter.all false
set_option maxRecDepth 100000
namespace VL
open PySem PySem.Spec PyProof.Rows L2
def wOk (t : List Nat) : Prop := (∃ c r, t = c :: r ∧ isSm c = true) ∧ ∀ c ∈ t, isWd c = true
def stop (Z : List Nat) : Prop := ∀ c, Z.head? = some c → isWd c = false
theorem tw_all {p : Nat → Bool} {t Z : List Nat} (h : ∀ c ∈ t, p c = true) (hZ : ∀ c, Z.head? = some c → p c = false) : (t ++ Z).takeWhile p = t ∧ (t ++ Z).dropWhile p = Z := by
  induction t with
  | nil =>
    cases Z with
    | nil => exact ⟨rfl, rfl⟩
    | cons c r =>
      have := hZ c rfl
      simp [this]
  | cons c t ih =>
    have h1 := h c List.mem_cons_self
    have := ih fun d hd => h d (List.mem_cons_of_mem _ hd)
    simp [h1, this.1, this.2]
theorem word_read {t Z : List Nat} (h : wOk t) (hZ : stop Z) : wordR (t ++ Z) = (t, Z) := by
  obtain ⟨⟨c, r, rfl, hc⟩, ha⟩ := h
  have := tw_all ha hZ
  show (if isSm c then ((c :: (r ++ Z)).takeWhile isWd, (c :: (r ++ Z)).dropWhile isWd) else _) = _
  rw [if_pos hc]
  exact Prod.ext this.1 this.2
theorem stop_cons {c : Nat} {Z : List Nat} (h : isWd c = false) : stop (c :: Z) := fun d hd => by cases hd; exact h
theorem pair_eq (a : List Nat × List Nat) (Z : List Nat) : pairL a ++ Z = 32 :: (a.1 ++ ([61, 34] ++ (a.2.flatMap gV ++ 34 :: Z))) := by
  unfold pairL
  rw [escV_g]
  simp
theorem att_read {names : List (List Nat)} {a : List Nat × List Nat} {Z : List Nat} (h : wOk a.1) (hn : a.1 ∉ names) : attR names (pairL a ++ Z) = .ok (a, Z) := by
  rw [pair_eq]
  have hw := word_read h (stop_cons (Z := 34 :: (a.2.flatMap gV ++ 34 :: Z)) (c := 61) (by decide))
  have hw : wordR (a.1 ++ ([61, 34] ++ (a.2.flatMap gV ++ 34 :: Z))) = (a.1, [61, 34] ++ (a.2.flatMap gV ++ 34 :: Z)) := hw
  have ne : a.1 ≠ [] := by
    obtain ⟨⟨c, r, e, _⟩, _⟩ := h
    rw [e]
    exact List.cons_ne_nil _ _
  unfold attR
  rw [if_neg (by simp), List.tail_cons, hw]
  simp only
  rw [if_neg (fun z => ne z.1), sd_yes]
  simp only
  rw [if_neg hn]
  have e2 : ([61, 34] ++ (a.2.flatMap gV ++ 34 :: Z)).drop 2 = a.2.flatMap gV ++ 34 :: Z := rfl
  rw [e2, take_read (by decide) back_V a.2 (34 :: Z) _ (.inr rfl) (Nat.le_refl _)]
  simp
theorem atts_read : ∀ (as acc : List (List Nat × List Nat)) (Z : List Nat) (f : Nat), ((acc ++ as).map (·.1)).Nodup → (∀ a ∈ as, wOk a.1) → as.length < f → attsR f acc (as.flatMap pairL ++ 62 :: Z) = .ok (acc ++ as, Z)
  | [], acc, Z, f, hn, hw, hf => by
    cases f with
    | zero => exact absurd hf (Nat.not_lt_zero _)
    | succ f =>
      show attsR (f + 1) acc ([62] ++ Z) = _
      simp only [attsR]
      rw [sd_yes]
      simp
  | a :: as, acc, Z, f, hn, hw, hf => by
    cases f with
    | zero => exact absurd hf (Nat.not_lt_zero _)
    | succ f =>
      have e1 : (a :: as).flatMap pairL ++ 62 :: Z = pairL a ++ (as.flatMap pairL ++ 62 :: Z) := by rw [List.flatMap_cons, List.append_assoc]
      rw [e1]
      simp only [attsR]
      have e2 : sd [62] (pairL a ++ (as.flatMap pairL ++ 62 :: Z)) = some false := sd_no (i := 0) (a := 62) (b := 32) rfl (by rw [pair_eq]; rfl) (by decide)
      have hn1 : a.1 ∉ acc.map (·.1) := by
        rw [List.map_append, List.map_cons, List.nodup_append] at hn
        intro z
        exact hn.2.2 _ z _ List.mem_cons_self rfl
      rw [e2, att_read (hw a List.mem_cons_self) hn1]
      simp only
      rw [atts_read as (acc ++ [a]) Z f (by rw [List.append_assoc]; exact hn) (fun b hb => hw b (List.mem_cons_of_mem _ hb)) (by simpa using hf), List.append_assoc]
      rfl
/-! ### trees -/
section
variable (f : Int → List Nat) (g : Nat → List Nat)
mutual
def pieceG : Nd → List Nat
  | .tx x => if x = [] then zE else x.flatMap g
  | .el t as ks => elemL t as (ctG false ks)
  | .aw n ks => zA ++ numL f n ++ zB ++ ctG false ks ++ zC
def ctG : Bool → List Nd → List Nat
  | _, [] => []
  | b, d :: r => (if b && isT d then zT else []) ++ pieceG d ++ ctG (isT d) r
end
end
mutual
theorem pieceG_W (f : Int → List Nat) : ∀ d : Nd, pieceG f gT d = pieceW f d
  | .tx x => by simp only [pieceG, pieceW, escT_g]
  | .el t as ks => by simp only [pieceG, pieceW, ctG_W f false ks]
  | .aw n ks => by simp only [pieceG, pieceW, ctG_W f false ks]
theorem ctG_W (f : Int → List Nat) : ∀ (b : Bool) (ks : List Nd), ctG f gT b ks = catW f b ks
  | b, [] => by simp only [ctG, catW]
  | b, d :: r => by simp only [ctG, catW, pieceG_W f d, ctG_W f (isT d) r]
end
mutual
def okN : Nd → Prop
  | .tx _ => True
  | .el t as ks => wOk t ∧ (as.map (·.1)).Nodup ∧ (∀ a ∈ as, wOk a.1) ∧ okS ks
  | .aw n ks => (∀ i, n = some i → 1 ≤ i ∧ i < 10 ^ 9) ∧ okS ks
def okS : List Nd → Prop
  | [] => True
  | d :: r => okN d ∧ okS r
end
mutual
def dN : Nd → Nat
  | .tx _ => 1
  | .el _ _ ks => 1 + dS ks
  | .aw _ ks => 1 + dS ks
def dS : List Nd → Nat
  | [] => 0
  | d :: r => max (dN d) (dS r)
end
mutual
/-- the numbers, in their order -/
def nmN : Nd → List Int
  | .tx _ => []
  | .el _ _ ks => nmS ks
  | .aw n ks => n.toList ++ nmS ks
def nmS : List Nd → List Int
  | [] => []
  | d :: r => nmN d ++ nmS r
end
def lastG : Bool → List Nd → Bool
  | b, [] => b
  | _, d :: r => lastG (isT d) r
def endsOk (Z : List Nat) : Prop := Z = [] ∨ Z.head? = some 60
section
variable {f : Int → List Nat} {g : Nat → List Nat}
structure Esc (g : Nat → List Nat) : Prop where
  b : Back 60 g
  h : ∀ d, ∃ c r, g d = c :: r ∧ c ≠ 60
theorem tx_hd (hg : Esc g) {x : List Nat} (hx : x ≠ []) : ∃ c r, x.flatMap g = c :: r ∧ c ≠ 60 := by
  cases x with
  | nil => exact absurd rfl hx
  | cons d x =>
    obtain ⟨c, r, e, hc⟩ := hg.h d
    exact ⟨c, r ++ x.flatMap g, by rw [List.flatMap_cons, e]; rfl, hc⟩
theorem head_G {r : List Nd} {Z : List Nat} (hZ : endsOk Z) : endsOk (ctG f g true r ++ Z) := by
  cases r with
  | nil => simpa only [ctG, List.nil_append] using hZ
  | cons d r =>
    right
    simp only [ctG, Bool.true_and]
    cases d with
    | tx x =>
      by_cases hx : x = []
      · subst hx
        simp [isT, pieceG]
      · simp [isT, hx]
    | el t as ks => simp [isT, pieceG, elemL]
    | aw n ks => simp [isT, pieceG]
end
end VL

set_option linter.all false
set_option maxRecDepth 100000
namespace VL
open PySem PySem.Spec PyProof.Rows L2
theorem Steps.one {s s' : RS} (h1 : s.R ≠ []) (h2 : s'.R.length < s.R.length) (h3 : piece s = .ok s') : Steps s s' := .step h1 h2 h3 (.refl _)
theorem num_hd {n c : Nat} {r : List Nat} (h : TL.numL n = c :: r) (hc : c = 48) : n = 0 := by
  induction n using Nat.strongRecOn generalizing c r with
  | _ n ih =>
    by_cases hn : n < 10
    · rw [TL.numL_lt hn] at h
      injection h with h1 _
      omega
    · rw [TL.numL_step (by omega)] at h
      cases hd : TL.numL (n / 10) with
      | nil => exact absurd hd (TL.numL_ne _)
      | cons c' r' =>
        rw [hd] at h
        injection h with h1 _
        have := ih (n / 10) (by omega) hd (by omega)
        omega
section
variable {f : Int → List Nat} {g : Nat → List Nat} {L : List Nd} {ls : List (List Nd)} {ar : List Hd} {ns : List (List Nat)} {b : Bool} {Z : List Nat}
theorem piece_lt {R : List Nat} {s : RS} (hs : s.R = 60 :: R) (h : hdSm R = false) : piece s = match sd [60, 47] s.R with
    | none => .error 0
    | some true => endR s
    | some false => commR s := by
  unfold piece
  rw [if_neg (by rw [hs]; simp), if_neg (by rw [hs, List.tail_cons, h]; simp)] <;> (cases sd [60, 47] s.R with | none => rfl | some b => cases b <;> rfl)
theorem step_text (hg : Esc g) {x : List Nat} (hx : x ≠ []) (hZ : endsOk Z) (hl : ls.length + 1 ≤ 40) : Steps ⟨x.flatMap g ++ Z, L :: ls, ar, ns, b⟩ ⟨Z, (L ++ [.tx x]) :: ls, ar, ns, true⟩ := by
  obtain ⟨c, r, e, hc⟩ := tx_hd hg hx
  refine .one (by rw [e]; simp) (by rw [e]; simp only [List.cons_append, List.length_cons, List.length_append]; omega) ?_
  unfold piece
  rw [if_pos (by rw [e]; simp [hc]), if_neg (by simp only [List.length_cons]; omega), take_read (by decide) hg.b x Z _ hZ (Nat.le_refl _)]
  rfl
theorem step_empty (hl : ls.length + 1 ≤ 40) : Steps ⟨zE ++ Z, L :: ls, ar, ns, b⟩ ⟨Z, (L ++ [.tx []]) :: ls, ar, ns, false⟩ := by
  refine .one (by simp) (by simp only [List.length_append]; simp) ?_
  rw [piece_lt (R := [33, 45, 45, 101, 45, 45, 62] ++ Z) rfl rfl, sd_no (i := 1) (a := 47) (b := 33) rfl rfl (by decide)]
  simp only
  unfold commR
  rw [sd_yes]
  simp only
  rw [if_neg (by simp only [List.length_cons]; omega)]
  rfl
theorem step_between (h : ∃ c r, Z = c :: r ∧ c ≠ 60) : Steps ⟨zT ++ Z, ls, ar, ns, true⟩ ⟨Z, ls, ar, ns, false⟩ := by
  obtain ⟨c, r, e, hc⟩ := h
  refine .one (by simp) (by simp only [List.length_append]; simp) ?_
  rw [piece_lt (R := [33, 45, 45, 116, 45, 45, 62] ++ Z) rfl rfl, sd_no (i := 1) (a := 47) (b := 33) rfl rfl (by decide)]
  simp only
  unfold commR
  rw [sd_no (i := 4) (a := 101) (b := 116) rfl rfl (by decide), sd_yes]
  simp only
  have e2 : (zT ++ Z).drop 8 = Z := rfl
  rw [e2, if_neg (by rw [e]; simp [hc])]
theorem step_aw0 (hl : ls.length ≤ 40) : Steps ⟨zA0 ++ Z, ls, ar, ns, b⟩ ⟨Z, [] :: ls, .aw none :: ar, ns, false⟩ := by
  refine .one (by simp) (by simp only [List.length_append]; simp) ?_
  rw [piece_lt (R := [33, 45, 45, 91, 45, 45, 62] ++ Z) rfl rfl, sd_no (i := 1) (a := 47) (b := 33) rfl rfl (by decide)]
  simp only
  unfold commR
  rw [sd_no (i := 4) (a := 101) (b := 91) rfl rfl (by decide), sd_no (i := 4) (a := 116) (b := 91) rfl rfl (by decide), sd_yes]
  simp only
  rw [if_neg (by omega)]
  rfl
theorem step_awE {n : Option Int} {K : List Nd} : Steps ⟨zC ++ Z, K :: L :: ls, .aw n :: ar, ns, b⟩ ⟨Z, (L ++ [.aw n K]) :: ls, ar, ns, false⟩ := by
  refine .one (by simp) (by simp only [List.length_append]; simp) ?_
  rw [piece_lt (R := [33, 45, 45, 93, 45, 45, 62] ++ Z) rfl rfl, sd_no (i := 1) (a := 47) (b := 33) rfl rfl (by decide)]
  simp only
  unfold commR
  rw [sd_no (i := 4) (a := 101) (b := 93) rfl rfl (by decide), sd_no (i := 4) (a := 116) (b := 93) rfl rfl (by decide), sd_no (i := 4) (a := 91) (b := 93) rfl rfl (by decide), sd_yes]
  rfl
theorem step_awN {i : Int} (h1 : 1 ≤ i) (h9 : i < 10 ^ 9) (hn : TL.numL i.toNat ∉ ns) (hl : ls.length ≤ 40) : Steps ⟨zA ++ TL.numL i.toNat ++ zB ++ Z, ls, ar, ns, b⟩ ⟨Z, [] :: ls, .aw (some i) :: ar, ns ++ [TL.numL i.toNat], false⟩ := by
  have ad := TL.numL_digits i.toNat
  have ad : ∀ c ∈ TL.numL i.toNat, isDi c = true := fun c hc => by
    have := ad c hc
    unfold isDi
    simpa using this
  have nz := TL.numL_ne i.toNat
  have hv := TL.numL_val i.toNat
  have hlen := TL.numL_len (n := i.toNat) (k := 9) (by decide) (by omega)
  have h0 : (TL.numL i.toNat).head? ≠ some 48 := fun z => by
    cases e : TL.numL i.toNat with
    | nil => exact nz e
    | cons c r =>
      rw [e] at z
      have := num_hd e (Option.some.inj z)
      omega
  generalize TL.numL i.toNat = D at ad nz hv hlen hn h0 ⊢
  have e1 : zA ++ D ++ zB ++ Z = zA ++ (D ++ (zB ++ Z)) := by simp
  rw [e1]
  obtain ⟨c, r, eD⟩ : ∃ c r, D = c :: r := by cases D with | nil => exact absurd rfl nz | cons c r => exact ⟨c, r, rfl⟩
  have hc : isDi c = true := ad c (by rw [eD]; exact List.mem_cons_self)
  have c45 : c ≠ 45 := fun z => by rw [z] at hc; exact absurd hc (by decide)
  have tw := tw_all (Z := zB ++ Z) ad (fun c hc => by cases hc; decide)
  refine .one (by simp) (by simp only [List.length_append]; simp; omega) ?_
  rw [piece_lt (R := [33, 45, 45, 91] ++ (D ++ (zB ++ Z))) rfl rfl, sd_no (i := 1) (a := 47) (b := 33) rfl rfl (by decide)]
  simp only
  unfold commR
  rw [sd_no (i := 4) (a := 101) (b := 91) rfl rfl (by decide), sd_no (i := 4) (a := 116) (b := 91) rfl rfl (by decide), sd_no (i := 5) (a := 45) (b := c) rfl (by rw [eD]; rfl) (Ne.symm c45), sd_no (i := 4) (a := 93) (b := 91) rfl rfl (by decide)]
  simp only
  unfold waitR
  rw [sd_yes]
  simp only
  have e2 : (zA ++ (D ++ (zB ++ Z))).drop 5 = D ++ (zB ++ Z) := rfl
  rw [e2, tw.1, tw.2, if_neg nz, sd_yes]
  simp only
  rw [if_neg (fun z => z.elim h0 (fun z => z.elim (fun z => absurd z (by omega)) hn)), if_neg (by omega), hv]
  have : ((i.toNat : Nat) : Int) = i := by omega
  rw [this]
  rfl
theorem step_el {t : List Nat} {as : List (List Nat × List Nat)} (ht : wOk t) (hn : (as.map (·.1)).Nodup) (hw : ∀ a ∈ as, wOk a.1) (hl : ls.length ≤ 40) : Steps ⟨60 :: (t ++ (as.flatMap pairL ++ 62 :: Z)), ls, ar, ns, b⟩ ⟨Z, [] :: ls, .el t as :: ar, ns, false⟩ := by
  have hst : stop (as.flatMap pairL ++ 62 :: Z) := by
    cases as with
    | nil => exact stop_cons (by decide)
    | cons a as =>
      rw [List.flatMap_cons, List.append_assoc, pair_eq]
      exact stop_cons (by decide)
  have hwd := word_read ht hst
  obtain ⟨⟨c, r, rfl, hc⟩, ha⟩ := ht
  refine .one (by simp) (by simp; omega) ?_
  unfold piece
  rw [if_neg (by simp)]
  refine (if_pos hc).trans ?_
  unfold startR
  rw [if_neg (by show ¬ 40 < ls.length; omega)]
  show (match attsR _ [] (wordR ((c :: r) ++ (as.flatMap pairL ++ 62 :: Z))).2 with | .error k => _ | .ok (as, R') => _) = _
  rw [hwd]
  have hlen : as.length ≤ (as.flatMap pairL).length := by
    clear hst hwd hn hw
    induction as with
    | nil => exact Nat.zero_le _
    | cons a as ih =>
      rw [List.flatMap_cons, List.length_append, List.length_cons]
      have : 1 ≤ (pairL a).length := by unfold pairL; simp
      omega
  rw [atts_read as [] Z _ (by simpa using hn) hw (by simp only [List.length_cons, List.length_append]; omega)]
  show Except.ok (RS.mk Z ([] :: ls) (.el (wordR ((c :: r) ++ (as.flatMap pairL ++ 62 :: Z))).1 ([] ++ as) :: ar) ns false) = _
  rw [hwd]
  rfl
theorem step_elE {t : List Nat} {as : List (List Nat × List Nat)} {K : List Nd} : Steps ⟨[60, 47] ++ t ++ [62] ++ Z, K :: L :: ls, .el t as :: ar, ns, b⟩ ⟨Z, (L ++ [.el t as K]) :: ls, ar, ns, false⟩ := by
  have e1 : [60, 47] ++ t ++ [62] ++ Z = 60 :: 47 :: (t ++ 62 :: Z) := by simp
  have hsd : sd [60, 47] ([60, 47] ++ t ++ [62] ++ Z) = some true := by
    rw [show [60, 47] ++ t ++ [62] ++ Z = [60, 47] ++ (t ++ [62] ++ Z) by simp, sd_yes]
  refine .one (by simp) (by simp only [List.length_append]; simp) ?_
  rw [piece_lt (R := 47 :: (t ++ 62 :: Z)) e1 rfl, hsd]
  simp only
  unfold endR
  simp only
  rw [sd_yes]
  simp only
  have : (([60, 47] ++ t ++ [62]) ++ Z).drop (t.length + 3) = Z := by
    rw [List.drop_append_of_le_length (by simp)]
    rw [List.drop_eq_nil_of_le (by simp)]
    rfl
  rw [this]
  rfl
/-- how the numbers are written -/
def NumF (f : Int → List Nat) : Prop := ∀ i, 1 ≤ i → i < 10 ^ 9 → f i = TL.numL i.toNat
theorem num_ne (hf : NumF f) {i : Int} {ms : List Int} (hi : 1 ≤ i ∧ i < 10 ^ 9) (hms : ∀ m ∈ ms, 1 ≤ m ∧ m < 10 ^ 9) (h : i ∉ ms) : TL.numL i.toNat ∉ ms.map f := fun z => by
  obtain ⟨m, hm, e⟩ := List.mem_map.mp z
  have hm' := hms m hm
  rw [hf m hm'.1 hm'.2] at e
  have := TL.numL_inj e
  exact h (by rw [show i = m by omega]; exact hm)
mutual
theorem readN (hf : NumF f) (hg : Esc g) : ∀ (d : Nd) (Z : List Nat) (L : List Nd) (ls : List (List Nd)) (ar : List Hd) (ms : List Int) (b : Bool), okN d → ls.length + dN d ≤ 40 → (∀ m ∈ ms ++ nmN d, 1 ≤ m ∧ m < 10 ^ 9) → (ms ++ nmN d).Nodup → (isT d = true → endsOk Z) →
    Steps ⟨pieceG f g d ++ Z, L :: ls, ar, ms.map f, b⟩ ⟨Z, (L ++ [d]) :: ls, ar, (ms ++ nmN d).map f, isT d⟩
  | .tx x, Z, L, ls, ar, ms, b, _, hl, hm, hn, hZ => by
    simp only [pieceG, nmN, List.append_nil, dN] at hl ⊢
    by_cases hx : x = []
    · subst hx
      exact step_empty (by omega)
    · rw [if_neg hx]
      have e : isT (.tx x) = true := by simp [isT, hx]
      rw [e]
      exact step_text hg hx (hZ e) (by omega)
  | .el t as ks, Z, L, ls, ar, ms, b, ho, hl, hm, hn, hZ => by
    simp only [okN] at ho
    simp only [pieceG, nmN, dN] at hl hm hn ⊢
    obtain ⟨h1, h2, h3, h4⟩ := ho
    have e1 : elemL t as (ctG f g false ks) ++ Z = 60 :: (t ++ (as.flatMap pairL ++ 62 :: (ctG f g false ks ++ ([60, 47] ++ t ++ [62] ++ Z)))) := by
      unfold elemL
      simp
    rw [e1]
    refine (step_el h1 h2 h3 (by simp only [List.length_cons]; omega)).trans ?_
    refine (readS hf hg ks false ([60, 47] ++ t ++ [62] ++ Z) [] (L :: ls) (.el t as :: ar) ms h4 (by simp only [List.length_cons]; omega) hm hn (.inr rfl)).trans ?_
    rw [List.nil_append]
    exact step_elE
  | .aw n ks, Z, L, ls, ar, ms, b, ho, hl, hm, hn, hZ => by
    simp only [okN] at ho
    simp only [pieceG, nmN, dN] at hl hm hn ⊢
    cases n with
    | none =>
      simp only [Option.toList_none, List.nil_append] at hm hn ⊢
      have e1 : zA ++ numL f none ++ zB ++ ctG f g false ks ++ zC ++ Z = zA0 ++ (ctG f g false ks ++ (zC ++ Z)) := by simp [numL]
      rw [e1]
      refine (step_aw0 (by simp only [List.length_cons]; omega)).trans ?_
      refine (readS hf hg ks false (zC ++ Z) [] (L :: ls) (.aw none :: ar) ms ho.2 (by simp only [List.length_cons]; omega) hm hn (.inr rfl)).trans ?_
      rw [List.nil_append]
      exact step_awE
    | some i =>
      simp only [Option.toList_some] at hm hn ⊢
      have hi := ho.1 i rfl
      have e1 : zA ++ numL f (some i) ++ zB ++ ctG f g false ks ++ zC ++ Z = zA ++ TL.numL i.toNat ++ zB ++ (ctG f g false ks ++ (zC ++ Z)) := by
        simp [numL, hf i hi.1 hi.2]
      rw [e1]
      have hni : i ∉ ms := fun z => by
        rw [List.nodup_append] at hn
        exact hn.2.2 i z i (by simp) rfl
      have hmm : ∀ m ∈ ms, 1 ≤ m ∧ m < 10 ^ 9 := fun m h => hm m (List.mem_append_left _ h)
      refine (step_awN hi.1 hi.2 (num_ne hf hi hmm hni) (by simp only [List.length_cons]; omega)).trans ?_
      have e2 : ms.map f ++ [TL.numL i.toNat] = (ms ++ [i]).map f := by simp [hf i hi.1 hi.2]
      have e3 : ms ++ ([i] ++ nmS ks) = (ms ++ [i]) ++ nmS ks := by simp
      rw [e3] at hm hn ⊢
      rw [e2]
      refine (readS hf hg ks false (zC ++ Z) [] (L :: ls) (.aw (some i) :: ar) (ms ++ [i]) ho.2 (by simp only [List.length_cons]; omega) hm hn (.inr rfl)).trans ?_
      rw [List.nil_append]
      exact step_awE
theorem readS (hf : NumF f) (hg : Esc g) : ∀ (ks : List Nd) (b : Bool) (Z : List Nat) (L : List Nd) (ls : List (List Nd)) (ar : List Hd) (ms : List Int), okS ks → ls.length + dS ks ≤ 40 → (∀ m ∈ ms ++ nmS ks, 1 ≤ m ∧ m < 10 ^ 9) → (ms ++ nmS ks).Nodup → endsOk Z →
    Steps ⟨ctG f g b ks ++ Z, L :: ls, ar, ms.map f, b⟩ ⟨Z, (L ++ ks) :: ls, ar, (ms ++ nmS ks).map f, lastG b ks⟩
  | [], b, Z, L, ls, ar, ms, _, _, _, _, _ => by
    simp only [ctG, nmS, List.nil_append, List.append_nil, lastG]
    exact .refl _
  | d :: r, b, Z, L, ls, ar, ms, ho, hl, hm, hn, hZ => by
    simp only [okS] at ho
    simp only [nmS, dS] at hl hm hn ⊢
    have e3 : ms ++ (nmN d ++ nmS r) = (ms ++ nmN d) ++ nmS r := by simp
    rw [e3] at hm hn ⊢
    have hm1 : ∀ m ∈ ms ++ nmN d, 1 ≤ m ∧ m < 10 ^ 9 := fun m h => hm m (List.mem_append_left _ h)
    have hn1 : (ms ++ nmN d).Nodup := (List.nodup_append.mp hn).1
    have hZ2 : isT d = true → endsOk (ctG f g (isT d) r ++ Z) := fun e => by rw [e]; exact head_G hZ
    have main : ∀ b', Steps ⟨pieceG f g d ++ (ctG f g (isT d) r ++ Z), L :: ls, ar, ms.map f, b'⟩ ⟨Z, (L ++ (d :: r)) :: ls, ar, ((ms ++ nmN d) ++ nmS r).map f, lastG (isT d) r⟩ := fun b' => by
      refine (readN hf hg d (ctG f g (isT d) r ++ Z) L ls ar ms b' ho.1 (by omega) hm1 hn1 hZ2).trans ?_
      have := readS hf hg r (isT d) Z (L ++ [d]) ls ar (ms ++ nmN d) ho.2 (by omega) hm hn hZ
      rw [List.append_assoc] at this
      exact this
    show Steps ⟨(if b && isT d then zT else []) ++ pieceG f g d ++ ctG f g (isT d) r ++ Z, L :: ls, ar, ms.map f, b⟩ _
    by_cases hb : (b && isT d) = true
    · rw [if_pos hb]
      have e4 : zT ++ pieceG f g d ++ ctG f g (isT d) r ++ Z = zT ++ (pieceG f g d ++ (ctG f g (isT d) r ++ Z)) := by simp
      rw [e4]
      obtain ⟨hb1, hd⟩ := Bool.and_eq_true_iff.mp hb
      subst hb1
      refine (step_between ?_).trans (main false)
      cases d with
      | tx x =>
        have hx : x ≠ [] := by simpa [isT] using hd
        obtain ⟨c, r', e, hc⟩ := tx_hd hg hx
        refine ⟨c, r' ++ (ctG f g (isT (.tx x)) r ++ Z), ?_, hc⟩
        simp only [pieceG]
        rw [if_neg hx, e]
        rfl
      | el t as ks => cases hd
      | aw n ks => cases hd
    · rw [if_neg hb]
      have e4 : [] ++ pieceG f g d ++ ctG f g (isT d) r ++ Z = pieceG f g d ++ (ctG f g (isT d) r ++ Z) := by simp
      rw [e4]
      exact main b
end
theorem read_tree (hf : NumF f) (hg : Esc g) {ks : List Nd} (ho : okS ks) (hl : dS ks ≤ 40) (hm : ∀ m ∈ nmS ks, 1 ≤ m ∧ m < 10 ^ 9) (hn : (nmS ks).Nodup) : readT (ctG f g false ks) = .ok ks := by
  have h := readS hf hg ks false [] [] [] [] [] ho (by simpa using hl) (by simpa using hm) (by simpa using hn) (.inl rfl)
  rw [List.append_nil, List.nil_append, List.nil_append] at h
  have := h.run rfl _ (Nat.le_refl _)
  unfold readT s0
  show (match runR (ctG f g false ks).length ⟨ctG f g false ks, [[]], [], [], false⟩ with | .error k => _ | .ok s => _) = _
  rw [show runR (ctG f g false ks).length ⟨ctG f g false ks, [[]], [], [], false⟩ = _ from this]
  rfl
end
end VL

set_option linter.all false
set_option maxRecDepth 100000
namespace VL
open PySem PySem.Spec PyProof.Rows L2
/-! ### &gt; written as > -/
abbrev rG (l : List Nat) : List Nat := StrLaws.replL zGt [62] l
theorem rG_c {c : Nat} {r : List Nat} (h : c ≠ 38) : rG (c :: r) = c :: rG r := by
  unfold rG
  rw [StrLaws.replL_miss (fun e => absurd e (by simp [h]))]
theorem rG_w : ∀ (w r : List Nat), 38 ∉ w → rG (w ++ r) = w ++ rG r
  | [], r, _ => rfl
  | c :: w, r, h => by
    rw [List.cons_append, rG_c (fun e => h (by rw [e]; exact List.mem_cons_self)), rG_w w r fun z => h (List.mem_cons_of_mem _ z)]
    rfl
theorem rG_hit (r : List Nat) : rG (zGt ++ r) = 62 :: rG r := by
  unfold rG
  show StrLaws.replL zGt [62] (38 :: ([103, 116, 59] ++ r)) = _
  rw [StrLaws.replL_hit (by simp) (by simp)]
  rfl
theorem rG_38 {c : Nat} {r : List Nat} (h : c ≠ 103) : rG (38 :: c :: r) = 38 :: rG (c :: r) := by
  unfold rG
  rw [StrLaws.replL_miss (fun e => absurd e (by simp [h]))]
theorem rG_esc {c : Nat} {w r : List Nat} (h : c ≠ 103) (hc : c ≠ 38) (hw : 38 ∉ w) : rG ((38 :: c :: w) ++ r) = (38 :: c :: w) ++ rG r := by
  show rG (38 :: c :: (w ++ r)) = _
  rw [rG_38 h, rG_c hc, rG_w w r hw]
  rfl
theorem rG_T : ∀ (x r : List Nat), rG (x.flatMap gT ++ r) = x.flatMap gU ++ rG r
  | [], r => rfl
  | d :: x, r => by
    rw [List.flatMap_cons, List.flatMap_cons, List.append_assoc, List.append_assoc, ← rG_T x r]
    unfold gT gU
    by_cases h1 : d = 38
    · rw [if_pos h1, if_pos h1]
      exact rG_esc (c := 97) (w := [109, 112, 59]) (by decide) (by decide) (by decide)
    by_cases h2 : d = 60
    · rw [if_neg h1, if_pos h2, if_neg h1, if_pos h2]
      exact rG_esc (c := 108) (w := [116, 59]) (by decide) (by decide) (by decide)
    by_cases h3 : d = 62
    · rw [if_neg h1, if_neg h2, if_pos h3, if_neg h1, if_neg h2, h3]
      exact rG_hit _
    · rw [if_neg h1, if_neg h2, if_neg h3, if_neg h1, if_neg h2]
      exact rG_c h1
theorem rG_V : ∀ (x r : List Nat), rG (x.flatMap gV ++ r) = x.flatMap gV ++ rG r
  | [], r => rfl
  | d :: x, r => by
    rw [List.flatMap_cons, List.append_assoc, List.append_assoc, ← rG_V x r]
    unfold gV
    by_cases h1 : d = 38
    · rw [if_pos h1]
      exact rG_esc (c := 97) (w := [109, 112, 59]) (by decide) (by decide) (by decide)
    by_cases h2 : d = 60
    · rw [if_neg h1, if_pos h2]
      exact rG_esc (c := 108) (w := [116, 59]) (by decide) (by decide) (by decide)
    by_cases h3 : d = 34
    · rw [if_neg h1, if_neg h2, if_pos h3]
      exact rG_esc (c := 113) (w := [117, 111, 116, 59]) (by decide) (by decide) (by decide)
    · rw [if_neg h1, if_neg h2, if_neg h3]
      exact rG_c h1
theorem w38 {t : List Nat} (h : wOk t) : 38 ∉ t := fun z => absurd (h.2 38 z) (by decide)
theorem rG_pairs : ∀ (as : List (List Nat × List Nat)) (r : List Nat), (∀ a ∈ as, wOk a.1) → rG (as.flatMap pairL ++ r) = as.flatMap pairL ++ rG r
  | [], r, _ => rfl
  | a :: as, r, h => by
    rw [List.flatMap_cons, List.append_assoc, List.append_assoc, ← rG_pairs as r fun b hb => h b (List.mem_cons_of_mem _ hb), pair_eq, pair_eq, rG_c (by decide), rG_w _ _ (w38 (h a List.mem_cons_self)), rG_w [61, 34] _ (by decide), rG_V, rG_c (by decide)]
section
variable {f : Int → List Nat}
mutual
theorem rG_N (hf : ∀ i, 1 ≤ i → i < 10 ^ 9 → 38 ∉ f i) : ∀ (d : Nd) (r : List Nat), okN d → rG (pieceG f gT d ++ r) = pieceG f gU d ++ rG r
  | .tx x, r, _ => by
    simp only [pieceG]
    by_cases h : x = []
    · rw [if_pos h, if_pos h]
      exact rG_w _ _ (by decide)
    · rw [if_neg h, if_neg h]
      exact rG_T x r
  | .el t as ks, r, ho => by
    simp only [okN] at ho
    obtain ⟨h1, h2, h3, h4⟩ := ho
    simp only [pieceG]
    have e1 : ∀ (i r : List Nat), elemL t as i ++ r = [60] ++ (t ++ (as.flatMap pairL ++ ([62] ++ (i ++ ([60, 47] ++ (t ++ ([62] ++ r))))))) := fun i r => by
      unfold elemL
      simp
    rw [e1, e1, rG_w _ _ (by decide), rG_w _ _ (w38 h1), rG_pairs _ _ h3, rG_w [62] _ (by decide), rG_S hf false ks _ h4, rG_w [60, 47] _ (by decide), rG_w _ _ (w38 h1), rG_w [62] _ (by decide)]
  | .aw n ks, r, ho => by
    simp only [okN] at ho
    simp only [pieceG]
    have hn : 38 ∉ numL f n := by
      cases n with
      | none => simp [numL]
      | some i => exact hf i (ho.1 i rfl).1 (ho.1 i rfl).2
    have e1 : ∀ (i r : List Nat), zA ++ numL f n ++ zB ++ i ++ zC ++ r = zA ++ (numL f n ++ (zB ++ (i ++ (zC ++ r)))) := fun i r => by simp
    rw [e1, e1, rG_w _ _ (by decide), rG_w _ _ hn, rG_w zB _ (by decide), rG_S hf false ks _ ho.2, rG_w zC _ (by decide)]
theorem rG_S (hf : ∀ i, 1 ≤ i → i < 10 ^ 9 → 38 ∉ f i) : ∀ (b : Bool) (ks : List Nd) (r : List Nat), okS ks → rG (ctG f gT b ks ++ r) = ctG f gU b ks ++ rG r
  | b, [], r, _ => by simp only [ctG, List.nil_append]
  | b, d :: ks, r, ho => by
    simp only [okS] at ho
    simp only [ctG]
    have e1 : ∀ (w p q r : List Nat), w ++ p ++ q ++ r = w ++ (p ++ (q ++ r)) := fun w p q r => by simp
    rw [e1, e1, rG_w _ _ (by split <;> decide), rG_N hf d _ ho.1, rG_S hf (isT d) ks r ho.2]
end
end
theorem repl_gt {f : Int → List Nat} (hf : ∀ i, 1 ≤ i → i < 10 ^ 9 → 38 ∉ f i) {ks : List Nd} (ho : okS ks) : Txt.replace (TX (ctG f gT false ks)) (TX zGt) (TX [62]) = TX (ctG f gU false ks) := by
  have h := StrLaws.replace_list (x := TX (ctG f gT false ks)) (y := TX zGt) (z := TX [62]) (by rw [TX_len]; decide)
  rw [TX_tl, TX_tl, TX_tl] at h
  have e : StrLaws.replL zGt [62] (ctG f gT false ks) = ctG f gU false ks := by
    have := rG_S hf false ks [] ho
    unfold rG at this
    rw [List.append_nil, StrLaws.replL_nil, List.append_nil] at this
    exact this
  rw [e] at h
  calc Txt.replace (TX (ctG f gT false ks)) (TX zGt) (TX [62]) = TX (Txt.replace (TX (ctG f gT false ks)) (TX zGt) (TX [62])).cps.toList := by simp
    _ = _ := by rw [h]
theorem esc_T : Esc gT := ⟨back_T, fun d => by
  unfold gT
  by_cases h1 : d = 38
  · exact ⟨38, _, by rw [if_pos h1], by decide⟩
  by_cases h2 : d = 60
  · exact ⟨38, _, by rw [if_neg h1, if_pos h2], by decide⟩
  by_cases h3 : d = 62
  · exact ⟨38, _, by rw [if_neg h1, if_neg h2, if_pos h3], by decide⟩
  · exact ⟨d, _, by rw [if_neg h1, if_neg h2, if_neg h3], h2⟩⟩
theorem esc_U : Esc gU := ⟨back_U, fun d => by
  unfold gU
  by_cases h1 : d = 38
  · exact ⟨38, _, by rw [if_pos h1], by decide⟩
  by_cases h2 : d = 60
  · exact ⟨38, _, by rw [if_neg h1, if_pos h2], by decide⟩
  · exact ⟨d, _, by rw [if_neg h1, if_neg h2], h2⟩⟩
end VL

set_option linter.all false
set_option maxRecDepth 100000
namespace VL
open PySem PySem.Spec PyProof.Rows L2
/-! ### what the reader's pieces do when they do not fail; bounds -/
theorem startR_ok {s s' : RS} (h : startR s = .ok s') : s.ls.length ≤ 40 ∧ ∃ as R', attsR s.R.length [] (wordR s.R.tail).2 = .ok (as, R') ∧ s' = ⟨R', [] :: s.ls, .el (wordR s.R.tail).1 as :: s.ar, s.ns, false⟩ := by
  unfold startR at h
  by_cases c : 40 < s.ls.length
  · rw [if_pos c] at h
    cases h
  · rw [if_neg c] at h
    refine ⟨by omega, ?_⟩
    cases e : attsR s.R.length [] (wordR s.R.tail).2 with
    | error k => rw [e] at h; cases h
    | ok p =>
      obtain ⟨as, R'⟩ := p
      rw [e] at h
      cases h
      exact ⟨as, R', rfl, rfl⟩
theorem endR_ok {s s' : RS} (h : endR s = .ok s') : ∃ t as ar, s.ar = .el t as :: ar ∧ sd ([60, 47] ++ t ++ [62]) s.R = some true ∧ s' = popN s (s.R.drop (t.length + 3)) := by
  unfold endR at h
  cases e : s.ar with
  | nil => rw [e] at h; cases h
  | cons x ar =>
    rw [e] at h
    cases x with
    | aw n => cases h
    | el t as =>
      simp only at h
      cases e2 : sd ([60, 47] ++ t ++ [62]) s.R with
      | none => rw [e2] at h; cases h
      | some b =>
        rw [e2] at h
        cases b with
        | false => cases h
        | true => cases h; exact ⟨t, as, ar, rfl, e2, rfl⟩
theorem waitR_ok {s s' : RS} (h : waitR s = .ok s') : sd zA s.R = some true ∧ (s.R.drop 5).takeWhile isDi ≠ [] ∧ sd zB ((s.R.drop 5).dropWhile isDi) = some true ∧ ((s.R.drop 5).takeWhile isDi).head? ≠ some 48 ∧ ((s.R.drop 5).takeWhile isDi).length ≤ 9 ∧
    (s.R.drop 5).takeWhile isDi ∉ s.ns ∧ s.ls.length ≤ 40 ∧ s' = ⟨((s.R.drop 5).dropWhile isDi).drop 3, [] :: s.ls, .aw (some ((NumText.digitsVal ((s.R.drop 5).takeWhile isDi) : Nat) : Int)) :: s.ar, s.ns ++ [(s.R.drop 5).takeWhile isDi], false⟩ := by
  unfold waitR at h
  cases e1 : sd zA s.R with
  | none => rw [e1] at h; cases h
  | some b =>
    rw [e1] at h
    cases b with
    | false => cases h
    | true =>
      simp only at h
      by_cases c1 : (s.R.drop 5).takeWhile isDi = []
      · rw [if_pos c1] at h; cases h
      · rw [if_neg c1] at h
        cases e2 : sd zB ((s.R.drop 5).dropWhile isDi) with
        | none => rw [e2] at h; cases h
        | some b =>
          rw [e2] at h
          cases b with
          | false => cases h
          | true =>
            simp only at h
            by_cases c2 : ((s.R.drop 5).takeWhile isDi).head? = some 48 ∨ 9 < ((s.R.drop 5).takeWhile isDi).length ∨ (s.R.drop 5).takeWhile isDi ∈ s.ns
            · rw [if_pos c2] at h; cases h
            · rw [if_neg c2] at h
              by_cases c3 : 40 < s.ls.length
              · rw [if_pos c3] at h; cases h
              · rw [if_neg c3] at h
                cases h
                exact ⟨rfl, c1, rfl, fun z => c2 (.inl z), Nat.le_of_not_lt fun z => c2 (.inr (.inl z)), fun z => c2 (.inr (.inr z)), by omega, rfl⟩
/-- the first mark that stands there -/
inductive CommC (s s' : RS) : Prop
  | e (h : sd zE s.R = some true) (hl : s.ls.length ≤ 40) (e : s' = ⟨s.R.drop 8, push (.tx []) s.ls, s.ar, s.ns, false⟩)
  | t (h0 : sd zE s.R = some false) (h : sd zT s.R = some true) (hb : s.bh = true) (h1 : (s.R.drop 8).head? ≠ none) (h2 : (s.R.drop 8).head? ≠ some 60) (e : s' = ⟨s.R.drop 8, s.ls, s.ar, s.ns, false⟩)
  | a (h0 : sd zE s.R = some false) (h1 : sd zT s.R = some false) (h : sd zA0 s.R = some true) (hl : s.ls.length ≤ 40) (e : s' = ⟨s.R.drop 8, [] :: s.ls, .aw none :: s.ar, s.ns, false⟩)
  | c (h0 : sd zE s.R = some false) (h1 : sd zT s.R = some false) (h2 : sd zA0 s.R = some false) (h : sd zC s.R = some true) (n : Option Int) (ar : List Hd) (ha : s.ar = .aw n :: ar) (e : s' = popN s (s.R.drop 8))
  | w (h0 : sd zE s.R = some false) (h1 : sd zT s.R = some false) (h2 : sd zA0 s.R = some false) (h3 : sd zC s.R = some false) (h : waitR s = .ok s')
theorem commR_ok {s s' : RS} (h : commR s = .ok s') : CommC s s' := by
  unfold commR at h
  cases e1 : sd zE s.R with
  | none => rw [e1] at h; cases h
  | some b =>
    rw [e1] at h
    cases b with
    | true =>
      simp only at h
      by_cases c3 : 40 < s.ls.length
      · rw [if_pos c3] at h; cases h
      · rw [if_neg c3] at h
        cases h
        exact .e e1 (by omega) rfl
    | false =>
      simp only at h
      cases e2 : sd zT s.R with
      | none => rw [e2] at h; cases h
      | some b =>
        rw [e2] at h
        cases b with
        | true =>
          simp only at h
          by_cases c3 : s.bh = false ∨ (s.R.drop 8).head? = none ∨ (s.R.drop 8).head? = some 60
          · rw [if_pos c3] at h; cases h
          · rw [if_neg c3] at h
            cases h
            refine .t e1 e2 ?_ (fun z => c3 (.inr (.inl z))) (fun z => c3 (.inr (.inr z))) rfl
            cases hb : s.bh with
            | true => rfl
            | false => exact absurd (.inl hb) c3
        | false =>
          simp only at h
          cases e3 : sd zA0 s.R with
          | none => rw [e3] at h; cases h
          | some b =>
            rw [e3] at h
            cases b with
            | true =>
              simp only at h
              by_cases c3 : 40 < s.ls.length
              · rw [if_pos c3] at h; cases h
              · rw [if_neg c3] at h
                cases h
                exact .a e1 e2 e3 (by omega) rfl
            | false =>
              simp only at h
              cases e4 : sd zC s.R with
              | none => rw [e4] at h; cases h
              | some b =>
                rw [e4] at h
                cases b with
                | true =>
                  simp only at h
                  cases ea : s.ar with
                  | nil => rw [ea] at h; cases h
                  | cons x ar =>
                    rw [ea] at h
                    cases x with
                    | el t as => cases h
                    | aw n => cases h; exact .c e1 e2 e3 e4 n ar ea rfl
                | false => exact .w e1 e2 e3 e4 h
/-- a piece that is read -/
inductive PieceC (s s' : RS) : Prop
  | x (h : s.R.head? ≠ some 60) (hl : s.ls.length ≤ 40) (l R' : List Nat) (ht : takeS 60 s.R.length s.R = .ok (l, R')) (e : s' = ⟨R', push (.tx l) s.ls, s.ar, s.ns, true⟩)
  | s (X : List Nat) (hR : s.R = 60 :: X) (h : hdSm X = true) (hs : startR s = .ok s')
  | e (X : List Nat) (hR : s.R = 60 :: X) (h : hdSm X = false) (h2 : sd [60, 47] s.R = some true) (hs : endR s = .ok s')
  | c (X : List Nat) (hR : s.R = 60 :: X) (h : hdSm X = false) (h2 : sd [60, 47] s.R = some false) (hs : commR s = .ok s')
theorem piece_ok {s s' : RS} (h : piece s = .ok s') : PieceC s s' := by
  by_cases c : s.R.head? = some 60
  · cases hR : s.R with
    | nil => rw [hR] at c; cases c
    | cons d X =>
      rw [hR] at c
      cases c
      cases hh : hdSm X with
      | true =>
        unfold piece at h
        rw [if_neg (by rw [hR]; simp), if_pos (by rw [hR]; exact hh)] at h
        exact .s X hR hh h
      | false =>
        rw [piece_lt hR hh] at h
        cases e : sd [60, 47] s.R with
        | none => rw [e] at h; cases h
        | some b =>
          rw [e] at h
          cases b with
          | true => exact .e X hR hh e h
          | false => exact .c X hR hh e h
  · unfold piece at h
    rw [if_pos c] at h
    by_cases c3 : 40 < s.ls.length
    · rw [if_pos c3] at h; cases h
    · rw [if_neg c3] at h
      cases e : takeS 60 s.R.length s.R with
      | error k => rw [e] at h; cases h
      | ok p =>
        obtain ⟨l, R'⟩ := p
        rw [e] at h
        cases h
        exact .x c (by omega) l R' e rfl
/-- bounds of a reader behind n signs -/
structure Bd (n : Nat) (s : RS) : Prop where
  l : ∀ ks ∈ s.ls, ks.length ≤ n
  d : s.ls.length ≤ 41
  a : s.ls.length = s.ar.length + 1
  n : s.ns.length ≤ n
theorem push_len {d : Nd} {ls : List (List Nd)} : (push d ls).length = ls.length := by cases ls <;> rfl
theorem push_mem {d : Nd} {n : Nat} {ls : List (List Nd)} (h : ∀ ks ∈ ls, ks.length ≤ n) : ∀ ks ∈ push d ls, ks.length ≤ n + 1 := by
  cases ls with
  | nil => intro ks hk; cases hk
  | cons l r =>
    intro ks hk
    rcases List.mem_cons.mp hk with rfl | hk
    · have := h l List.mem_cons_self
      simp
      omega
    · have := h ks (List.mem_cons_of_mem _ hk)
      omega
theorem Bd.push {n : Nat} {s : RS} {d : Nd} {R : List Nat} {b : Bool} (h : Bd n s) : Bd (n + 1) ⟨R, VL.push d s.ls, s.ar, s.ns, b⟩ :=
  ⟨push_mem h.l, by rw [push_len]; exact h.d, by rw [push_len]; exact h.a, Nat.le_succ_of_le h.n⟩
theorem Bd.op {n : Nat} {s : RS} {x : Hd} {w : List (List Nat)} {R : List Nat} {b : Bool} (h : Bd n s) (hl : s.ls.length ≤ 40) (hw : w.length ≤ 1) : Bd (n + 1) ⟨R, [] :: s.ls, x :: s.ar, s.ns ++ w, b⟩ := by
  refine ⟨fun ks hk => ?_, by simp only [List.length_cons]; omega, by simp only [List.length_cons]; rw [h.a], by have := h.n; simp only [List.length_append]; omega⟩
  rcases List.mem_cons.mp hk with rfl | hk
  · exact Nat.zero_le _
  · exact Nat.le_succ_of_le (h.l ks hk)
theorem Bd.pop {n : Nat} {s : RS} {R : List Nat} (h : Bd n s) : Bd (n + 1) (popN s R) := by
  obtain ⟨R0, ls, ar, ns, b⟩ := s
  cases ls with
  | nil => exact ⟨(fun ks hk => nomatch hk), Nat.zero_le _, h.a, Nat.le_succ_of_le h.n⟩
  | cons ks ls =>
    cases ar with
    | nil => exact ⟨fun k hk => Nat.le_succ_of_le (h.l k hk), h.d, h.a, Nat.le_succ_of_le h.n⟩
    | cons x ar =>
      have a := h.a
      have d := h.d
      refine ⟨push_mem fun k hk => h.l k (List.mem_cons_of_mem _ hk), ?_, ?_, Nat.le_succ_of_le h.n⟩
      · show (VL.push _ ls).length ≤ 41
        rw [push_len]
        simp only [List.length_cons] at d
        omega
      · show (VL.push _ ls).length = ar.length + 1
        rw [push_len]
        simp only [List.length_cons] at a
        omega
theorem Bd.up {n m : Nat} {s : RS} (h : Bd n s) (k : n ≤ m) : Bd m s := ⟨fun ks hk => Nat.le_trans (h.l ks hk) k, h.d, h.a, Nat.le_trans h.n k⟩
theorem Bd.piece {n : Nat} {s s' : RS} (h : Bd n s) (hp : piece s = .ok s') : Bd (n + 1) s' := by
  cases piece_ok hp with
  | x c hl l R' ht e => subst e; exact h.push
  | s X hR c hs =>
    obtain ⟨hl, as, R', _, rfl⟩ := startR_ok hs
    have := h.op (x := .el (wordR s.R.tail).1 as) (w := []) (R := R') (b := false) hl (Nat.zero_le _)
    rwa [List.append_nil] at this
  | e X hR c h2 hs =>
    obtain ⟨t, as, ar, _, _, rfl⟩ := endR_ok hs
    exact h.pop
  | c X hR c h2 hs =>
    cases commR_ok hs with
    | e _ hl e => subst e; exact h.push
    | t _ _ _ _ _ e => subst e; exact ⟨fun k hk => Nat.le_succ_of_le (h.l k hk), h.d, h.a, Nat.le_succ_of_le h.n⟩
    | a _ _ _ hl e =>
      subst e
      have := h.op (x := .aw none) (w := []) (R := s.R.drop 8) (b := false) hl (Nat.zero_le _)
      rwa [List.append_nil] at this
    | c _ _ _ _ n ar ha e => subst e; exact h.pop
    | w _ _ _ _ hw =>
      obtain ⟨_, _, _, _, _, _, hl, rfl⟩ := waitR_ok hw
      exact h.op hl (Nat.le_refl _)
end VL

set_option Elab.async false
set_option linter.all false
set_option maxRecDepth 100000
set_option maxHeartbeats 4000000
namespace VL
open PySem PySem.Spec PyProof.Rows L2

def top (i : Nat) : Stmt := PySem.Challenge.pw_viewloom_k71_forty_levels.main.body.getD i (.Pass ⟨0, 0, 0, 0⟩)
abbrev s_InvalidDocument___init__ : Stmt := inClass (top 2) 0
abbrev s_is_digit : Stmt := top 4
abbrev s_read_tree : Stmt := top 16
abbrev s_is_small_letter : Stmt := top 17
abbrev s_is_word_sign : Stmt := top 18
abbrev s_TreeReader___init__ : Stmt := inClass (top 19) 0
abbrev s_TreeReader_fail : Stmt := inClass (top 19) 1
abbrev s_TreeReader_sign_at : Stmt := inClass (top 19) 2
abbrev s_TreeReader_stands : Stmt := inClass (top 19) 3
abbrev s_TreeReader_check_level : Stmt := inClass (top 19) 4
abbrev s_TreeReader_join_text : Stmt := inClass (top 19) 5
abbrev s_TreeReader_begin_node : Stmt := inClass (top 19) 6
abbrev s_TreeReader_end_node : Stmt := inClass (top 19) 7
abbrev s_TreeReader_read_piece : Stmt := inClass (top 19) 8
abbrev s_TreeReader_take_signs : Stmt := inClass (top 19) 9
abbrev s_TreeReader_escaped : Stmt := inClass (top 19) 10
abbrev s_TreeReader_word_end : Stmt := inClass (top 19) 11
abbrev s_TreeReader_read_start : Stmt := inClass (top 19) 12
abbrev s_TreeReader_take_attribute : Stmt := inClass (top 19) 13
abbrev s_TreeReader_read_end : Stmt := inClass (top 19) 14
abbrev s_TreeReader_read_comment : Stmt := inClass (top 19) 15
abbrev s_TreeReader_read_waiting : Stmt := inClass (top 19) 16
abbrev s_write_tree : Stmt := top 24
abbrev s_written_text : Stmt := top 25
abbrev s_written_value : Stmt := top 26
abbrev s_written_element : Stmt := top 27
abbrev s__law_rows : Stmt := top 29
abbrev s__law_chain : Stmt := top 30
abbrev s__law_depth : Stmt := top 31
abbrev s__law_opened : Stmt := top 32
abbrev s_law : Stmt := top 33
structure Ad where
  u0 : Unit
  TreeReader : Addr
  InvalidDocument : Addr
structure Txt (K : PySem.W.Frag) (w : World) (mg : Str → Option Value) (C : Ad) : Prop where
  g_TreeReader : GV mg "TreeReader" (.ref C.TreeReader)
  cl_TreeReader : Cls K C.TreeReader
  n_TreeReader_text : NoAttr K C.TreeReader "text"
  n_TreeReader_at : NoAttr K C.TreeReader "at"
  n_TreeReader_lists : NoAttr K C.TreeReader "lists"
  n_TreeReader_around : NoAttr K C.TreeReader "around"
  n_TreeReader_numbers : NoAttr K C.TreeReader "numbers"
  n_TreeReader_is_behind_text : NoAttr K C.TreeReader "is_behind_text"
  z_int : mg "int" = none
  z_len : mg "len" = none
  z_max : mg "max" = none
  z_range : mg "range" = none
  z_str : mg "str" = none
  g_LOWEST_LEVEL : GV mg "LOWEST_LEVEL" (V.int 40)
  g_MOST_DIGITS : GV mg "MOST_DIGITS" (V.int 9)
  g_ESCAPES : ∃ a a0 a1 a2 a3, GV mg "ESCAPES" (.ref a) ∧ (∀ H, SqT K H a [.ref a0, .ref a1, .ref a2, .ref a3]) ∧ (∀ H, SqT K H a0 [(V.str "&amp;"), (V.str "&")]) ∧ (∀ H, SqT K H a1 [(V.str "&lt;"), (V.str "<")]) ∧ (∀ H, SqT K H a2 [(V.str "&gt;"), (V.str ">")]) ∧ (∀ H, SqT K H a3 [(V.str "&quot;"), (V.str "\"")])
  g_EMPTY_TEXT_reading : GV mg "EMPTY_TEXT_reading" (V.str "<!--e-->")
  g_BETWEEN_TEXTS_reading : GV mg "BETWEEN_TEXTS_reading" (V.str "<!--t-->")
  g_AWAIT_BEGIN : GV mg "AWAIT_BEGIN" (V.str "<!--[-->")
  g_AWAIT_END_reading : GV mg "AWAIT_END_reading" (V.str "<!--]-->")
  g_WAITING_BEGIN : GV mg "WAITING_BEGIN" (V.str "<!--[")
  g_COMMENT_END : GV mg "COMMENT_END" (V.str "-->")
  g_VALUE_BEGIN : GV mg "VALUE_BEGIN" (V.str "=\"")
  g_EMPTY_TEXT_writing : GV mg "EMPTY_TEXT_writing" (V.str "<!--e-->")
  g_BETWEEN_TEXTS_writing : GV mg "BETWEEN_TEXTS_writing" (V.str "<!--t-->")
  g_AWAIT_END_writing : GV mg "AWAIT_END_writing" (V.str "<!--]-->")
  d_is_digit : DefE K mg "is_digit" s_is_digit ["sign"]
  d_read_tree : DefE K mg "read_tree" s_read_tree ["text"]
  d_is_small_letter : DefE K mg "is_small_letter" s_is_small_letter ["sign"]
  d_is_word_sign : DefE K mg "is_word_sign" s_is_word_sign ["sign"]
  i_TreeReader : InitE K mg "TreeReader" C.TreeReader "TreeReader.__init__" s_TreeReader___init__ ["self", "text"]
  m_TreeReader_fail : MethE K C.TreeReader "fail" "TreeReader.fail" s_TreeReader_fail ["self", "at"]
  m_TreeReader_sign_at : MethE K C.TreeReader "sign_at" "TreeReader.sign_at" s_TreeReader_sign_at ["self", "at"]
  m_TreeReader_stands : MethE K C.TreeReader "stands" "TreeReader.stands" s_TreeReader_stands ["self", "mark", "at"]
  m_TreeReader_check_level : MethE K C.TreeReader "check_level" "TreeReader.check_level" s_TreeReader_check_level ["self", "at"]
  m_TreeReader_join_text : MethE K C.TreeReader "join_text" "TreeReader.join_text" s_TreeReader_join_text ["self", "text"]
  m_TreeReader_begin_node : MethE K C.TreeReader "begin_node" "TreeReader.begin_node" s_TreeReader_begin_node ["self", "node"]
  m_TreeReader_end_node : MethE K C.TreeReader "end_node" "TreeReader.end_node" s_TreeReader_end_node ["self"]
  m_TreeReader_read_piece : MethE K C.TreeReader "read_piece" "TreeReader.read_piece" s_TreeReader_read_piece ["self"]
  m_TreeReader_take_signs : MethE K C.TreeReader "take_signs" "TreeReader.take_signs" s_TreeReader_take_signs ["self", "at", "end"]
  m_TreeReader_escaped : MethE K C.TreeReader "escaped" "TreeReader.escaped" s_TreeReader_escaped ["self", "at"]
  m_TreeReader_word_end : MethE K C.TreeReader "word_end" "TreeReader.word_end" s_TreeReader_word_end ["self", "at"]
  m_TreeReader_read_start : MethE K C.TreeReader "read_start" "TreeReader.read_start" s_TreeReader_read_start ["self", "at"]
  m_TreeReader_take_attribute : MethE K C.TreeReader "take_attribute" "TreeReader.take_attribute" s_TreeReader_take_attribute ["self", "names"]
  m_TreeReader_read_end : MethE K C.TreeReader "read_end" "TreeReader.read_end" s_TreeReader_read_end ["self", "at"]
  m_TreeReader_read_comment : MethE K C.TreeReader "read_comment" "TreeReader.read_comment" s_TreeReader_read_comment ["self", "at"]
  m_TreeReader_read_waiting : MethE K C.TreeReader "read_waiting" "TreeReader.read_waiting" s_TreeReader_read_waiting ["self", "at"]
  d_write_tree : DefE K mg "write_tree" s_write_tree ["nodes"]
  d_written_text : DefE K mg "written_text" s_written_text ["text"]
  d_written_value : DefE K mg "written_value" s_written_value ["text"]
  d_written_element : DefE K mg "written_element" s_written_element ["node", "inner"]
  d__law_rows : DefE K mg "_law_rows" s__law_rows ["script", "count"]
  d__law_chain : DefE K mg "_law_chain" s__law_chain ["rows", "many", "inner"]
  d__law_depth : DefE K mg "_law_depth" s__law_depth ["nodes"]
  d__law_opened : DefE K mg "_law_opened" s__law_opened ["text", "count"]
structure TxtE (P : Program) (K : PySem.W.Frag) (w : World) (mg : Str → Option Value) (C : Ad) : Prop where
  t : Txt K w mg C
  xi_InvalidDocument : ExI P K mg "InvalidDocument" "InvalidDocument.__init__" C.InvalidDocument s_InvalidDocument___init__ ["self", "line", "column"] ["line", "column"]
end VL

set_option Elab.async false
set_option linter.all false
set_option maxRecDepth 100000
set_option maxHeartbeats 4000000
namespace VL
open PySem PySem.Spec PyProof.Rows L2
theorem Sm.new {t : Addr} {o : HO} {H : Hp} (h : H t = none) : Same H (upd H t o) := fun b u e => by rw [upd_ne (ne_of_none e h)]; exact e
def spFalse : Sp := fun _ _ _ _ => False
/-! ### trees as data -/
def nV : Option Int → PyData
  | none => .none
  | some i => .int i
def pairD (a : List Nat × List Nat) : PyData := .tuple [.str (TX a.1), .str (TX a.2)]
mutual
def encN : Nd → PyData
  | .tx x => .tuple [.str "text", .str (TX x)]
  | .el t as ks => .tuple [.str "element", .str (TX t), .list (as.map pairD), .list (encS ks)]
  | .aw n ks => .tuple [.str "await", nV n, .list (encS ks)]
def encS : List Nd → List PyData
  | [] => []
  | d :: r => encN d :: encS r
end
theorem encS_map : ∀ ks : List Nd, encS ks = ks.map encN
  | [] => by simp [encS]
  | d :: r => by simp [encS, encS_map r]
abbrev TreeA (H : Hp) (a : Addr) (ks : List Nd) : Prop := Dq H (.ref a) (.list (encS ks))
theorem tree_mk {H : Hp} {a : Addr} {xs : List V} {ks : List Nd} (h : H a = some (.lst xs)) (d : DqAll H xs (encS ks)) : TreeA H a ks := .lst h d
theorem encS_len (ks : List Nd) : (encS ks).length = ks.length := by rw [encS_map, List.length_map]
theorem encS_app (a b : List Nd) : encS (a ++ b) = encS a ++ encS b := by simp [encS_map]
theorem tree_at {H : Hp} {a : Addr} {ks : List Nd} (h : TreeA H a ks) : ∃ xs, H a = some (.lst xs) ∧ xs.length = ks.length ∧ DqAll H xs (encS ks) := by
  obtain ⟨b, xs, e, h1, h2⟩ := dq_list h
  cases e
  exact ⟨xs, h1, by rw [h2.len, encS_len], h2⟩
theorem node_at {H : Hp} {xs : List V} {ks : List Nd} (h : DqAll H xs (encS ks)) {i : Nat} {x : V} (hx : xs[i]? = some x) : ∃ d, ks[i]? = some d ∧ Dq H x (encN d) := by
  have hl := h.len
  rw [encS_len] at hl
  have hi : i < ks.length := by
    have := (List.getElem?_eq_some_iff.mp hx).1
    omega
  refine ⟨ks[i], List.getElem?_eq_getElem hi, ?_⟩
  have e : (encS ks)[i]? = some (encN ks[i]) := by rw [encS_map, List.getElem?_map, List.getElem?_eq_getElem hi]; rfl
  obtain ⟨v, h1, h2⟩ := dqAll_at h e
  rw [hx] at h1
  cases h1
  exact h2
theorem dq_str {H : Hp} {v : V} {x : Str} (h : Dq H v (.str x)) : v = .str x := by cases h; rfl
theorem n_tx {H : Hp} {v : V} {x : List Nat} (h : Dq H v (encN (.tx x))) : ∃ q, v = .ref q ∧ H q = some (.tup [.str "text", .str (TX x)]) := by
  obtain ⟨q, xs, rfl, h1, h2⟩ := dq_tup h
  cases h2 with
  | cons a b => cases b with
    | cons b c => cases c; rw [dq_str a, dq_str b] at h1; exact ⟨q, rfl, h1⟩
theorem n_el {H : Hp} {v : V} {t : List Nat} {as : List (List Nat × List Nat)} {ks : List Nd} (h : Dq H v (encN (.el t as ks))) : ∃ q pa pk, v = .ref q ∧ H q = some (.tup [.str "element", .str (TX t), .ref pa, .ref pk]) ∧ Dq H (.ref pa) (.list (as.map pairD)) ∧ TreeA H pk ks := by
  obtain ⟨q, xs, rfl, h1, h2⟩ := dq_tup h
  cases h2 with
  | cons a b => cases b with
    | cons b c => cases c with
      | cons c d => cases d with
        | cons d e =>
          cases e
          obtain ⟨pa, _, rfl, _, _⟩ := dq_list c
          obtain ⟨pk, _, rfl, _, _⟩ := dq_list d
          rw [dq_str a, dq_str b] at h1
          exact ⟨q, pa, pk, rfl, h1, c, d⟩
def nVV : Option Int → V
  | none => .non
  | some i => .int i
theorem n_aw {H : Hp} {v : V} {n : Option Int} {ks : List Nd} (h : Dq H v (encN (.aw n ks))) : ∃ q pk, v = .ref q ∧ H q = some (.tup [.str "await", nVV n, .ref pk]) ∧ TreeA H pk ks := by
  obtain ⟨q, xs, rfl, h1, h2⟩ := dq_tup h
  cases h2 with
  | cons a b => cases b with
    | cons b c => cases c with
      | cons c d =>
          cases d
          obtain ⟨pk, _, rfl, _, _⟩ := dq_list c
          rw [dq_str a] at h1
          refine ⟨q, pk, rfl, ?_, c⟩
          cases n with
          | none => cases b; exact h1
          | some i => cases b; exact h1
theorem pairs_at {H : Hp} {pa : Addr} {as : List (List Nat × List Nat)} (h : Dq H (.ref pa) (.list (as.map pairD))) : ∃ ps : List Addr, H pa = some (.lst (ps.map V.ref)) ∧ ps.length = as.length ∧ ∀ (i : Nat) (p : Addr), ps[i]? = some p → ∃ a, as[i]? = some a ∧ H p = some (.tup [.str (TX a.1), .str (TX a.2)]) := by
  obtain ⟨b, xs, e, h1, h2⟩ := dq_list h
  cases e
  have key : ∀ (as : List (List Nat × List Nat)) (xs : List V), DqAll H xs (as.map pairD) → ∃ ps : List Addr, xs = ps.map V.ref ∧ ps.length = as.length ∧ ∀ (i : Nat) (p : Addr), ps[i]? = some p → ∃ a, as[i]? = some a ∧ H p = some (.tup [.str (TX a.1), .str (TX a.2)]) := by
    intro as
    induction as with
    | nil => intro xs h; cases h; exact ⟨[], rfl, rfl, fun i p z => by simp at z⟩
    | cons a as ih =>
      intro xs h
      cases h with
      | cons g r =>
        obtain ⟨ps, rfl, hl, hp⟩ := ih _ r
        obtain ⟨q, ys, rfl, g1, g2⟩ := dq_tup g
        cases g2 with
        | cons u w => cases w with
          | cons w z =>
            cases z
            rw [dq_str u, dq_str w] at g1
            refine ⟨q :: ps, rfl, by simp [hl], fun i p hip => ?_⟩
            cases i with
            | zero => simp at hip; subst hip; exact ⟨a, rfl, g1⟩
            | succ i => exact hp i p (by simpa using hip)
  obtain ⟨ps, rfl, h3, h4⟩ := key as xs h2
  exact ⟨ps, h1, h3, h4⟩
/-! ### constants -/
theorem k_amp : ("&" : Str) = TX [38] := rfl
theorem k_lt : ("<" : Str) = TX [60] := rfl
theorem k_gt : (">" : Str) = TX [62] := rfl
theorem k_quot : ("\"" : Str) = TX [34] := rfl
theorem k_zamp : ("&amp;" : Str) = TX zAmp := rfl
theorem k_zlt : ("&lt;" : Str) = TX zLt := rfl
theorem k_zgt : ("&gt;" : Str) = TX zGt := rfl
theorem k_zquot : ("&quot;" : Str) = TX zQuot := rfl
theorem k_sp : (" " : Str) = TX [32] := rfl
theorem k_eq : ("=\"" : Str) = TX [61, 34] := rfl
theorem k_lts : ("</" : Str) = TX [60, 47] := rfl
theorem k_E : ("<!--e-->" : Str) = TX zE := rfl
theorem k_T : ("<!--t-->" : Str) = TX zT := rfl
theorem k_A : ("<!--[" : Str) = TX zA := rfl
theorem k_B : ("-->" : Str) = TX zB := rfl
theorem k_C : ("<!--]-->" : Str) = TX zC := rfl
theorem k_0 : Str.empty = TX [] := rfl
theorem k_00 : ("" : Str) = TX [] := rfl
theorem str_TX (x : Str) : x = TX x.cps.toList := by simp
theorem rep1_esc : rep1 = esc1 := rfl
theorem sne {a b : Str} (h : (a == b) = false) : ¬ (decide (V.str a = V.str b) = true) := fun c => by
  have e := V.str.inj (of_decide_eq_true c)
  subst e
  simp at h
theorem flat_catP (ks : List Nd) : (ks.map pieceP).flatten = catP ks := by
  induction ks with
  | nil => simp [catP]
  | cons d r ih => simp [catP, ih]
/-! ### promises -/
def spText (g : List Nat → List Nat) : Sp := fun vs H Q _ => ∃ l, vs = [.str (TX l)] ∧ l.length ≤ 100000 ∧ Q (.str (TX (g l))) H
def spElem : Sp := fun vs H Q _ => ∃ (v : V) (t : List Nat) (as : List (List Nat × List Nat)) (ks : List Nd) (i : List Nat), vs = [v, .str (TX i)] ∧ Dq H v (encN (.el t as ks)) ∧ 2 * t.length + wA as + i.length ≤ 9000000 ∧ ∀ H', Same H H' → Q (.str (TX (elemL t as i))) H'
def spPlain (n : Nat) : Sp := fun vs H Q _ => ∃ (a : Addr) (ks : List Nd), vs = [.ref a] ∧ TreeA H a ks ∧ dpS ks ≤ n ∧ wS ks ≤ 8000000 ∧ ∀ H', Same H H' → Q (.str (TX (catP ks))) H'
theorem rep_eq {l z : List Nat} {c : Nat} {a b : Str} (ha : a = TX [c]) (hb : b = TX z) : Txt.replace (TX l) a b = TX (esc1 c z l) := by subst ha hb; exact replace_TX
section
variable {P : Program} {w : World} {K : PySem.W.Frag} {mg : Str → Option Value} {base : Heap} {C : Ad}
theorem sc_written_text : FnScope ["text"] ["text"] (defScope s_written_text) := ⟨rfl, rfl, rfl, by decide +kernel, rfl, by decide +kernel, by decide +kernel⟩
theorem ok_text (T : Txt K w mg C) : Cal P w K mg base 1 "written_text" (spText escT) := by
  refine cal_ofT T.d_written_text sc_written_text (by decide +kernel) (by decide) (fun vs H Q E h => ?_) (fun f cdv A outer s H vs Q E hr h => ?_)
  · obtain ⟨l, rfl, _⟩ := h
    rfl
  · obtain ⟨l, rfl, hl, q⟩ := h
    have h1 := esc1_len (c := 38) (z := zAmp) (k := 5) (by decide) (by decide) l
    have h2 := esc1_len (c := 60) (z := zLt) (k := 4) (by decide) (by decide) (esc1 38 zAmp l)
    refine ⟨_, CwR.psst_one (CwR.pst_ret (CwR.pet_replT (CwR.pet_replT (CwR.pet_replC (pv 0))))), ?_⟩
    refine ⟨_, rfl, _, rfl, ?_, ?_⟩
    · rw [TX_len]
      show l.length + (l.length + 1) * 5 ≤ _
      omega
    rw [rep_eq k_amp k_zamp]
    refine ⟨_, rfl, ?_, ?_⟩
    · rw [TX_len]
      show (esc1 38 zAmp l).length + ((esc1 38 zAmp l).length + 1) * 4 ≤ _
      omega
    rw [rep_eq k_lt k_zlt]
    refine ⟨_, rfl, ?_, ?_⟩
    · rw [TX_len]
      show (esc1 60 zLt (esc1 38 zAmp l)).length + ((esc1 60 zLt (esc1 38 zAmp l)).length + 1) * 4 ≤ _
      omega
    rw [rep_eq k_gt k_zgt]
    exact q
theorem sc_written_value : FnScope ["text"] ["text"] (defScope s_written_value) := ⟨rfl, rfl, rfl, by decide +kernel, rfl, by decide +kernel, by decide +kernel⟩
theorem ok_value (T : Txt K w mg C) : Cal P w K mg base 1 "written_value" (spText escV) := by
  refine cal_ofT T.d_written_value sc_written_value (by decide +kernel) (by decide) (fun vs H Q E h => ?_) (fun f cdv A outer s H vs Q E hr h => ?_)
  · obtain ⟨l, rfl, _⟩ := h
    rfl
  · obtain ⟨l, rfl, hl, q⟩ := h
    have h1 := esc1_len (c := 38) (z := zAmp) (k := 5) (by decide) (by decide) l
    have h2 := esc1_len (c := 60) (z := zLt) (k := 4) (by decide) (by decide) (esc1 38 zAmp l)
    refine ⟨_, CwR.psst_one (CwR.pst_ret (CwR.pet_replT (CwR.pet_replT (CwR.pet_replC (pv 0))))), ?_⟩
    refine ⟨_, rfl, _, rfl, ?_, ?_⟩
    · rw [TX_len]
      show l.length + (l.length + 1) * 5 ≤ _
      omega
    rw [rep_eq k_amp k_zamp]
    refine ⟨_, rfl, ?_, ?_⟩
    · rw [TX_len]
      show (esc1 38 zAmp l).length + ((esc1 38 zAmp l).length + 1) * 4 ≤ _
      omega
    rw [rep_eq k_lt k_zlt]
    refine ⟨_, rfl, ?_, ?_⟩
    · rw [TX_len]
      show (esc1 60 zLt (esc1 38 zAmp l)).length + ((esc1 60 zLt (esc1 38 zAmp l)).length + 1) * 6 ≤ _
      omega
    rw [rep_eq k_quot k_zquot]
    exact q
theorem sc_written_element : FnScope ["node", "inner", "_", "tag", "attributes", "pairs", "name", "text"] ["node", "inner"] (defScope s_written_element) := ⟨rfl, rfl, rfl, by decide +kernel, rfl, by decide +kernel, by decide +kernel⟩
theorem a_mem {a : List Nat × List Nat} : ∀ {as : List (List Nat × List Nat)}, a ∈ as → a.1.length + 120 * a.2.length + 20 ≤ wA as
  | b :: as, h => by
    simp only [wA, List.map_cons, List.sum_cons]
    rcases List.mem_cons.mp h with rfl | h
    · omega
    · have := a_mem h
      simp only [wA] at this
      omega
theorem wA_len (as : List (List Nat × List Nat)) : 20 * as.length ≤ wA as := by
  induction as with
  | nil => simp [wA]
  | cons a as ih =>
    simp only [wA, List.map_cons, List.sum_cons, List.length_cons] at ih ⊢
    omega
theorem ok_elem (T : Txt K w mg C) : Cal P w K mg base 2 "written_element" spElem := by
  have Gwritten_value := ok_value (P := P) (base := base) T
  refine cal_of T.d_written_element sc_written_element (fun vs H Q E h => ?_) (fun f cdv A outer s H vs Q E hr h => ?_)
  · obtain ⟨v, t, as, ks, i, rfl, _⟩ := h
    rfl
  · obtain ⟨v, t, as, ks, inner, rfl, hd, hw, q⟩ := h
    obtain ⟨qd, pa, pk, rfl, hq, hpa, hpk⟩ := n_el hd
    obtain ⟨ps, h1, h2, h3⟩ := pairs_at hpa
    have big : 10000000 < sizeLine := by decide
    have wal := wA_len as
    refine ⟨_, (pss_cons (ps_asg (pv 0) (pg_tup rfl (pgs_cons (pg_name (i := 2) sc_written_element.nd rfl (Or.inl rfl)) (pgs_cons (pg_name (i := 3) sc_written_element.nd rfl (Or.inl rfl)) (pgs_cons (pg_name (i := 4) sc_written_element.nd rfl (Or.inl rfl)) (pgs_cons (pg_name (i := 2) sc_written_element.nd rfl (Or.inl rfl)) pgs_nil)))))) (pss_cons (ps_set (i := 5) sc_written_element.nd rfl (Or.inl rfl) (pe_join pe_str (pe_lc (own := [("name", 6), ("text", 7)]) (g := gTup K 2 (gCons (gName 6) (gCons (gName 7) (gNil)))) (tt := tYes) rfl sc_written_element.nd (pi_list (pv 4)) (blkOk_by (N := ["node", "inner", "_", "tag", "attributes", "pairs", "name", "text"]) (sc := (defScope s_written_element)) (by decide +kernel)) (fun _ _ _ _ _ => pg_tupS (K := K) rfl rfl (pgs_cons (pg_name (i := 6) sc_written_element.nd rfl (Or.inl rfl)) (pgs_cons (pg_name (i := 7) sc_written_element.nd rfl (Or.inl rfl)) pgs_nil))) (fun _ _ _ _ _ => pts_nil) (fun _ _ _ _ _ => (pe_joinedT (PJ.cons pe_str (PJ.cons (pe_fmt (pv 6)) (PJ.cons pe_str (PJ.cons (pe_fmt (pe_c Gwritten_value hr (by decide) (by rfl) (pa_cons (pv 7) pa_nil))) (PJ.cons pe_str PJ.nil)))))))))) (pss_one (ps_ret (pe_joinedT (PJ.cons pe_str (PJ.cons (pe_fmt (pv 3)) (PJ.cons (pe_fmt (pv 5)) (PJ.cons pe_str (PJ.cons (pe_fmt (pv 1)) (PJ.cons pe_str (PJ.cons (pe_fmt (pv 3)) (PJ.cons pe_str PJ.nil))))))))))))), ?_⟩
    refine ⟨_, rfl, qd, _, rfl, SqT.of hq, rfl, _, _, rfl, _, _, rfl, _, _, rfl, _, _, rfl, rfl, ?_⟩
    refine ⟨⟨_, rfl⟩, _, rfl, pa, rfl, ⟨_, SqL.of h1⟩, fun D hD => ?_⟩
    refine lc_it (walk_list (K := K) (a := pa) (xs := ps.map V.ref)) (fun i H' => Same H H' ∧ H' D = some (.lst (((as.take i).map fun a => TX (pairL a)).map V.str))) ⟨Sm.new hD, upd_same⟩ (fun i H' _ z => SqL.of (z.1 _ _ h1)) ?_ ?_
    · rintro i x H1 H2 hi ⟨s1, hl⟩ ⟨rfl, hx⟩
      rw [List.getElem?_map] at hx
      cases hp : ps[i]? with
      | none => rw [hp] at hx; exact nomatch hx
      | some p =>
        rw [hp] at hx
        cases hx
        obtain ⟨a, ha, hpt⟩ := h3 i p hp
        have am := a_mem (List.mem_of_getElem? ha)
        have il : i < as.length := (List.getElem?_eq_some_iff.mp ha).1
        have ev := escV_len a.2
        have tk : as.take (i + 1) = as.take i ++ [a] := by rw [List.take_add_one, ha]; rfl
        refine ⟨_, _, rfl, SqT.of (s1 _ _ hpt), rfl, ?_⟩
        refine ⟨_, _, rfl, _, _, rfl, rfl, rfl, ?_⟩
        refine ⟨_, rfl, ?_, _, rfl, .inl ⟨_, rfl, ?_, _, rfl, ?_, _, rfl, ?_, _, rfl, a.2, rfl, by omega, .inl ⟨_, rfl, ?_, _, rfl, ?_, _, rfl, ?_, ?_⟩⟩⟩
        · simp only [strApp, TX_len, k_0, k_sp, List.length_cons, List.length_nil]
          omega
        · simp only [TX_len]
          omega
        · simp only [strApp, TX_len, k_0, k_sp, List.length_cons, List.length_nil]
          omega
        · simp only [strApp, TX_len, k_0, k_sp, k_eq, List.length_cons, List.length_nil]
          omega
        · simp only [TX_len]
          omega
        · simp only [strApp, TX_len, k_0, k_sp, k_eq, List.length_cons, List.length_nil]
          omega
        · simp only [strApp, TX_len, k_0, k_sp, k_eq, k_quot, List.length_cons, List.length_nil]
          omega
        refine ⟨_, hl, ?_, fun b o e => ?_, ?_⟩
        · simp only [List.length_map, List.length_take]
          omega
        · rw [upd_ne (ne_of_none e hD)]
          exact s1 _ _ e
        · rw [upd_same, tk, List.map_append, List.map_append]
          simp only [k_0, k_sp, k_eq, k_quot, TX_cat]
          rfl
    · rintro H1 ⟨s1, hl⟩
      have tkl : as.take ps.length = as := by rw [h2, List.take_length]
      rw [List.length_map, tkl] at hl
      have pl := pairs_len as
      have em : (as.map fun a => TX (pairL a)) = (as.map pairL).map TX := by rw [List.map_map]; rfl
      rw [em] at hl
      refine ⟨_, D, _, rfl, rfl, .inl (SqL.of hl), ?_, ?_⟩
      · rw [sum_TX, ← List.flatMap_def]
        show _ + _ * 0 ≤ _
        omega
      rw [k_00, join_TX, ← List.flatMap_def]
      refine ⟨_, rfl, ?_, _, rfl, .inl ⟨_, rfl, ?_, _, rfl, ?_, _, rfl, .inl ⟨_, rfl, ?_, _, rfl, ?_, _, rfl, ?_, _, rfl, .inl ⟨_, rfl, ?_, _, rfl, ?_, _, rfl, ?_, _, rfl, .inl ⟨_, rfl, ?_, _, rfl, ?_, _, rfl, ?_, ?_⟩⟩⟩⟩⟩
      all_goals first | (simp only [strApp, TX_len, k_0, k_lt, k_gt, k_lts, List.length_cons, List.length_nil]; omega) | skip
      simp only [k_0, k_lt, k_gt, k_lts, TX_cat]
      exact q _ s1
/-! plain_text -/
end
end VL

set_option Elab.async false
set_option linter.all false
set_option pp.maxSteps 700
set_option maxRecDepth 100000
set_option maxHeartbeats 4000000
namespace VL
open PySem PySem.Spec PyProof.Rows L2
/-- a number's text -/
def nL (i : Int) : List Nat := (Str.ofString (toString i)).cps.toList
theorem nL_TX (i : Int) : Str.ofString (toString i) = TX (nL i) := by simp [nL]
theorem nL_len : ∀ i : Int, 0 ≤ i → i < 10 ^ 30 → (nL i).length ≤ 30 := fun i h0 h1 => by
  have := toString_length_le (k := 30) h0 (by decide) h1
  rw [nL_TX, TX_len] at this
  exact this
theorem log_ok {i : Int} (h0 : 0 ≤ i) (h1 : i < 10 ^ 30) : i.natAbs.log2 < 1920 := by
  have h2 : i.natAbs < 2 ^ 1920 := by
    have : i.natAbs < 10 ^ 30 := by omega
    exact Nat.lt_trans this (by decide)
  by_cases hz : i.natAbs = 0
  · rw [hz]; decide
  · exact (Nat.log2_lt hz).mpr h2
def spWrite (n : Nat) : Sp := fun vs H Q _ => ∃ (a : Addr) (ks : List Nd), vs = [.ref a] ∧ TreeA H a ks ∧ dpS ks ≤ n ∧ wS ks ≤ 8000000 ∧ nuS ks ∧ ∀ H', Same H H' → Q (.str (TX (catW nL false ks))) H'
section
variable {P : Program} {w : World} {K : PySem.W.Frag} {mg : Str → Option Value} {base : Heap} {C : Ad}
theorem sc_write_tree : FnScope ["nodes", "pieces", "is_behind_text", "node", "is_text", "number"] ["nodes"] (defScope s_write_tree) := ⟨rfl, rfl, rfl, by decide +kernel, rfl, by decide +kernel, by decide +kernel⟩
theorem write_0 (T : Txt K w mg C) {k : Nat} : Cal P w K mg base (k + 1) "write_tree" spFalse := cal_of T.d_write_tree sc_write_tree (fun vs H Q E h => h.elim) (fun f cdv A outer s H vs Q E hr h => h.elim)
theorem write_S (T : Txt K w mg C) {n : Nat} {sp : Sp} (hsp : ∀ m, m + 1 = n → sp = spWrite m) (Gwrite_tree : Cal P w K mg base (n + 2) "write_tree" sp) : Cal P w K mg base (n + 3) "write_tree" (spWrite n) := by
  have Gwritten_text := ok_text (P := P) (base := base) T
  have Gwritten_element := ok_elem (P := P) (base := base) T
  refine cal_of T.d_write_tree sc_write_tree (fun vs H Q E h => ?_) (fun f cdv A outer s H vs Q E hr h => ?_)
  · obtain ⟨a, ks, rfl, _⟩ := h
    rfl
  · obtain ⟨a, ks, rfl, ht, hn, hw, hu, q⟩ := h
    obtain ⟨xs, ha, hl, hd⟩ := tree_at ht
    have big : 20000000 > sizeLine ∧ 10000000 < sizeLine := by decide
    have lw := len_wS ks
    refine ⟨_, (pss_cons (ps_set (i := 1) sc_write_tree.nd rfl (Or.inl rfl) (pe_lst pa_nil)) (pss_cons (ps_set (i := 2) sc_write_tree.nd rfl (Or.inl rfl) pe_bl) (pss_cons (ps_for PassesOwn.never rfl (pi_list (pv 0)) (pg_name (i := 3) sc_write_tree.nd rfl (Or.inl rfl)) (pss_cons (ps_set (i := 4) sc_write_tree.nd rfl (Or.inl rfl) (pe_and (pe_cmpR op_eq (pe_ix ix_tup (pv 3) pe_int (fun _ _ => rfl)) pe_str (nomark _)) (pe_one (pe_cmpR op_ne (pe_ix ix_tup (pv 3) pe_int (fun _ _ => rfl)) pe_str (nomark _))))) (C8.pss_cut (ps_if (PW.pt (pw_and (pt_val (pv 2)) (pw_and1 (pt_val (pv 4))))) (pss_one (ps_expr (pe_bm PySem.F.plainAttrs_list PySem.F.slot_list_append PySem.F.type_list_append mt_append (pv 1) (pa_cons (C8.pe_gc (by rfl) T.g_BETWEEN_TEXTS_writing) pa_nil)))) pss_nil) (pss_cons (ps_if (pt_cmpR op_eq (pe_ix ix_tup (pv 3) pe_int (fun _ _ => rfl)) pe_str (nomark _)) (pss_cons (ps_set (i := 5) sc_write_tree.nd rfl (Or.inl rfl) (pe_ifExp (pt_cmp (pc_isN (pe_ix ix_tup (pv 3) pe_int (fun _ _ => rfl)))) pe_str (pe_callTy call_str_int (by rfl) T.z_str (by decide +kernel) (pa_cons (pe_ix ix_tup (pv 3) pe_int (fun _ _ => rfl)) pa_nil)))) (pss_one (ps_expr (pe_bm PySem.F.plainAttrs_list PySem.F.slot_list_append PySem.F.type_list_append mt_append (pv 1) (pa_cons (pe_op op_add_str (pe_op op_add_str (pe_joinedT (PJ.cons pe_str (PJ.cons (pe_fmt (pv 5)) (PJ.cons pe_str PJ.nil)))) (pe_c Gwrite_tree hr (by omega) (by rfl) (pa_cons (pe_ix ix_tup (pv 3) pe_int (fun _ _ => rfl)) pa_nil))) (C8.pe_gc (by rfl) T.g_AWAIT_END_writing)) pa_nil))))) (pss_one (ps_if (pt_cmpR op_eq (pe_ix ix_tup (pv 3) pe_int (fun _ _ => rfl)) pe_str (nomark _)) (pss_one (ps_expr (pe_bm PySem.F.plainAttrs_list PySem.F.slot_list_append PySem.F.type_list_append mt_append (pv 1) (pa_cons (pe_c Gwritten_element hr (by omega) (by rfl) (pa_cons (pv 3) (pa_cons (pe_c Gwrite_tree hr (by omega) (by rfl) (pa_cons (pe_ix ix_tup (pv 3) pe_int (fun _ _ => rfl)) pa_nil)) pa_nil))) pa_nil)))) (pss_one (ps_expr (pe_bm PySem.F.plainAttrs_list PySem.F.slot_list_append PySem.F.type_list_append mt_append (pv 1) (pa_cons (pe_ifExp (pt_val (pv 4)) (pe_c Gwritten_text hr (by omega) (by rfl) (pa_cons (pe_ix ix_tup (pv 3) pe_int (fun _ _ => rfl)) pa_nil)) (C8.pe_gc (by rfl) T.g_EMPTY_TEXT_writing)) pa_nil))))))) (pss_one (ps_set (i := 2) sc_write_tree.nd rfl (Or.inl rfl) (pv 4))))))) (pss_one (ps_ret (pe_join pe_str (pv 1))))))), ?_⟩
    refine ⟨by show 0 ≤ sizeLine; decide, fun p hp => ?_⟩
    refine ⟨_, rfl, a, rfl, ⟨_, SqL.of (Sm.new hp _ _ ha)⟩, ?_⟩
    refine for_it (walk_list (K := K) (a := a) (xs := xs)) (fun i σ H' => Same H H' ∧ ∃ ys : List (List Nat), H' p = some (.lst ((ys.map TX).map V.str)) ∧ ys.flatten = catW nL false (ks.take i) ∧ ys.length ≤ 2 * i ∧ ∃ y3 y4 y5, σ = [some (.ref a), some (.ref p), some (.bl (lastT (ks.take i))), y3, y4, y5]) ⟨Sm.new hp, [], upd_same, by simp [catW], by simp, _, _, _, rfl⟩ (fun i σ H' _ z => SqL.of (z.1 _ _ ha)) ?_ ?_
    · rintro i x σ H1 H2 hi ⟨s1, ys, hpl, yf, yl, y3, y4, y5, rfl⟩ ⟨rfl, hx⟩
      obtain ⟨d, hdi, dd⟩ := node_at hd hx
      have dm := dp_mem (List.mem_of_getElem? hdi)
      have wm := w_mem (List.mem_of_getElem? hdi)
      have um := nu_mem hu (List.mem_of_getElem? hdi)
      have il : i < ks.length := (List.getElem?_eq_some_iff.mp hdi).1
      have tk : ks.take (i + 1) = ks.take i ++ [d] := by rw [List.take_add_one, hdi]; rfl
      have plen := pieceW_len nL nL_len d um
      have fin : ∀ (b : Bool) (us : List (List Nat)) (H3 : Hp) (y3 y4 y5 : Option V), Same H H3 → us.flatten = (if lastT (ks.take i) && isT d then zT else []) ++ pieceW nL d → us.length ≤ 2 → H3 p = some (.lst (((ys ++ us).map TX).map V.str)) → b = isT d →
          (Same H H3 ∧ ∃ ys : List (List Nat), H3 p = some (.lst ((ys.map TX).map V.str)) ∧ ys.flatten = catW nL false (ks.take (i + 1)) ∧ ys.length ≤ 2 * (i + 1) ∧ ∃ z3 z4 z5, [some (V.ref a), some (.ref p), some (.bl b), y3, y4, y5] = [some (.ref a), some (.ref p), some (.bl (lastT (ks.take (i + 1)))), z3, z4, z5]) := by
        intro b us H3 y3 y4 y5 s3 uf ul h3 hb
        refine ⟨s3, ys ++ us, h3, ?_, by rw [List.length_append]; omega, y3, y4, y5, ?_⟩
        · rw [List.flatten_append, yf, uf, tk, catW_sn0]
        · rw [tk, lastT_sn, hb]
      have put : ∀ (us : List (List Nat)) (l : List Nat) (H3 : Hp), Same H H3 → H3 p = some (.lst (((ys ++ us).map TX).map V.str)) → Same H (upd H3 p (.lst (((ys ++ us).map TX).map V.str ++ [V.str (TX l)]))) ∧ upd H3 p (.lst (((ys ++ us).map TX).map V.str ++ [V.str (TX l)])) p = some (.lst (((ys ++ (us ++ [l])).map TX).map V.str)) := by
        intro us l H3 s3 h3
        refine ⟨fun b o e => ?_, ?_⟩
        · rw [upd_ne (ne_of_none e hp)]
          exact s3 _ _ e
        · rw [upd_same, ← List.append_assoc, List.map_append (l₁ := ys ++ us), List.map_append (l₁ := (ys ++ us).map TX)]
          rfl
      have lok : ∀ us : List (List Nat), us.length ≤ 1 → (((ys ++ us).map TX).map V.str).length < sizeLine := fun us h => by
        simp only [List.length_map, List.length_append]
        omega
      cases d with
      | tx x =>
        obtain ⟨qq, rfl, hq⟩ := n_tx dd
        have hq1 := s1 _ _ hq
        simp only [wN] at wm
        have hb : (!decide (V.str (TX x) = V.str "")) = isT (.tx x) := by
          rw [k_00, vstr_TX]
          simp only [isT]
          by_cases h : x = [] <;> simp [h]
        refine ⟨_, rfl, qq, _, _, _, rfl, rfl, SqT.of hq1, rfl, rfl, _, rfl, ite2 (fun _ => ?_) (fun c => absurd (by simp) c)⟩
        refine ⟨_, rfl, qq, _, _, _, rfl, rfl, SqT.of hq1, rfl, rfl, ?_⟩
        refine ⟨fun σ' H' => ∃ us : List (List Nat), us.flatten = (if lastT (ks.take i) && isT (.tx x) then zT else []) ∧ us.length ≤ 1 ∧ H' p = some (.lst (((ys ++ us).map TX).map V.str)) ∧ Same H H' ∧ σ' = [some (.ref a), some (.ref p), some (.bl (lastT (ks.take i))), some (.ref qq), some (.bl (!decide (V.str (TX x) = V.str ""))), y5], ?_, ?_⟩
        · refine ⟨_, rfl, _, rfl, ite2 (fun c1 => ?_) (fun c1 => ?_)⟩
          · refine ⟨_, rfl, _, rfl, ite2 (fun c2 => ?_) (fun c2 => ?_)⟩
            · rw [hb] at c2
              have pp := put [] zT H2 s1 (by simpa using hpl)
              simp only [List.append_nil, List.nil_append] at pp
              refine ⟨_, rfl, .inl ⟨rfl, _, SqL.of hpl⟩, p, _, _, rfl, rfl, hpl, by simpa using lok [] (by simp), [zT], ?_, by simp, pp.2, pp.1, rfl⟩
              rw [c1, c2]
              rfl
            · rw [hb] at c2
              have c3 : isT (.tx x) = false := by simpa using c2
              exact ⟨[], by rw [c3]; simp, by simp, by simpa using hpl, s1, rfl⟩
          · have c3 : lastT (ks.take i) = false := by simpa using c1
            refine iteF ?_
            exact ⟨[], by rw [c3]; simp, by simp, by simpa using hpl, s1, rfl⟩
        · rintro σ' H' ⟨us, uf, ul, hpu, s2, rfl⟩
          have hq' := s2 _ _ hq
          refine ⟨_, rfl, qq, _, _, _, rfl, rfl, SqT.of hq', rfl, rfl, _, rfl, ?_⟩
          refine ite2 (fun c => absurd c (sne (by decide +kernel))) (fun _ => ?_)
          refine ⟨_, rfl, qq, _, _, _, rfl, rfl, SqT.of hq', rfl, rfl, _, rfl, ?_⟩
          refine ite2 (fun c => absurd c (sne (by decide +kernel))) (fun _ => ?_)
          refine ⟨_, rfl, .inl ⟨rfl, _, SqL.of hpu⟩, ?_⟩
          refine ⟨_, rfl, _, rfl, ite2 (fun c2 => ?_) (fun c2 => ?_)⟩
          · rw [hb] at c2
            have hx0 : x ≠ [] := by simpa [isT] using c2
            have pp := put us (escT x) H' s2 hpu
            refine ⟨_, rfl, qq, _, _, _, rfl, rfl, SqT.of hq', rfl, x, rfl, by omega, p, _, _, rfl, rfl, hpu, lok us ul, _, rfl, ?_⟩
            refine fin _ (us ++ [escT x]) _ _ _ _ pp.1 ?_ (by rw [List.length_append]; simp; omega) pp.2 hb
            rw [List.flatten_append, uf]
            simp only [pieceW, if_neg hx0]
            simp
          · rw [hb] at c2
            have hx0 : x = [] := by simpa [isT] using c2
            have pp := put us zE H' s2 hpu
            refine ⟨p, _, _, rfl, rfl, hpu, lok us ul, _, rfl, ?_⟩
            refine fin _ (us ++ [zE]) _ _ _ _ pp.1 ?_ (by rw [List.length_append]; simp; omega) pp.2 hb
            rw [List.flatten_append, uf]
            simp only [pieceW, if_pos hx0]
            simp
      | el t as kk =>
        obtain ⟨qq, qa, qk, rfl, hq, hqa, hqk⟩ := n_el dd
        have hq1 := s1 _ _ hq
        simp only [wN] at wm
        simp only [dpN] at dm
        simp only [nuN] at um
        obtain ⟨m, rfl⟩ : ∃ m, n = m + 1 := ⟨n - 1, by omega⟩
        have e := hsp m rfl
        subst e
        refine ⟨_, rfl, qq, _, _, _, rfl, rfl, SqT.of hq1, rfl, rfl, _, rfl, ite2 (fun c => absurd c (sne (by decide +kernel))) (fun _ => ?_)⟩
        refine ⟨fun σ' H' => H' = H2 ∧ σ' = [some (.ref a), some (.ref p), some (.bl (lastT (ks.take i))), some (.ref qq), some (.bl false), y5], ?_, ?_⟩
        · refine ⟨_, rfl, _, rfl, ite2 (fun c1 => ?_) (fun c1 => ?_)⟩
          · exact ⟨_, rfl, _, rfl, iteF ⟨rfl, rfl⟩⟩
          · exact iteF ⟨rfl, rfl⟩
        · rintro σ' H' ⟨rfl, rfl⟩
          refine ⟨_, rfl, qq, _, _, _, rfl, rfl, SqT.of hq1, rfl, rfl, _, rfl, ?_⟩
          refine ite2 (fun c => absurd c (sne (by decide +kernel))) (fun _ => ?_)
          refine ⟨_, rfl, qq, _, _, _, rfl, rfl, SqT.of hq1, rfl, rfl, _, rfl, ?_⟩
          refine ite2 (fun _ => ?_) (fun c => absurd (by simp) c)
          have cl := catW_len nL nL_len false kk um
          refine ⟨_, rfl, .inl ⟨rfl, _, SqL.of hpl⟩, _, rfl, _, rfl, qq, _, _, _, rfl, rfl, SqT.of hq1, rfl, qk, kk, rfl, hqk.same s1, by omega, by omega, um, fun H3 s3 => ⟨.ref qq, t, as, kk, _, rfl, (dd.same s1).same s3, by omega, fun H4 s4 => ?_⟩⟩
          have s14 := Same.trans s1 (Same.trans s3 s4)
          have h4 := s4 _ _ (s3 _ _ hpl)
          have pp := put [] (elemL t as (catW nL false kk)) H4 s14 (by simpa using h4)
          refine ⟨p, _, _, rfl, rfl, h4, by simpa using lok [] (by simp), _, rfl, ?_⟩
          refine fin _ [elemL t as (catW nL false kk)] _ _ _ _ (by simpa using pp.1) ?_ (by simp) (by simpa using pp.2) rfl
          simp [isT, pieceW]
      | aw nn kk =>
        obtain ⟨qq, qk, rfl, hq, hqk⟩ := n_aw dd
        have hq1 := s1 _ _ hq
        simp only [wN] at wm
        simp only [dpN] at dm
        obtain ⟨um1, um2⟩ : (∀ i, nn = some i → 0 ≤ i ∧ i < 10 ^ 30) ∧ nuS kk := by simpa only [nuN] using um
        obtain ⟨m, rfl⟩ : ∃ m, n = m + 1 := ⟨n - 1, by omega⟩
        have e := hsp m rfl
        subst e
        refine ⟨_, rfl, qq, _, _, _, rfl, rfl, SqT.of hq1, rfl, rfl, _, rfl, ite2 (fun c => absurd c (sne (by decide +kernel))) (fun _ => ?_)⟩
        refine ⟨fun σ' H' => H' = H2 ∧ σ' = [some (.ref a), some (.ref p), some (.bl (lastT (ks.take i))), some (.ref qq), some (.bl false), y5], ?_, ?_⟩
        · refine ⟨_, rfl, _, rfl, ite2 (fun c1 => ?_) (fun c1 => ?_)⟩
          · exact ⟨_, rfl, _, rfl, iteF ⟨rfl, rfl⟩⟩
          · exact iteF ⟨rfl, rfl⟩
        · rintro σ' H' ⟨rfl, rfl⟩
          refine ⟨_, rfl, qq, _, _, _, rfl, rfl, SqT.of hq1, rfl, rfl, _, rfl, ?_⟩
          refine ite2 (fun _ => ?_) (fun c => absurd (by simp) c)
          have cl := catW_len nL nL_len false kk um2
          cases nn with
          | none =>
            refine ⟨_, rfl, qq, _, _, _, rfl, rfl, SqT.of hq1, rfl, true, rfl, iteT ?_⟩
            refine ⟨_, rfl, .inl ⟨rfl, _, SqL.of hpl⟩, _, rfl, ?_, _, rfl, .inl ⟨_, rfl, ?_, _, rfl, ?_, _, rfl, ?_, _, rfl, qq, _, _, _, rfl, rfl, SqT.of hq1, rfl, qk, kk, rfl, hqk.same s1, by omega, by omega, um2, fun H3 s3 => ⟨_, _, rfl, rfl, ?_, _, _, rfl, rfl, ?_, ?_⟩⟩⟩
            all_goals first | (simp only [strApp, TX_len, k_0, k_00, k_A, k_B, k_C, nL_TX, List.length_cons, List.length_nil]; omega) | skip
            simp only [k_0, k_00, k_A, k_B, k_C, nL_TX, TX_cat]
            have s13 := Same.trans s1 s3
            have h3 := s3 _ _ hpl
            have pp := put [] (pieceW nL (.aw none kk)) H3 s13 (by simpa using h3)
            simp only [List.append_nil, List.nil_append] at pp
            refine ⟨p, _, _, rfl, rfl, h3, by simpa using lok [] (by simp), _, rfl, ?_⟩
            refine fin _ [pieceW nL (.aw none kk)] _ _ _ _ pp.1 ?_ (by simp) pp.2 rfl
            simp [isT]
          | some k =>
            obtain ⟨k0, k1⟩ := um1 k rfl
            have kl := nL_len k k0 k1
            refine ⟨_, rfl, qq, _, _, _, rfl, rfl, SqT.of hq1, rfl, false, rfl, iteF ?_⟩
            refine ⟨_, rfl, qq, _, _, _, rfl, rfl, SqT.of hq1, rfl, _, rfl, log_ok k0 k1, ?_⟩
            refine ⟨_, rfl, .inl ⟨rfl, _, SqL.of hpl⟩, _, rfl, ?_, _, rfl, .inl ⟨_, rfl, ?_, _, rfl, ?_, _, rfl, ?_, _, rfl, qq, _, _, _, rfl, rfl, SqT.of hq1, rfl, qk, kk, rfl, hqk.same s1, by omega, by omega, um2, fun H3 s3 => ⟨_, _, rfl, rfl, ?_, _, _, rfl, rfl, ?_, ?_⟩⟩⟩
            all_goals first | (simp only [strApp, TX_len, k_0, k_00, k_A, k_B, k_C, nL_TX, List.length_cons, List.length_nil]; omega) | skip
            simp only [k_0, k_00, k_A, k_B, k_C, nL_TX, TX_cat]
            have s13 := Same.trans s1 s3
            have h3 := s3 _ _ hpl
            have pp := put [] (pieceW nL (.aw (some k) kk)) H3 s13 (by simpa using h3)
            simp only [List.append_nil, List.nil_append] at pp
            refine ⟨p, _, _, rfl, rfl, h3, by simpa using lok [] (by simp), _, rfl, ?_⟩
            refine fin _ [pieceW nL (.aw (some k) kk)] _ _ _ _ pp.1 ?_ (by simp) pp.2 rfl
            simp [isT]
    · rintro σ H1 ⟨s1, ys, hpl, yf, yl, y3, y4, y5, rfl⟩
      rw [hl, List.take_length] at yf
      have cl := catW_len nL nL_len false ks hu
      refine ⟨⟨_, rfl⟩, _, rfl, _, p, _, rfl, rfl, .inl (SqL.of hpl), ?_, ?_⟩
      · rw [sum_TX, yf]
        show _ + _ * 0 ≤ _
        omega
      · rw [k_00, join_TX, yf]
        exact q _ s1
theorem write_N (T : Txt K w mg C) : ∀ n : Nat, Cal P w K mg base (n + 3) "write_tree" (spWrite n)
  | 0 => write_S T (n := 0) (sp := spFalse) (fun m h => by omega) (write_0 T)
  | n + 1 => write_S T (n := n + 1) (sp := spWrite n) (fun m h => by rw [Nat.succ.inj h]) (write_N T n)
end
end VL

set_option Elab.async false
set_option linter.all false
set_option pp.maxSteps 700
set_option maxRecDepth 100000
set_option maxHeartbeats 4000000
namespace VL
open PySem PySem.Spec PyProof.Rows L2
/-! ### the reader of written trees: signs and words -/
abbrev fsT (T : List Nat) (n : Nat) (la ra na : Addr) (bh : Bool) : List (Str × V) := [("text", .str (TX T)), ("at", .int (n : Int)), ("lists", .ref la), ("around", .ref ra), ("numbers", .ref na), ("is_behind_text", .bl bh)]
section
variable {T : List Nat} {n : Nat} {la ra na : Addr} {bh : Bool}
theorem fs_TreeReader_text : (fsT T n la ra na bh).lookup ("text" : Str) = some (V.str (TX T)) := rfl
theorem fs_TreeReader_at : (fsT T n la ra na bh).lookup ("at" : Str) = some (V.int (n : Int)) := rfl
theorem fs_TreeReader_lists : (fsT T n la ra na bh).lookup ("lists" : Str) = some (V.ref la) := rfl
theorem fs_TreeReader_around : (fsT T n la ra na bh).lookup ("around" : Str) = some (V.ref ra) := rfl
theorem fs_TreeReader_numbers : (fsT T n la ra na bh).lookup ("numbers" : Str) = some (V.ref na) := rfl
theorem fs_TreeReader_is_behind_text : (fsT T n la ra na bh).lookup ("is_behind_text" : Str) = some (V.bl bh) := rfl
theorem put_at {m : Nat} {z : Int} (h : z = (m : Int)) : putF "at" (.int z) (fsT T n la ra na bh) = fsT T m la ra na bh := by subst h; rfl
theorem put_bh {b : Bool} : putF "is_behind_text" (.bl b) (fsT T n la ra na bh) = fsT T n la ra na b := rfl
end
abbrev RT (C : Ad) (dx : Addr) (T : List Nat) (n : Nat) (la ra na : Addr) (bh : Bool) : HO := .ins C.TreeReader dx (fsT T n la ra na bh)
theorem cut_take {pre R : List Nat} {i j : Int} {k : Nat} (hi : i = (pre.length : Int)) (hj : j = ((pre.length + k : Nat) : Int)) : cutS (TX (pre ++ R)) (some i) (some j) = TX (R.take k) := by
  subst hi hj
  unfold cutS
  rw [TX_len, HT.sIx_nat, HT.sIx_nat, TX_tl]
  have e1 : min pre.length (pre ++ R).length = pre.length := by simp
  rw [e1]
  refine congrArg TX ?_
  rw [List.drop_left, List.length_append]
  by_cases h : k ≤ R.length
  · rw [Nat.min_eq_left (by omega), Nat.add_sub_cancel_left]
  · rw [Nat.min_eq_right (by omega), Nat.add_sub_cancel_left, List.take_length, List.take_of_length_le (by omega)]
def spSign1 (g : Nat → Bool) : Sp := fun vs H Q _ => ∃ l : List Nat, vs = [.str (TX l)] ∧ l.length ≤ 1 ∧ Q (.bl (l.any g)) H
theorem lt_oneT {c d : Nat} : ([c] < [d]) ↔ c < d := by simp [List.cons_lt_cons_iff]
theorem le_loT {c d : Nat} : (!decide ([c] < [d])) = decide (d ≤ c) := by
  by_cases h : c < d
  · rw [decide_eq_true (lt_oneT.mpr h), decide_eq_false (by omega)]; rfl
  · rw [decide_eq_false (fun q => h (lt_oneT.mp q)), decide_eq_true (by omega)]; rfl
/-- the reader stands anywhere in its text -/
structure AtT (C : Ad) (H : Hp) (p dx : Addr) (T : List Nat) (n : Nat) (la ra na : Addr) (bh : Bool) : Prop where
  h : H p = some (RT C dx T n la ra na bh)
  l : T.length ≤ 5000000
def spSignAt (C : Ad) : Sp := fun vs H Q _ => ∃ (p dx : Addr) (cs R : List Nat) (n : Nat) (la ra na : Addr) (bh : Bool), vs = [.ref p, .int (cs.length : Int)] ∧ AtT C H p dx (cs ++ R) n la ra na bh ∧ Q (.str (TX (R.take 1))) H
def spStands (C : Ad) : Sp := fun vs H Q _ => ∃ (p dx : Addr) (cs R m : List Nat) (n : Nat) (la ra na : Addr) (bh b : Bool), vs = [.ref p, .str (TX m), .int (cs.length : Int)] ∧ AtT C H p dx (cs ++ R) n la ra na bh ∧ m.length ≤ 5000000 ∧ sd m R = some b ∧ Q (.bl b) H
def spWordEnd (C : Ad) : Sp := fun vs H Q _ => ∃ (p dx : Addr) (cs R : List Nat) (n : Nat) (la ra na : Addr) (bh : Bool), vs = [.ref p, .int (cs.length : Int)] ∧ AtT C H p dx (cs ++ R) n la ra na bh ∧ ∀ H', H' = H → Q (.int ((cs.length + (wordR R).1.length : Nat) : Int)) H'
theorem starts0 {m y : List Nat} : Txt.startswith (TX m) (TX y) = y.isPrefixOf m := by
  unfold Txt.startswith
  rw [StrLaws.subAt_eq]
  have h1 : (TX m).cps.toList.drop 0 = m := by simp
  rw [h1, TX_len, TX_len, TX_tl, Bool.eq_iff_iff, Bool.and_eq_true, decide_eq_true_eq, List.isPrefixOf_iff_prefix]
  constructor
  · rintro ⟨_, h⟩
    have h : m.take y.length = y := by simpa using h
    exact ⟨m.drop y.length, by
      have := List.take_append_drop y.length m
      rw [h] at this
      exact this⟩
  · rintro ⟨t, rfl⟩
    refine ⟨by simp, ?_⟩
    simp
section
variable {P : Program} {w : World} {K : PySem.W.Frag} {mg : Str → Option Value} {base : Heap} {C : Ad}
theorem sc_is_digit : FnScope ["sign"] ["sign"] (defScope s_is_digit) := ⟨rfl, rfl, rfl, by decide +kernel, rfl, by decide +kernel, by decide +kernel⟩
theorem ok_digit (T : Txt K w mg C) : Cal P w K mg base 1 "is_digit" (spSign1 isDi) := by
  refine cal_of T.d_is_digit sc_is_digit (fun vs H Q E h => ?_) (fun f cdv A outer s H vs Q E hr h => ?_)
  · obtain ⟨l, rfl, _⟩ := h
    rfl
  · obtain ⟨l, rfl, hl, q⟩ := h
    refine ⟨_, (pss_one (ps_ret (pe_chain op_le_str op_le_str pe_str (pv 0) pe_str))), ?_⟩
    cases l with
    | nil =>
      refine ⟨_, rfl, _, _, rfl, rfl, false, ?_, ?_⟩
      · show V.bl (!decide (([] : List Nat) < [48])) = _
        rw [decide_eq_true (by exact List.Lex.nil)]
        rfl
      · exact q
    | cons c r =>
      cases r with
      | nil =>
        refine ⟨_, rfl, _, _, rfl, rfl, _, rfl, ?_⟩
        show if (!decide ([c] < [48])) = true then _ else _
        rw [le_loT]
        simp only [List.any_cons, List.any_nil, Bool.or_false, isDi] at q
        by_cases h : 48 ≤ c
        · rw [if_pos (decide_eq_true h)]
          rw [decide_eq_true h] at q
          refine ⟨_, _, rfl, rfl, ?_⟩
          show Q (.bl (!decide ([57] < [c]))) H
          rw [le_loT]
          exact q
        · rw [if_neg (by simp [h])]
          rw [decide_eq_false h] at q
          exact q
      | cons d r => simp at hl
theorem sc_is_small_letter : FnScope ["sign"] ["sign"] (defScope s_is_small_letter) := ⟨rfl, rfl, rfl, by decide +kernel, rfl, by decide +kernel, by decide +kernel⟩
theorem ok_small (T : Txt K w mg C) : Cal P w K mg base 1 "is_small_letter" (spSign1 isSm) := by
  refine cal_of T.d_is_small_letter sc_is_small_letter (fun vs H Q E h => ?_) (fun f cdv A outer s H vs Q E hr h => ?_)
  · obtain ⟨l, rfl, _⟩ := h
    rfl
  · obtain ⟨l, rfl, hl, q⟩ := h
    refine ⟨_, (pss_one (ps_ret (pe_chain op_le_str op_le_str pe_str (pv 0) pe_str))), ?_⟩
    cases l with
    | nil =>
      refine ⟨_, rfl, _, _, rfl, rfl, false, ?_, ?_⟩
      · show V.bl (!decide (([] : List Nat) < [97])) = _
        rw [decide_eq_true (by exact List.Lex.nil)]
        rfl
      · exact q
    | cons c r =>
      cases r with
      | nil =>
        refine ⟨_, rfl, _, _, rfl, rfl, _, rfl, ?_⟩
        show if (!decide ([c] < [97])) = true then _ else _
        rw [le_loT]
        simp only [List.any_cons, List.any_nil, Bool.or_false, isSm] at q
        by_cases h : 97 ≤ c
        · rw [if_pos (decide_eq_true h)]
          rw [decide_eq_true h] at q
          refine ⟨_, _, rfl, rfl, ?_⟩
          show Q (.bl (!decide ([122] < [c]))) H
          rw [le_loT]
          exact q
        · rw [if_neg (by simp [h])]
          rw [decide_eq_false h] at q
          exact q
      | cons d r => simp at hl
theorem sc_is_word_sign : FnScope ["sign"] ["sign"] (defScope s_is_word_sign) := ⟨rfl, rfl, rfl, by decide +kernel, rfl, by decide +kernel, by decide +kernel⟩
theorem ok_wsign (T : Txt K w mg C) : Cal P w K mg base 2 "is_word_sign" (spSign1 isWd) := by
  have Gis_small_letter := ok_small (P := P) (base := base) T
  have Gis_digit := ok_digit (P := P) (base := base) T
  refine cal_of T.d_is_word_sign sc_is_word_sign (fun vs H Q E h => ?_) (fun f cdv A outer s H vs Q E hr h => ?_)
  · obtain ⟨l, rfl, _⟩ := h
    rfl
  · obtain ⟨l, rfl, hl, q⟩ := h
    refine ⟨_, (pss_one (ps_ret (pe_or (pe_c Gis_small_letter hr (by decide) (by rfl) (pa_cons (pv 0) pa_nil)) (pe_or (pe_c Gis_digit hr (by decide) (by rfl) (pa_cons (pv 0) pa_nil)) (pe_one (pe_cmpR op_eq (pv 0) pe_str (nomark _))))))), ?_⟩
    have e45 : ("-" : Str) = TX [45] := rfl
    have qq : Q (.bl (l.any isSm || (l.any isDi || decide (l = [45])))) H := by
      cases l with
      | nil => exact q
      | cons c r =>
        cases r with
        | nil => simpa [isWd, Bool.or_assoc] using q
        | cons d r => simp at hl
    refine ⟨_, rfl, l, rfl, hl, ?_⟩
    cases h1 : l.any isSm with
    | true =>
      rw [h1] at qq
      exact ⟨true, rfl, iteT qq⟩
    | false =>
      rw [h1] at qq
      refine ⟨false, rfl, iteF ⟨_, rfl, l, rfl, hl, ?_⟩⟩
      cases h2 : l.any isDi with
      | true =>
        rw [h2] at qq
        exact ⟨true, rfl, iteT qq⟩
      | false =>
        rw [h2] at qq
        refine ⟨false, rfl, iteF ⟨_, rfl, rfl, ?_⟩⟩
        rw [e45, vstr_TX]
        exact qq
theorem sc_TreeReader_sign_at : FnScope ["self", "at"] ["self", "at"] (defScope s_TreeReader_sign_at) := ⟨rfl, rfl, rfl, by decide +kernel, rfl, by decide +kernel, by decide +kernel⟩
theorem ok_sign (T : Txt K w mg C) : Met P w K mg base 1 C.TreeReader "sign_at" (spSignAt C) := by
  refine met_of T.m_TreeReader_sign_at T.cl_TreeReader sc_TreeReader_sign_at (fun vs H Q E h => ?_) (fun f cdv A outer s H vs Q E hr h => ?_)
  · obtain ⟨p, dx, cs, R, n, la, ra, na, bh, rfl, _⟩ := h
    rfl
  · obtain ⟨p, dx, cs, R, n, la, ra, na, bh, rfl, a, q⟩ := h
    have h1 := a.h
    have al := a.l
    have big : 10000000 < sizeLine := by decide
    refine ⟨_, (pss_one (ps_ret (pe_slice sl_str (pe_fld (pv 0) rfl) (po_some (pv 1)) (po_some (pe_op op_add (pv 1) pe_int))))), ?_⟩
    refine ⟨_, rfl, p, _, dx, _, _, rfl, h1, T.cl_TreeReader, T.n_TreeReader_text, fs_TreeReader_text, _, rfl, _, rfl, _, rfl, _, _, rfl, rfl, _, rfl, _, rfl, by rw [TX_len]; omega, ?_⟩
    have e := cut_take (pre := cs) (R := R) (k := 1) (i := (cs.length : Int)) (j := (cs.length : Int) + 1) rfl (by omega)
    rw [e]
    exact q
theorem no_fail (T : Txt K w mg C) : Met P w K mg base 1 C.TreeReader "fail" spFalse := by
  refine met_of T.m_TreeReader_fail T.cl_TreeReader (show FnScope ["self", "at", "ahead"] ["self", "at"] (defScope s_TreeReader_fail) from ⟨rfl, rfl, rfl, by decide +kernel, rfl, by decide +kernel, by decide +kernel⟩) (fun vs H Q E h => h.elim) (fun f cdv A outer s H vs Q E hr h => h.elim)
theorem sc_TreeReader_stands : FnScope ["self", "mark", "at", "part"] ["self", "mark", "at"] (defScope s_TreeReader_stands) := ⟨rfl, rfl, rfl, by decide +kernel, rfl, by decide +kernel, by decide +kernel⟩
theorem ok_stands (T : Txt K w mg C) : Met P w K mg base 2 C.TreeReader "stands" (spStands C) := by
  have Mfail := no_fail (P := P) (w := w) (base := base) T
  refine met_of T.m_TreeReader_stands T.cl_TreeReader sc_TreeReader_stands (fun vs H Q E h => ?_) (fun f cdv A outer s H vs Q E hr h => ?_)
  · obtain ⟨p, dx, cs, R, m, n, la, ra, na, bh, b, rfl, _⟩ := h
    rfl
  · obtain ⟨p, dx, cs, R, m, n, la, ra, na, bh, b, rfl, a, ml, hsd, q⟩ := h
    have h1 := a.h
    have al := a.l
    have big : 10000000 < sizeLine := by decide
    have mz : (TX m).length ≤ sizeLine := by rw [TX_len]; omega
    refine ⟨_, (pss_cons (ps_set (i := 3) sc_TreeReader_stands.nd rfl (Or.inl rfl) (pe_slice sl_str (pe_fld (pv 0) rfl) (po_some (pv 2)) (po_some (pe_op op_add (pv 2) (pe_callB call_len_str (by rfl) T.z_len PySem.boot_len (pa_cons (pv 1) pa_nil)))))) (pss_cons (ps_if (pt_cmpR op_eq (pv 3) (pv 1) (nomark _)) (pss_one (ps_ret pe_bl)) pss_nil) (pss_cons (ps_if (pt_val (pe_bm PySem.F.plainAttrs_str PySem.F.slot_str_startswith PySem.F.type_str_startswith mt_startswith (pv 1) (pa_cons (pv 3) pa_nil))) (pss_one (ps_expr (pe_mt Mfail hr (by decide) (pv 0) (pa_cons (pe_callB call_len_str (by rfl) T.z_len PySem.boot_len (pa_cons (pe_fld (pv 0) rfl) pa_nil)) pa_nil)))) pss_nil) (pss_one (ps_ret pe_bl))))), ?_⟩
    refine ⟨_, rfl, p, _, dx, _, _, rfl, h1, T.cl_TreeReader, T.n_TreeReader_text, fs_TreeReader_text, _, rfl, _, rfl, _, rfl, _, rfl, _, rfl, mz, _, _, rfl, rfl, _, rfl, _, rfl, by rw [TX_len]; omega, ?_⟩
    have e := cut_take (pre := cs) (R := R) (k := m.length) (i := (cs.length : Int)) (j := (cs.length : Int) + ((TX m).length : Int)) rfl (by rw [TX_len]; omega)
    rw [e]
    unfold sd at hsd
    refine ⟨_, rfl, _, rfl, rfl, ?_⟩
    rw [vstr_TX]
    by_cases c : R.take m.length = m
    · rw [if_pos c] at hsd
      cases hsd
      rw [decide_eq_true c]
      exact ⟨true, rfl, iteT q⟩
    · rw [if_neg c] at hsd
      rw [decide_eq_false c]
      refine ⟨false, rfl, iteF ?_⟩
      by_cases c2 : (R.take m.length).isPrefixOf m = true
      · rw [if_pos c2] at hsd
        cases hsd
      · rw [if_neg c2] at hsd
        cases hsd
        have c3 : (R.take m.length).isPrefixOf m = false := Bool.eq_false_iff.mpr c2
        refine ⟨_, rfl, rfl, _, rfl, _, _, rfl, rfl, ?_⟩
        rw [starts0, c3]
        exact ⟨false, rfl, iteF q⟩
theorem sc_TreeReader_word_end : FnScope ["self", "at"] ["self", "at"] (defScope s_TreeReader_word_end) := ⟨rfl, rfl, rfl, by decide +kernel, rfl, by decide +kernel, by decide +kernel⟩
theorem tw_test {p : Nat → Bool} : ∀ {R : List Nat} {k : Nat}, k ≤ (R.takeWhile p).length → ((R.drop k).take 1).any p = decide (k < (R.takeWhile p).length)
  | [], k, h => by
    have : k = 0 := by simpa using h
    subst this
    simp
  | c :: r, 0, h => by
    cases hc : p c <;> simp [hc]
  | c :: r, k + 1, h => by
    cases hc : p c with
    | false => simp [hc] at h
    | true =>
      simp only [List.takeWhile_cons, hc, if_true, List.length_cons] at h ⊢
      rw [List.drop_succ_cons, tw_test (R := r) (k := k) (by omega)]
      simp
theorem any_take {g : Nat → Bool} {c : Nat} {r : List Nat} : ((c :: r).take 1).any g = g c := by simp
theorem ok_wend (T : Txt K w mg C) : Met P w K mg base 3 C.TreeReader "word_end" (spWordEnd C) := by
  have Gis_small_letter := ok_small (P := P) (base := base) T
  have Gis_word_sign := ok_wsign (P := P) (base := base) T
  have Msign_at := ok_sign (P := P) (base := base) T
  refine met_of T.m_TreeReader_word_end T.cl_TreeReader sc_TreeReader_word_end (fun vs H Q E h => ?_) (fun f cdv A outer s H vs Q E hr h => ?_)
  · obtain ⟨p, dx, cs, R, n, la, ra, na, bh, rfl, _⟩ := h
    rfl
  · obtain ⟨p, dx, cs, R, n, la, ra, na, bh, rfl, a, q⟩ := h
    have h1 := a.h
    have al := a.l
    have big : 10000000 < sizeLine := by decide
    have q := q H rfl
    refine ⟨_, (pss_cons (ps_if (pt_not (pt_val (pe_c Gis_small_letter hr (by decide) (by rfl) (pa_cons (pe_mt Msign_at hr (by decide) (pv 0) (pa_cons (pv 1) pa_nil)) pa_nil)))) (pss_one (ps_ret (pv 1))) pss_nil) (pss_cons (ps_while PassesOwn.never (pt_val (pe_c Gis_word_sign hr (by decide) (by rfl) (pa_cons (pe_mt Msign_at hr (by decide) (pv 0) (pa_cons (pv 1) pa_nil)) pa_nil))) (pss_one (ps_aug (i := 1) sc_TreeReader_word_end.nd rfl (Or.inl rfl) pe_int ip_add))) (pss_one (ps_ret (pv 1))))), ?_⟩
    have sgn : ∀ (k : Nat), k ≤ R.length → AtT C H p dx ((cs ++ R.take k) ++ R.drop k) n la ra na bh := fun k hk => by
      rw [List.append_assoc, List.take_append_drop]
      exact a
    refine ⟨_, rfl, p, dx, _, rfl, h1, rfl, _, rfl, p, dx, cs, R, n, la, ra, na, bh, rfl, a, R.take 1, rfl, by rw [List.length_take]; omega, ?_⟩
    cases R with
    | nil => exact ⟨false, rfl, iteT ⟨_, rfl, by simpa [wordR] using q⟩⟩
    | cons c r =>
      rw [any_take]
      cases hc : isSm c with
      | false =>
        refine ⟨false, rfl, iteT ⟨_, rfl, ?_⟩⟩
        have : (wordR (c :: r)).1 = [] := by simp [wordR, hc]
        rw [this] at q
        simpa using q
      | true =>
        refine ⟨true, rfl, iteF ?_⟩
        have ew : (wordR (c :: r)).1 = (c :: r).takeWhile isWd := by simp [wordR, hc]
        rw [ew] at q
        generalize c :: r = R at q al sgn
        have tl : (R.takeWhile isWd).length ≤ R.length := by
          have := congrArg List.length (List.takeWhile_append_dropWhile (p := isWd) (l := R))
          rw [List.length_append] at this
          omega
        refine ⟨fun m σ H' => ∃ k : Nat, m + k = (R.takeWhile isWd).length ∧ H' = H ∧ σ = [some (.ref p), some (.int ((cs.length + k : Nat) : Int))], ⟨(R.takeWhile isWd).length, 0, by omega, rfl, rfl⟩, ?_⟩
        rintro m σ H2 ⟨k, hk, e2, rfl⟩
        subst e2
        have hk2 : k ≤ R.length := by omega
        have ct : ((cs.length + k : Nat) : Int) = ((cs ++ R.take k).length : Int) := by rw [List.length_append, List.length_take, Nat.min_eq_left hk2]
        refine ⟨_, rfl, p, dx, _, rfl, h1, rfl, _, rfl, p, dx, cs ++ R.take k, R.drop k, n, la, ra, na, bh, (by rw [ct]; rfl), sgn k hk2, (R.drop k).take 1, rfl, by rw [List.length_take]; omega, _, rfl, ?_⟩
        rw [tw_test (by omega)]
        refine ite2 (fun c => ?_) (fun c => ?_)
        · have hlt := of_decide_eq_true c
          refine ⟨fun σ' H' => ∃ m', m' < m ∧ ∃ k : Nat, m' + k = (R.takeWhile isWd).length ∧ H' = H2 ∧ σ' = [some (.ref p), some (.int ((cs.length + k : Nat) : Int))], fun σ' H' z => z, ?_⟩
          refine ⟨_, rfl, _, _, rfl, rfl, m - 1, by omega, k + 1, by omega, rfl, ?_⟩
          show [some (V.ref p), some (V.int (((cs.length + k : Nat) : Int) + 1))] = _
          rw [show (((cs.length + k : Nat) : Int) + 1) = ((cs.length + (k + 1) : Nat) : Int) by omega]
        · have : k = (R.takeWhile isWd).length := by
            have : ¬ k < (R.takeWhile isWd).length := fun z => c (decide_eq_true z)
            omega
          subst this
          exact ⟨_, rfl, q⟩
end
end VL

set_option Elab.async false
set_option linter.all false
set_option pp.maxSteps 700
set_option maxRecDepth 100000
set_option maxHeartbeats 4000000
namespace VL
open PySem PySem.Spec PyProof.Rows L2
def spEsc (C : Ad) : Sp := fun vs H Q _ => ∃ (p dx : Addr) (cs R : List Nat) (n : Nat) (la ra na : Addr) (bh : Bool) (c : Nat) (R' : List Nat), vs = [.ref p, .int (cs.length : Int)] ∧ AtT C H p dx (cs ++ R) n la ra na bh ∧ escR R marks4 = .ok (c, R') ∧
  ∀ (t : Addr) (w : Nat) (H' : Hp), Same H H' → H' t = some (.tup [.str (TX [c]), .int (w : Int)]) → R' = R.drop w → 1 ≤ w → w ≤ R.length → Q (.ref t) H'
section
variable {P : Program} {w : World} {K : PySem.W.Frag} {mg : Str → Option Value} {base : Heap} {C : Ad}
theorem marks_at {i : Nat} {a0 a1 a2 a3 : Addr} {H : Hp} {x : V} (hi : i < 4)
    (s0 : SqT K H a0 [(V.str "&amp;"), (V.str "&")]) (s1 : SqT K H a1 [(V.str "&lt;"), (V.str "<")]) (s2 : SqT K H a2 [(V.str "&gt;"), (V.str ">")]) (s3 : SqT K H a3 [(V.str "&quot;"), (V.str "\"")])
    (hx : [V.ref a0, .ref a1, .ref a2, .ref a3][i]? = some x) : ∃ (a : Addr) (m : List Nat) (c : Nat) (r : List (List Nat × Nat)), x = .ref a ∧ SqT K H a [.str (TX m), .str (TX [c])] ∧ marks4.drop i = (m, c) :: r ∧ r = marks4.drop (i + 1) ∧ 1 ≤ m.length ∧ m.length ≤ 10 := by
  rcases i with _ | _ | _ | _ | i
  · cases hx; exact ⟨a0, zAmp, 38, _, rfl, s0, rfl, rfl, by decide, by decide⟩
  · cases hx; exact ⟨a1, zLt, 60, _, rfl, s1, rfl, rfl, by decide, by decide⟩
  · cases hx; exact ⟨a2, zGt, 62, _, rfl, s2, rfl, rfl, by decide, by decide⟩
  · cases hx; exact ⟨a3, zQuot, 34, _, rfl, s3, rfl, rfl, by decide, by decide⟩
  · omega
theorem sc_TreeReader_escaped : FnScope ["self", "at", "mark", "sign"] ["self", "at"] (defScope s_TreeReader_escaped) := ⟨rfl, rfl, rfl, by decide +kernel, rfl, by decide +kernel, by decide +kernel⟩
theorem ok_esc (T : Txt K w mg C) : Met P w K mg base 4 C.TreeReader "escaped" (spEsc C) := by
  have Mfail := no_fail (P := P) (w := w) (base := base) T
  have Mstands := ok_stands (P := P) (base := base) T
  obtain ⟨a, a0, a1, a2, a3, gE, sE, s0, s1, s2, s3⟩ := T.g_ESCAPES
  refine met_of T.m_TreeReader_escaped T.cl_TreeReader sc_TreeReader_escaped (fun vs H Q E h => ?_) (fun f cdv A outer s H vs Q E hr h => ?_)
  · obtain ⟨p, dx, cs, R, n, la, ra, na, bh, c, R', rfl, _⟩ := h
    rfl
  · obtain ⟨p, dx, cs, R, n, la, ra, na, bh, c, R', rfl, at_, he, q⟩ := h
    have h1 := at_.h
    have al := at_.l
    have big : 10000000 < sizeLine := by decide
    refine ⟨_, (pss_cons (ps_for PassesOwn.never rfl (pi_tup (C8.pe_gc (by rfl) gE)) (pg_tup rfl (pgs_cons (pg_name (i := 2) sc_TreeReader_escaped.nd rfl (Or.inl rfl)) (pgs_cons (pg_name (i := 3) sc_TreeReader_escaped.nd rfl (Or.inl rfl)) pgs_nil))) (pss_one (ps_if (pt_val (pe_mt Mstands hr (by decide) (pv 0) (pa_cons (pv 2) (pa_cons (pv 1) pa_nil)))) (pss_one (ps_ret (pe_tup (pa_cons (pv 3) (pa_cons (pe_callB call_len_str (by rfl) T.z_len PySem.boot_len (pa_cons (pv 2) pa_nil)) pa_nil))))) pss_nil))) (pss_one (ps_expr (pe_mt Mfail hr (by decide) (pv 0) (pa_cons (pv 1) pa_nil))))), ?_⟩
    refine ⟨a, rfl, ⟨_, sE H⟩, ?_⟩
    refine for_it (walk_tup (K := K) (a := a) (xs := [V.ref a0, .ref a1, .ref a2, .ref a3])) (fun i σ H' => H' = H ∧ escR R (marks4.drop i) = .ok (c, R') ∧ ∃ y2 y3 : Option V, σ = [some (.ref p), some (.int (cs.length : Int)), y2, y3]) ⟨rfl, he, _, _, rfl⟩ (fun _ _ H' _ _ => sE H') ?_ ?_
    · rintro i x σ H1 H2 hi ⟨e0, ei, y2, y3, rfl⟩ ⟨e00, hx⟩
      subst e0
      subst e00
      obtain ⟨b, m, d, r, rfl, sb, e1, e2, m1, m2⟩ := marks_at hi (s0 _) (s1 _) (s2 _) (s3 _) hx
      refine ⟨b, _, rfl, sb, rfl, _, _, rfl, _, _, rfl, rfl, ?_⟩
      rw [e1] at ei
      unfold escR at ei
      cases hs : sd m R with
      | none => rw [hs] at ei; cases ei
      | some v =>
        rw [hs] at ei
        refine ⟨_, rfl, p, dx, _, rfl, h1, rfl, _, rfl, _, rfl, p, dx, cs, R, m, n, la, ra, na, bh, v, rfl, at_, by omega, hs, _, rfl, ?_⟩
        cases v with
        | true =>
          simp only [Except.ok.injEq, Prod.mk.injEq] at ei
          obtain ⟨rfl, rfl⟩ := ei
          have hm : R.take m.length = m := by
            unfold sd at hs
            by_cases z : R.take m.length = m
            · exact z
            · rw [if_neg z] at hs
              split at hs <;> cases hs
          have hl : m.length ≤ R.length := by
            have := congrArg List.length hm
            rw [List.length_take] at this
            omega
          refine iteT ?_
          refine ⟨_, rfl, _, rfl, _, rfl, by rw [TX_len]; omega, by show 2 ≤ sizeLine; decide, fun t ht => ?_⟩
          exact q t m.length _ (Sm.new ht) (by rw [upd_same, TX_len]) rfl m1 hl
        | false =>
          refine iteF ?_
          rw [e2] at ei
          exact ⟨rfl, ei, _, _, rfl⟩
    · rintro σ H1 ⟨rfl, ei, y2, y3, rfl⟩
      cases ei
def spTakeS (C : Ad) : Sp := fun vs H Q _ => ∃ (p dx : Addr) (cs R : List Nat) (n : Nat) (la ra na : Addr) (bh : Bool) (e : Nat) (l R' : List Nat) (G : Hp) (M : List (Addr × HO)), vs = [.ref p, .int (cs.length : Int), .str (TX [e])] ∧ Sb G H ((p, RT C dx (cs ++ R) n la ra na bh) :: M) ∧ (cs ++ R).length ≤ 5000000 ∧ takeS e R.length R = .ok (l, R') ∧
  ∀ G' H', Sb G' H' ((p, RT C dx (cs ++ R) (cs.length + (R.length - R'.length)) la ra na bh) :: M) → Same G G' → R' = R.drop (R.length - R'.length) → R'.length ≤ R.length → Q (.str (TX l)) H'
theorem sd_len {m R : List Nat} (h : sd m R = some true) : m.length ≤ R.length := by
  unfold sd at h
  by_cases z : R.take m.length = m
  · have := congrArg List.length z
    rw [List.length_take] at this
    omega
  · rw [if_neg z] at h
    split at h <;> cases h
theorem esc_w : ∀ (ms : List (List Nat × Nat)) (R : List Nat) (s : Nat) (R2 : List Nat), (∀ p ∈ ms, 1 ≤ p.1.length) → escR R ms = .ok (s, R2) → ∃ w, 1 ≤ w ∧ w ≤ R.length ∧ R2 = R.drop w
  | [], R, s, R2, _, h => by simp [escR] at h
  | p :: ms, R, s, R2, hm, h => by
    unfold escR at h
    cases hs : sd p.1 R with
    | none => rw [hs] at h; cases h
    | some b =>
      rw [hs] at h
      cases b with
      | true =>
        simp only [Except.ok.injEq, Prod.mk.injEq] at h
        exact ⟨p.1.length, hm p List.mem_cons_self, sd_len hs, h.2.symm⟩
      | false => exact esc_w ms R s R2 (fun q hq => hm q (List.mem_cons_of_mem _ hq)) h
theorem m4 : ∀ p ∈ marks4, 1 ≤ p.1.length := by decide
theorem take_drop {e : Nat} : ∀ (f : Nat) (R l R' : List Nat), takeS e f R = .ok (l, R') → R.length ≤ f → R' = R.drop (R.length - R'.length) ∧ R'.length ≤ R.length ∧ l.length ≤ R.length
  | 0, R, l, R', h, hf => by
    have : R = [] := List.length_eq_zero_iff.mp (by omega)
    subst this
    simp only [takeS, Except.ok.injEq, Prod.mk.injEq] at h
    obtain ⟨rfl, rfl⟩ := h
    simp
  | f + 1, [], l, R', h, hf => by
    simp only [takeS, Except.ok.injEq, Prod.mk.injEq] at h
    obtain ⟨rfl, rfl⟩ := h
    simp
  | f + 1, c :: r, l, R', h, hf => by
    simp only [takeS] at h
    by_cases hc : c = e
    · rw [if_pos hc] at h
      simp only [Except.ok.injEq, Prod.mk.injEq] at h
      obtain ⟨rfl, rfl⟩ := h
      simp
    · rw [if_neg hc] at h
      by_cases h38 : c = 38
      · rw [if_pos h38] at h
        cases hs : escR (c :: r) marks4 with
        | error k => rw [hs] at h; cases h
        | ok p =>
          obtain ⟨s, R2⟩ := p
          rw [hs] at h
          simp only at h
          obtain ⟨w, w1, w2, rfl⟩ := esc_w _ _ _ _ m4 hs
          cases ht : takeS e f ((c :: r).drop w) with
          | error k => rw [ht] at h; cases h
          | ok p =>
            obtain ⟨l1, R1⟩ := p
            rw [ht] at h
            simp only [Except.ok.injEq, Prod.mk.injEq] at h
            obtain ⟨rfl, rfl⟩ := h
            obtain ⟨e1, e2, e3⟩ := take_drop f _ l1 R1 ht (by rw [List.length_drop]; omega)
            rw [List.length_drop] at e1 e2 e3
            refine ⟨?_, by omega, by rw [List.length_cons]; omega⟩
            rw [List.drop_drop] at e1
            rw [show (c :: r).length - R1.length = w + ((c :: r).length - w - R1.length) by omega]
            exact e1
      · rw [if_neg h38] at h
        cases ht : takeS e f r with
        | error k => rw [ht] at h; cases h
        | ok p =>
          obtain ⟨l1, R1⟩ := p
          rw [ht] at h
          simp only [Except.ok.injEq, Prod.mk.injEq] at h
          obtain ⟨rfl, rfl⟩ := h
          obtain ⟨e1, e2, e3⟩ := take_drop f r l1 R1 ht (by simpa using hf)
          refine ⟨?_, by simp only [List.length_cons]; omega, by simp only [List.length_cons]; omega⟩
          rw [show (c :: r).length - R1.length = (r.length - R1.length) + 1 by simp only [List.length_cons]; omega, List.drop_succ_cons]
          exact e1
end
end VL

set_option Elab.async false
set_option linter.all false
set_option pp.maxSteps 700
set_option maxRecDepth 100000
set_option maxHeartbeats 4000000
namespace VL
open PySem PySem.Spec PyProof.Rows L2
theorem oneTX (l : List Nat) : (l.map fun c => V.str (TX [c])) = ((l.map fun c => [c]).map TX).map V.str := by
  rw [List.map_map, List.map_map]
  rfl
theorem flat_oneT (l : List Nat) : (l.map fun c => [c]).flatten = l := by
  induction l with
  | nil => rfl
  | cons a l ih => simp [ih]
section
variable {P : Program} {w : World} {K : PySem.W.Frag} {mg : Str → Option Value} {base : Heap} {C : Ad}
theorem sc_TreeReader_take_signs : FnScope ["self", "at", "end", "signs", "sign", "width"] ["self", "at", "end"] (defScope s_TreeReader_take_signs) := ⟨rfl, rfl, rfl, by decide +kernel, rfl, by decide +kernel, by decide +kernel⟩
theorem ok_take (T : Txt K w mg C) : Met P w K mg base 5 C.TreeReader "take_signs" (spTakeS C) := by
  have Mescaped := ok_esc (P := P) (base := base) T
  refine met_of T.m_TreeReader_take_signs T.cl_TreeReader sc_TreeReader_take_signs (fun vs H Q E h => ?_) (fun f cdv A outer s H vs Q E hr h => ?_)
  · obtain ⟨p, dx, cs, R, n, la, ra, na, bh, e, l, R', G, M, rfl, _⟩ := h
    rfl
  · obtain ⟨p, dx, cs, R, n, la, ra, na, bh, e, l, R', G, M, rfl, S0, hl, ht, q⟩ := h
    have big : 10000000 < sizeLine := by decide
    obtain ⟨td1, td2, td3⟩ := take_drop R.length R l R' ht (Nat.le_refl _)
    have q := fun G' H' a b => q G' H' a b td1 td2
    have zT : (TX (cs ++ R)).length ≤ sizeLine := by rw [TX_len]; omega
    have hl2 : cs.length + R.length ≤ 5000000 := by simpa using hl
    refine ⟨_, (pss_cons (ps_set (i := 3) sc_TreeReader_take_signs.nd rfl (Or.inl rfl) (pe_lst pa_nil)) (pss_cons (ps_while PassesOwn.never (PW.pt (pw_and (pt_cmpR op_lt (pv 1) (pe_callB call_len_str (by rfl) T.z_len PySem.boot_len (pa_cons (pe_fld (pv 0) rfl) pa_nil)) (nomark _)) (pw_and1 (pt_cmpR op_ne (pe_ix ix_str (pe_fld (pv 0) rfl) (pv 1) (fun _ _ => rfl)) (pv 2) (nomark _))))) (pss_cons (ps_set (i := 4) sc_TreeReader_take_signs.nd rfl (Or.inl rfl) (pe_ix ix_str (pe_fld (pv 0) rfl) (pv 1) (fun _ _ => rfl))) (pss_cons (ps_set (i := 5) sc_TreeReader_take_signs.nd rfl (Or.inl rfl) pe_int) (C8.pss_cut (ps_if (pt_cmpR op_eq (pv 4) pe_str (nomark _)) (pss_one (ps_asg (pe_mt Mescaped hr (by decide) (pv 0) (pa_cons (pv 1) pa_nil)) (pg_tup rfl (pgs_cons (pg_name (i := 4) sc_TreeReader_take_signs.nd rfl (Or.inl rfl)) (pgs_cons (pg_name (i := 5) sc_TreeReader_take_signs.nd rfl (Or.inl rfl)) pgs_nil))))) pss_nil) (pss_cons (ps_expr (pe_bm PySem.F.plainAttrs_list PySem.F.slot_list_append PySem.F.type_list_append mt_append (pv 3) (pa_cons (pv 4) pa_nil))) (pss_one (ps_aug (i := 1) sc_TreeReader_take_signs.nd rfl (Or.inl rfl) (pv 5) ip_add))))))) (pss_cons (ps_fld (pv 0) (pv 1) rfl) (pss_one (ps_ret (pe_join pe_str (pv 3))))))), ?_⟩
    refine ⟨by show 0 ≤ sizeLine; decide, fun S hS => ?_⟩
    have S1 := S0.add (o := .lst []) hS
    refine ⟨fun m σ H' => ∃ (k : Nat) (l1 l2 : List Nat) (f : Nat) (G1 : Hp) (y4 y5 : Option V), m + k = R.length ∧ (R.drop k).length ≤ f ∧ takeS e f (R.drop k) = .ok (l2, R') ∧ l = l1 ++ l2 ∧ Sb G1 H' ((S, .lst (l1.map fun c => V.str (TX [c]))) :: (p, RT C dx (cs ++ R) n la ra na bh) :: M) ∧ Same G G1 ∧
      σ = [some (.ref p), some (.int ((cs.length + k : Nat) : Int)), some (.str (TX [e])), some (.ref S), y4, y5], ⟨R.length, 0, [], l, R.length, G, none, none, by omega, by simp, by simpa using ht, rfl, S1, Same.refl _, rfl⟩, ?_⟩
    rintro m σ H1 ⟨k, l1, l2, f, G1, y4, y5, hk, hf, hts, el, S2, g1, rfl⟩
    have h1 := S2.hd2
    refine ⟨_, rfl, _, rfl, p, _, dx, _, _, rfl, h1, T.cl_TreeReader, T.n_TreeReader_text, fs_TreeReader_text, _, rfl, zT, _, _, rfl, rfl, _, rfl, ?_⟩
    cases hd : R.drop k with
    | nil =>
      have kR : k = R.length := by
        have := congrArg List.length hd
        rw [List.length_drop, List.length_nil] at this
        omega
      rw [hd] at hts
      have e2 : l2 = [] ∧ R' = [] := by
        cases f with
        | zero =>
          simp only [takeS, Except.ok.injEq, Prod.mk.injEq] at hts
          exact ⟨hts.1.symm, hts.2.symm⟩
        | succ f =>
          simp only [takeS, Except.ok.injEq, Prod.mk.injEq] at hts
          exact ⟨hts.1.symm, hts.2.symm⟩
      obtain ⟨rfl, rfl⟩ := e2
      rw [List.append_nil] at el
      have ell := congrArg List.length el
      simp only [el] at q
      have : decide (((cs.length + k : Nat) : Int) < ((TX (cs ++ R)).length : Int)) = false := decide_eq_false (by rw [TX_len, List.length_append]; omega)
      rw [this]
      refine iteF ?_
      refine ⟨_, rfl, _, rfl, p, _, dx, _, rfl, h1, T.cl_TreeReader, T.n_TreeReader_at, (by show 6 < 1000; decide), ?_⟩
      rw [put_at (m := cs.length + k) rfl]
      have S3 := S2.put2 (u := RT C dx (cs ++ R) (cs.length + k) la ra na bh)
      have hS3 := S3.hd
      have fl := flat_oneT l1
      simp only [oneTX] at hS3
      refine ⟨⟨_, rfl⟩, _, rfl, _, S, _, rfl, rfl, .inl (SqL.of hS3), ?_, ?_⟩
      · rw [sum_TX, fl]
        show _ + _ * 0 ≤ _
        omega
      · rw [k_00, join_TX, fl]
        obtain ⟨S4, g4⟩ := S3.drop
        have ee : cs.length + (R.length - ([] : List Nat).length) = cs.length + k := by simp; omega
        rw [ee] at q
        exact q _ _ S4 (Same.trans g1 g4)
    | cons c r =>
      have kR : k < R.length := by
        have := congrArg List.length hd
        rw [List.length_drop, List.length_cons] at this
        omega
      have : decide (((cs.length + k : Nat) : Int) < ((TX (cs ++ R)).length : Int)) = true := decide_eq_true (by rw [TX_len, List.length_append]; omega)
      rw [this]
      refine iteT ?_
      have eT : cs ++ R = (cs ++ R.take k) ++ c :: r := by rw [← hd, List.append_assoc, List.take_append_drop]
      have ek : ((cs.length + k : Nat) : Int) = ((cs ++ R.take k).length : Int) := by rw [List.length_append, List.length_take, Nat.min_eq_left (by omega)]
      have hat : atI (TX (cs ++ R)).cps.toList ((cs.length + k : Nat) : Int) = some c := by
        rw [eT]
        exact at_mid ek
      refine ⟨_, rfl, p, _, dx, _, _, rfl, h1, T.cl_TreeReader, T.n_TreeReader_text, fs_TreeReader_text, _, rfl, _, _, c, rfl, rfl, zT, hat, _, rfl, rfl, _, rfl, ?_⟩
      have fne : ∃ f', f = f' + 1 := ⟨f - 1, by
        rw [hd, List.length_cons] at hf
        omega⟩
      obtain ⟨f', rfl⟩ := fne
      rw [hd] at hts
      simp only [takeS] at hts
      show (if (!decide (V.str (TX [c]) = V.str (TX [e]))) = true then _ else _)
      rw [vstr_TX]
      by_cases hc : c = e
      · rw [if_pos hc] at hts
        simp only [Except.ok.injEq, Prod.mk.injEq] at hts
        obtain ⟨rfl, rfl⟩ := hts
        rw [List.append_nil] at el
        have ell := congrArg List.length el
        simp only [el] at q
        rw [show (!decide ([c] = [e])) = false by simp [hc]]
        refine iteF ?_
        refine ⟨_, rfl, _, rfl, p, _, dx, _, rfl, h1, T.cl_TreeReader, T.n_TreeReader_at, (by show 6 < 1000; decide), ?_⟩
        rw [put_at (m := cs.length + k) rfl]
        have S3 := S2.put2 (u := RT C dx (cs ++ R) (cs.length + k) la ra na bh)
        have hS3 := S3.hd
        have fl := flat_oneT l1
        simp only [oneTX] at hS3
        refine ⟨⟨_, rfl⟩, _, rfl, _, S, _, rfl, rfl, .inl (SqL.of hS3), ?_, ?_⟩
        · rw [sum_TX, fl]
          show _ + _ * 0 ≤ _
          omega
        · rw [k_00, join_TX, fl]
          obtain ⟨S4, g4⟩ := S3.drop
          have ee : cs.length + (R.length - (c :: r).length) = cs.length + k := by rw [← hd, List.length_drop]; omega
          rw [ee] at q
          exact q _ _ S4 (Same.trans g1 g4)
      rw [if_neg hc] at hts
      rw [show (!decide ([c] = [e])) = true by simp [hc]]
      refine iteT ?_
      have hf' : r.length ≤ f' := by
        rw [hd, List.length_cons] at hf
        omega
      refine ⟨fun σ' H' => ∃ m', m' < m ∧ ∃ (k : Nat) (l1 l2 : List Nat) (f : Nat) (G1 : Hp) (y4 y5 : Option V), m' + k = R.length ∧ (R.drop k).length ≤ f ∧ takeS e f (R.drop k) = .ok (l2, R') ∧ l = l1 ++ l2 ∧ Sb G1 H' ((S, .lst (l1.map fun c => V.str (TX [c]))) :: (p, RT C dx (cs ++ R) n la ra na bh) :: M) ∧ Same G G1 ∧
        σ' = [some (.ref p), some (.int ((cs.length + k : Nat) : Int)), some (.str (TX [e])), some (.ref S), y4, y5], fun σ' H' z => z, ?_⟩
      refine ⟨_, rfl, p, _, dx, _, _, rfl, h1, T.cl_TreeReader, T.n_TreeReader_text, fs_TreeReader_text, _, rfl, _, _, c, rfl, rfl, zT, hat, ?_⟩
      refine ⟨fun σ' H' => ∃ (s w : Nat) (l3 : List Nat) (f3 : Nat) (G2 : Hp), 1 ≤ w ∧ k + w ≤ R.length ∧ (R.drop (k + w)).length ≤ f3 ∧ takeS e f3 (R.drop (k + w)) = .ok (l3, R') ∧ l2 = s :: l3 ∧ Sb G2 H' ((S, .lst (l1.map fun c => V.str (TX [c]))) :: (p, RT C dx (cs ++ R) n la ra na bh) :: M) ∧ Same G1 G2 ∧
        σ' = [some (.ref p), some (.int ((cs.length + k : Nat) : Int)), some (.str (TX [e])), some (.ref S), some (.str (TX [s])), some (.int (w : Int))], ?_, ?_⟩
      · refine ⟨_, rfl, rfl, _, rfl, ?_⟩
        show (if decide (V.str (TX [c]) = V.str "&") = true then _ else _)
        rw [k_amp, vstr_TX]
        by_cases h38 : c = 38
        · rw [if_pos h38] at hts
          rw [show decide ([c] = [38]) = true by simp [h38]]
          refine iteT ?_
          cases hs : escR (c :: r) marks4 with
          | error z => rw [hs] at hts; cases hts
          | ok z =>
            obtain ⟨s, R2⟩ := z
            rw [hs] at hts
            simp only at hts
            cases ht2 : takeS e f' R2 with
            | error z => rw [ht2] at hts; cases hts
            | ok z =>
              obtain ⟨l3, R3⟩ := z
              rw [ht2] at hts
              simp only [Except.ok.injEq, Prod.mk.injEq] at hts
              obtain ⟨rfl, rfl⟩ := hts
              have at2 : AtT C H1 p dx ((cs ++ R.take k) ++ c :: r) n la ra na bh := by
                rw [← eT]
                exact ⟨h1, hl⟩
              refine ⟨_, rfl, p, dx, _, rfl, h1, rfl, _, rfl, p, dx, cs ++ R.take k, c :: r, n, la, ra, na, bh, s, R2, (by rw [ek]; rfl), at2, hs, fun t w H2 s2 ht hw w1 w2 => ?_⟩
              refine ⟨t, _, rfl, SqT.of ht, rfl, _, _, rfl, _, _, rfl, rfl, ?_⟩
              have S2' : ∃ G2, Sb G2 H2 ((S, .lst (l1.map fun c => V.str (TX [c]))) :: (p, RT C dx (cs ++ R) n la ra na bh) :: M) ∧ Same G1 G2 := ⟨_, S2.call s2, joinH_l⟩
              obtain ⟨G2, S3, g3⟩ := S2'
              have ed : R.drop (k + w) = R2 := by rw [hw, ← hd, List.drop_drop]
              have wl : (c :: r).length = R.length - k := by rw [← hd, List.length_drop]
              refine ⟨s, w, l3, f', G2, w1, by omega, ?_, by rw [ed]; exact ht2, rfl, S3, g3, rfl⟩
              rw [List.length_drop]
              rw [List.length_cons] at wl
              omega
        · rw [if_neg h38] at hts
          rw [show decide ([c] = [38]) = false by simp [h38]]
          refine iteF ?_
          cases ht2 : takeS e f' r with
          | error z => rw [ht2] at hts; cases hts
          | ok z =>
            obtain ⟨l3, R3⟩ := z
            rw [ht2] at hts
            simp only [Except.ok.injEq, Prod.mk.injEq] at hts
            obtain ⟨rfl, rfl⟩ := hts
            have ed : R.drop (k + 1) = r := by rw [← List.drop_drop, hd]; rfl
            exact ⟨c, 1, l3, f', G1, Nat.le_refl _, by omega, by rw [ed]; exact hf', by rw [ed]; exact ht2, rfl, S2, Same.refl _, rfl⟩
      · rintro σ' H2 ⟨s, w, l3, f3, G2, w1, w2, hf3, ht3, rfl, S3, g3, rfl⟩
        have hS := S3.hd
        have ll : l1.length + (l3.length + 1) ≤ 5000000 := by
          have := td3
          rw [el, List.length_append, List.length_cons] at this
          omega
        refine ⟨_, rfl, .inl ⟨rfl, _, SqL.of hS⟩, _, rfl, S, _, _, rfl, rfl, hS, by rw [List.length_map]; omega, ?_⟩
        refine ⟨_, rfl, _, rfl, _, _, rfl, rfl, R.length - (k + w), by omega, k + w, l1 ++ [s], l3, f3, G2, some (.str (TX [s])), some (.int (w : Int)), by omega, hf3, ht3, by rw [el]; simp, ?_, Same.trans g1 g3, ?_⟩
        · have := S3.put (u := .lst ((l1.map fun c => V.str (TX [c])) ++ [V.str (TX [s])]))
          simpa using this
        · show [some (V.ref p), some (V.int (((cs.length + k : Nat) : Int) + (w : Int))), _, _, _, _] = _
          rw [show (((cs.length + k : Nat) : Int) + (w : Int)) = ((cs.length + (k + w) : Nat) : Int) by omega]
end
end VL

set_option Elab.async false
set_option linter.all false
set_option pp.maxSteps 700
set_option maxRecDepth 100000
set_option maxHeartbeats 4000000
namespace VL
open PySem PySem.Spec PyProof.Rows L2
theorem attR_ok {names : List (List Nat)} {R R' : List Nat} {a : List Nat × List Nat} (h : attR names R = .ok (a, R')) : R.head? = some 32 ∧ sd [61, 34] (wordR R.tail).2 = some true ∧ (wordR R.tail).1 ≠ [] ∧ (wordR R.tail).1 ∉ names ∧
    ∃ v R2, takeS 34 ((wordR R.tail).2.drop 2).length ((wordR R.tail).2.drop 2) = .ok (v, R2) ∧ R2 ≠ [] ∧ a = ((wordR R.tail).1, v) ∧ R' = R2.tail := by
  unfold attR at h
  by_cases h1 : R.head? = some 32
  · rw [if_neg (fun z => z h1)] at h
    by_cases h2 : (wordR R.tail).1 = [] ∧ (wordR R.tail).2 ≠ []
    · rw [if_pos h2] at h
      cases h
    · rw [if_neg h2] at h
      cases h3 : sd [61, 34] (wordR R.tail).2 with
      | none => rw [h3] at h; cases h
      | some b =>
        rw [h3] at h
        cases b with
        | false => cases h
        | true =>
          simp only at h
          by_cases h4 : (wordR R.tail).1 ∈ names
          · rw [if_pos h4] at h
            cases h
          · rw [if_neg h4] at h
            cases h5 : takeS 34 ((wordR R.tail).2.drop 2).length ((wordR R.tail).2.drop 2) with
            | error k => rw [h5] at h; cases h
            | ok p =>
              obtain ⟨v, R2⟩ := p
              rw [h5] at h
              simp only at h
              by_cases h6 : R2 = []
              · rw [if_pos h6] at h
                cases h
              · rw [if_neg h6] at h
                simp only [Except.ok.injEq, Prod.mk.injEq] at h
                have ne : (wordR R.tail).1 ≠ [] := fun z => h2 ⟨z, fun y => by rw [y] at h3; exact absurd (sd_len h3) (by decide)⟩
                exact ⟨h1, rfl, ne, h4, v, R2, rfl, h6, h.1.symm, h.2.symm⟩
  · rw [if_pos h1] at h
    cases h
theorem word_cat : ∀ X : List Nat, (wordR X).1 ++ (wordR X).2 = X
  | [] => rfl
  | c :: r => by
    by_cases h : isSm c = true
    · simp only [wordR, h, if_true]
      exact List.takeWhile_append_dropWhile
    · simp [wordR, h]
theorem nWl {a b w : Nat} (h : (a : Int) + 1 = (b : Int)) (hw : 1 ≤ w) : ¬ ((b + w : Nat) : Int) = (a : Int) + 1 := by omega
abbrev nmK (names : List (List Nat)) : List (Key × V) := names.map fun l => ((Sum.inr (TX l) : Key), V.bl true)
theorem nm_val {names : List (List Nat)} {l : List Nat} (h : l ∉ names) : valV (nmK names) (.inr (TX l)) = none := valV_out (by
  intro z
  rw [List.map_map] at z
  obtain ⟨s, hs, e⟩ := List.mem_map.mp z
  exact h (by rw [← TX_inj (Sum.inr.inj e)]; exact hs))
def spTakeA (C : Ad) : Sp := fun vs H Q _ => ∃ (p dx d : Addr) (cs R : List Nat) (la ra na : Addr) (bh : Bool) (names : List (List Nat)) (a : List Nat × List Nat) (R' : List Nat) (G : Hp) (M : List (Addr × HO)), vs = [.ref p, .ref d] ∧ Sb G H ((p, RT C dx (cs ++ R) cs.length la ra na bh) :: (d, .dK (nmK names)) :: M) ∧ (cs ++ R).length ≤ 5000000 ∧ names.length ≤ 10000000 ∧ attR names R = .ok (a, R') ∧
  ∀ t G' H' cs', Sb G' H' ((p, RT C dx (cs ++ R) cs'.length la ra na bh) :: (d, .dK (nmK (names ++ [a.1]))) :: M) → Same G G' → G' t = some (.tup [.str (TX a.1), .str (TX a.2)]) → cs ++ R = cs' ++ R' → cs.length < cs'.length → Q (.ref t) H'
section
variable {P : Program} {w : World} {K : PySem.W.Frag} {mg : Str → Option Value} {base : Heap} {C : Ad}
theorem sc_TreeReader_take_attribute : FnScope ["self", "names", "at", "begin", "end", "name", "value"] ["self", "names"] (defScope s_TreeReader_take_attribute) := ⟨rfl, rfl, rfl, by decide +kernel, rfl, by decide +kernel, by decide +kernel⟩
theorem ok_att (T : Txt K w mg C) : Met P w K mg base 6 C.TreeReader "take_attribute" (spTakeA C) := by
  have Mfail := no_fail (P := P) (w := w) (base := base) T
  have Mstands := ok_stands (P := P) (base := base) T
  have Mword_end := ok_wend (P := P) (base := base) T
  have Mtake_signs := ok_take (P := P) (base := base) T
  refine met_of T.m_TreeReader_take_attribute T.cl_TreeReader sc_TreeReader_take_attribute (fun vs H Q E h => ?_) (fun f cdv A outer s H vs Q E hr h => ?_)
  · obtain ⟨p, dx, d, cs, R, la, ra, na, bh, names, a, R', G, M, rfl, _⟩ := h
    rfl
  · obtain ⟨p, dx, d, cs, R, la, ra, na, bh, names, a, R', G, M, rfl, S, hl, hnl, he, q⟩ := h
    have hu := hu_of hr
    have big : 16000018 < sizeLine := by decide
    obtain ⟨e1, e2, e3, e4, v, R2, e5, e6, rfl, rfl⟩ := attR_ok he
    obtain ⟨X, rfl⟩ : ∃ X, R = 32 :: X := by
      cases R with
      | nil => cases e1
      | cons c r => cases e1; exact ⟨r, rfl⟩
    simp only [List.tail_cons] at e2 e3 e4 e5 q
    have hX := word_cat X
    generalize hW : (wordR X).1 = W at e2 e3 e4 e5 q hX
    generalize hY : (wordR X).2 = Y at e2 e5 hX
    have h1 := S.hd
    have zT : (TX (cs ++ 32 :: X)).length ≤ sizeLine := by rw [TX_len]; omega
    have hl2 : cs.length + (X.length + 1) ≤ 5000000 := by simpa using hl
    have hXl : X.length = W.length + Y.length := by rw [← hX, List.length_append]
    have hYl := sd_len e2
    simp only [List.length_cons, List.length_nil] at hYl
    have Wl : 1 ≤ W.length := by cases W with | nil => exact absurd rfl e3 | cons _ _ => simp
    refine ⟨_, (pss_cons (ps_set (i := 2) sc_TreeReader_take_attribute.nd rfl (Or.inl rfl) (pe_fld (pv 0) rfl)) (pss_cons (ps_set (i := 3) sc_TreeReader_take_attribute.nd rfl (Or.inl rfl) (pe_op op_add (pv 2) pe_int)) (pss_cons (ps_set (i := 4) sc_TreeReader_take_attribute.nd rfl (Or.inl rfl) (pe_mt Mword_end hr (by decide) (pv 0) (pa_cons (pv 3) pa_nil))) (pss_cons (ps_if (pt_cmpR op_ne (pe_ix ix_str (pe_fld (pv 0) rfl) (pv 2) (fun _ _ => rfl)) pe_str (nomark _)) (pss_one (ps_expr (pe_mt Mfail hr (by decide) (pv 0) (pa_cons (pv 2) pa_nil)))) pss_nil) (pss_cons (ps_if (PW.pt (pw_and (pt_cmpR op_eq (pv 4) (pv 3) (nomark _)) (pw_and1 (pt_cmpR op_lt (pv 4) (pe_callB call_len_str (by rfl) T.z_len PySem.boot_len (pa_cons (pe_fld (pv 0) rfl) pa_nil)) (nomark _))))) (pss_one (ps_expr (pe_mt Mfail hr (by decide) (pv 0) (pa_cons (pv 2) pa_nil)))) pss_nil) (pss_cons (ps_if (pt_not (pt_val (pe_mt Mstands hr (by decide) (pv 0) (pa_cons (C8.pe_gc (by rfl) T.g_VALUE_BEGIN) (pa_cons (pv 4) pa_nil))))) (pss_one (ps_expr (pe_mt Mfail hr (by decide) (pv 0) (pa_cons (pv 2) pa_nil)))) pss_nil) (pss_cons (ps_set (i := 5) sc_TreeReader_take_attribute.nd rfl (Or.inl rfl) (pe_slice sl_str (pe_fld (pv 0) rfl) (po_some (pv 3)) (po_some (pv 4)))) (pss_cons (ps_if (pt_cmp (pc_din hu (pv 5) (pv 1))) (pss_one (ps_expr (pe_mt Mfail hr (by decide) (pv 0) (pa_cons (pv 3) pa_nil)))) pss_nil) (pss_cons (ps_dput hu (pv 1) (pv 5) pe_bl rfl) (pss_cons (ps_set (i := 6) sc_TreeReader_take_attribute.nd rfl (Or.inl rfl) (pe_mt Mtake_signs hr (by decide) (pv 0) (pa_cons (pe_op op_add (pv 4) (pe_callB call_len_str (by rfl) T.z_len PySem.boot_len (pa_cons (C8.pe_gc (by rfl) T.g_VALUE_BEGIN) pa_nil))) (pa_cons pe_str pa_nil)))) (pss_cons (ps_if (pt_cmpR op_eq (pe_fld (pv 0) rfl) (pe_callB call_len_str (by rfl) T.z_len PySem.boot_len (pa_cons (pe_fld (pv 0) rfl) pa_nil)) (nomark _)) (pss_one (ps_expr (pe_mt Mfail hr (by decide) (pv 0) (pa_cons (pe_fld (pv 0) rfl) pa_nil)))) pss_nil) (pss_cons (ps_fldaug (pv 0) pe_int in_add) (pss_one (ps_ret (pe_tup (pa_cons (pv 5) (pa_cons (pv 6) pa_nil))))))))))))))))), ?_⟩
    refine ⟨_, rfl, p, _, dx, _, _, rfl, h1, T.cl_TreeReader, T.n_TreeReader_at, fs_TreeReader_at, ?_⟩
    refine ⟨_, rfl, _, _, rfl, rfl, ?_⟩
    have t1 : cs ++ 32 :: X = (cs ++ [32]) ++ X := by simp
    have c1 : ((cs.length : Int) + 1) = ((cs ++ [32]).length : Int) := by simp
    refine ⟨_, rfl, p, dx, _, rfl, h1, rfl, _, rfl, p, dx, cs ++ [32], X, cs.length, la, ra, na, bh, (by rw [← c1]; rfl), ⟨by rw [← t1]; exact h1, by rw [← t1]; exact hl⟩, fun H' eH => ?_⟩
    subst eH
    rw [hW]
    have hat : atI (TX (cs ++ 32 :: X)).cps.toList (cs.length : Int) = some 32 := at_mid rfl
    refine ⟨_, rfl, p, _, dx, _, _, rfl, h1, T.cl_TreeReader, T.n_TreeReader_text, fs_TreeReader_text, _, rfl, _, _, 32, rfl, rfl, zT, hat, rfl, _, rfl, ite2 (fun c => absurd c (by decide +kernel)) (fun _ => ?_)⟩
    refine ⟨_, rfl, _, rfl, rfl, _, rfl, ite2 (fun c => absurd (V.int.inj (of_decide_eq_true c)) (nWl c1 Wl)) (fun _ => ?_)⟩
    have t2 : cs ++ 32 :: X = ((cs ++ [32]) ++ W) ++ Y := by rw [t1, ← hX]; simp
    have c2 : (((cs ++ [32]).length + W.length : Nat) : Int) = (((cs ++ [32]) ++ W).length : Int) := by rw [List.length_append (as := cs ++ [32])]
    have c3 : ((((cs ++ [32]) ++ W).length : Nat) : Int) = (((cs ++ [32]).length + W.length : Nat) : Int) := c2.symm
    refine ⟨_, rfl, p, dx, _, rfl, h1, rfl, _, rfl, p, dx, (cs ++ [32]) ++ W, Y, [61, 34], cs.length, la, ra, na, bh, true, (by rw [← c2]; rfl), ⟨by rw [← t2]; exact h1, by rw [← t2]; exact hl⟩, by decide, e2, true, rfl, ite2 (fun c => nomatch c) (fun _ => ?_)⟩
    have ecut : cutS (TX (cs ++ 32 :: X)) (some ((cs.length : Int) + 1)) (some (((cs ++ [32]).length + W.length : Nat) : Int)) = TX W := by
      rw [t1, cut_take (pre := cs ++ [32]) (R := X) (k := W.length) c1 rfl, ← hX, List.take_left]
    refine ⟨_, rfl, p, _, dx, _, _, rfl, h1, T.cl_TreeReader, T.n_TreeReader_text, fs_TreeReader_text, _, rfl, _, rfl, _, rfl, _, rfl, _, rfl, zT, ?_⟩
    rw [ecut]
    refine ⟨_, rfl, _, rfl, d, _, rfl, DGet.k (k := .inr (TX W)) S.hd2, _, rfl, ?_⟩
    rw [nm_val e4]
    refine iteF ?_
    refine ⟨_, rfl, _, rfl, d, _, rfl, DPut.k (k := .inr (TX W)) S.hd2 (by rw [List.length_map]; omega), ?_⟩
    rw [putK_nw (nm_val e4)]
    have S2 := S.put2 (u := .dK (nmK names ++ [(.inr (TX W), V.bl true)]))
    have h2 := S2.hd
    have e61 := (show ([61, 34] : List Nat) ++ Y.drop 2 = Y from by
      have hs := e2
      unfold sd at hs
      by_cases z : Y.take ([61, 34] : List Nat).length = [61, 34]
      · have := List.take_append_drop 2 Y
        rw [show Y.take 2 = [61, 34] from z] at this
        exact this
      · rw [if_neg z] at hs
        split at hs <;> cases hs)
    have t3 : cs ++ 32 :: X = ((cs ++ [32]) ++ W ++ [61, 34]) ++ Y.drop 2 := by rw [t2, List.append_assoc _ [61, 34], e61]
    have hdl : (Y.drop 2).length = Y.length - 2 := List.length_drop
    have c4 : ((((cs ++ [32]).length + W.length : Nat) : Int) + (("=\"" : Str).length : Int)) = ((((cs ++ [32]) ++ W ++ [61, 34]).length : Nat) : Int) := by
      rw [show (("=\"" : Str).length : Int) = 2 from rfl, List.length_append, List.length_append]
      simp
      omega
    rw [t3] at S2
    refine ⟨_, rfl, p, dx, _, rfl, h2, rfl, _, rfl, _, rfl, (by decide), _, _, rfl, rfl, p, dx, (cs ++ [32]) ++ W ++ [61, 34], Y.drop 2, cs.length, la, ra, na, bh, 34, v, R2, G, _, ?_, S2, by rw [← t3]; exact hl, e5, fun G3 H3 S3 g3 e7 e8 => ?_⟩
    · show [V.ref p, V.int ((((cs ++ [32]).length + W.length : Nat) : Int) + (("=\"" : Str).length : Int)), V.str "\""] = _
      rw [c4]
      rfl
    have hR : ((cs ++ [32]) ++ W ++ [61, 34]).length + ((Y.drop 2).length - R2.length) = (((cs ++ [32]) ++ W ++ [61, 34]) ++ (Y.drop 2).take ((Y.drop 2).length - R2.length)).length := by
      rw [List.length_append (bs := (Y.drop 2).take _), List.length_take]
      omega
    have t4 : cs ++ 32 :: X = (((cs ++ [32]) ++ W ++ [61, 34]) ++ (Y.drop 2).take ((Y.drop 2).length - R2.length)) ++ R2 := by
      rw [t3, List.append_assoc _ _ R2]
      exact congrArg _ ((List.take_append_drop _ _).symm.trans (by rw [← e7]))
    rw [hR, ← t3] at S3
    have l5 : cs.length < (((cs ++ [32]) ++ W ++ [61, 34]) ++ (Y.drop 2).take ((Y.drop 2).length - R2.length)).length + 1 := by simp only [List.length_append]; omega
    generalize ((cs ++ [32]) ++ W ++ [61, 34]) ++ (Y.drop 2).take ((Y.drop 2).length - R2.length) = c5 at t4 S3 l5
    have h3 := S3.hd
    obtain ⟨c, r, rfl⟩ : ∃ c r, R2 = c :: r := by cases R2 with | nil => exact absurd rfl e6 | cons c r => exact ⟨c, r, rfl⟩
    have ln5 := congrArg List.length t4
    rw [List.length_append (as := c5), List.length_cons] at ln5
    refine ⟨_, rfl, p, _, dx, _, _, rfl, h3, T.cl_TreeReader, T.n_TreeReader_at, fs_TreeReader_at, _, rfl, p, _, dx, _, _, rfl, h3, T.cl_TreeReader, T.n_TreeReader_text, fs_TreeReader_text, _, rfl, zT, rfl, _, rfl, ite2 (fun z => absurd (V.int.inj (of_decide_eq_true z)) (by rw [TX_len]; omega)) (fun _ => ?_)⟩
    refine ⟨_, rfl, p, _, dx, _, _, rfl, h3, T.cl_TreeReader, T.n_TreeReader_at, fs_TreeReader_at, _, _, rfl, rfl, dx, _, h3, (by show 6 < 1000; decide), ?_⟩
    rw [put_at (m := (c5 ++ [c]).length) (by simp)]
    have S4 := S3.put (u := RT C dx (cs ++ 32 :: X) (c5 ++ [c]).length la ra na bh)
    refine ⟨_, rfl, _, rfl, by show 2 ≤ sizeLine; decide, fun t ht => ?_⟩
    have S5 := S4.alloc (o := .tup [.str (TX W), .str (TX v)]) ht
    have g5 := S4.grow (o := .tup [.str (TX W), .str (TX v)]) ht
    refine q t _ _ (c5 ++ [c]) ?_ (Same.trans g3 g5) upd_same (by rw [t4]; simp) ?_
    · have : nmK (names ++ [W]) = nmK names ++ [(.inr (TX W), V.bl true)] := by simp [nmK]
      rw [this]
      exact S5
    · rw [List.length_append, List.length_singleton]
      exact l5
end
end VL

set_option Elab.async false
set_option linter.all false
set_option pp.maxSteps 700
set_option maxRecDepth 100000
set_option maxHeartbeats 4000000
namespace VL
open PySem PySem.Spec PyProof.Rows L2
theorem Sb.perm {G H : Hp} {M N : List (Addr × HO)} (h : M.Perm N) (S : Sb G H M) : Sb G H N :=
  ⟨S.s, fun p hp => S.m p (h.mem_iff.mpr hp), (h.map _).nodup_iff.mp S.nd⟩
/-- the reader, its list of lists, what is around, the digits seen, and the lists themselves -/
def lM (ids : List Addr) (cts : List (List V)) : List (Addr × HO) := (ids.zip cts).map fun q => (q.1, HO.lst q.2)
def rM (C : Ad) (p dx : Addr) (T : List Nat) (n : Nat) (la ra na : Addr) (bh : Bool) (ids : List Addr) (cts : List (List V)) (hv : List V) (nk : List (Key × V)) : List (Addr × HO) :=
  (p, RT C dx T n la ra na bh) :: (la, .lst (ids.map V.ref)) :: (ra, .lst hv) :: (na, .dK nk) :: lM ids cts
theorem lM_snoc {ids : List Addr} {cts : List (List V)} {i : Addr} {xs : List V} (h : ids.length = cts.length) : lM (ids ++ [i]) (cts ++ [xs]) = lM ids cts ++ [(i, .lst xs)] := by
  unfold lM
  rw [List.zip_append h]
  simp
/-- the innermost list in front -/
theorem top_perm {C : Ad} {p dx : Addr} {T : List Nat} {n : Nat} {la ra na : Addr} {bh : Bool} {ids : List Addr} {cts : List (List V)} {hv : List V} {nk : List (Key × V)} {i : Addr} {xs : List V} (h : ids.length = cts.length) :
    (rM C p dx T n la ra na bh (ids ++ [i]) (cts ++ [xs]) hv nk).Perm ((i, .lst xs) :: (p, RT C dx T n la ra na bh) :: (la, .lst ((ids ++ [i]).map V.ref)) :: (ra, .lst hv) :: (na, .dK nk) :: lM ids cts) := by
  unfold rM
  rw [lM_snoc h]
  have : ∀ (a b c d e : Addr × HO) (l : List (Addr × HO)), (a :: b :: c :: d :: (l ++ [e])).Perm (e :: a :: b :: c :: d :: l) := fun a b c d e l => by
    have h1 : (a :: b :: c :: d :: (l ++ [e])) = (a :: b :: c :: d :: l) ++ [e] := rfl
    rw [h1]
    exact List.perm_append_comm
  exact this _ _ _ _ _ _
section
variable {P : Program} {w : World} {K : PySem.W.Frag} {mg : Str → Option Value} {base : Heap} {C : Ad}
def spChk (C : Ad) : Sp := fun vs H Q _ => ∃ (p dx : Addr) (z : Int) (T : List Nat) (n : Nat) (la ra na : Addr) (bh : Bool) (ids : List Addr), vs = [.ref p, .int z] ∧ H p = some (RT C dx T n la ra na bh) ∧ H la = some (.lst (ids.map V.ref)) ∧ ids.length ≤ 40 ∧ Q .non H
theorem sc_TreeReader_check_level : FnScope ["self", "at"] ["self", "at"] (defScope s_TreeReader_check_level) := ⟨rfl, rfl, rfl, by decide +kernel, rfl, by decide +kernel, by decide +kernel⟩
theorem ok_chk (T : Txt K w mg C) : Met P w K mg base 2 C.TreeReader "check_level" (spChk C) := by
  have Mfail := no_fail (P := P) (w := w) (base := base) T
  refine met_of T.m_TreeReader_check_level T.cl_TreeReader sc_TreeReader_check_level (fun vs H Q E h => ?_) (fun f cdv A outer s H vs Q E hr h => ?_)
  · obtain ⟨p, dx, z, T', n, la, ra, na, bh, ids, rfl, _⟩ := h
    rfl
  · obtain ⟨p, dx, z, T', n, la, ra, na, bh, ids, rfl, h1, h2, hl, q⟩ := h
    refine ⟨_, (pss_one (ps_if (pt_cmpR op_gt (pe_callB call_len_seq (by rfl) T.z_len PySem.boot_len (pa_cons (pe_fld (pv 0) rfl) pa_nil)) (C8.pe_gc (by rfl) T.g_LOWEST_LEVEL) (nomark _)) (pss_one (ps_expr (pe_mt Mfail hr (by decide) (pv 0) (pa_cons (pv 1) pa_nil)))) pss_nil)), ?_⟩
    refine ⟨_, rfl, p, _, dx, _, _, rfl, h1, T.cl_TreeReader, T.n_TreeReader_lists, fs_TreeReader_lists, la, _, rfl, .inl (SqL.of h2), _, _, rfl, rfl, _, rfl, ite2 (fun c => absurd (of_decide_eq_true c) (by rw [List.length_map]; omega)) (fun _ => ?_)⟩
    exact q
def spJoinT (C : Ad) : Sp := fun vs H Q _ => ∃ (p dx : Addr) (l : List Nat) (T : List Nat) (n : Nat) (la ra na : Addr) (bh : Bool) (ids : List Addr) (cts : List (List V)) (i : Addr) (xs : List V) (hv : List V) (nk : List (Key × V)) (G : Hp), vs = [.ref p, .str (TX l)] ∧ ids.length = cts.length ∧
  Sb G H (rM C p dx T n la ra na bh (ids ++ [i]) (cts ++ [xs]) hv nk) ∧ xs.length ≤ 5000000 ∧ ∀ t G' H', Sb G' H' (rM C p dx T n la ra na bh (ids ++ [i]) (cts ++ [xs ++ [.ref t]]) hv nk) → Same G G' → G' t = some (.tup [.str "text", .str (TX l)]) → Q .non H'
theorem atI_last {xs : List V} {x : V} : atI (xs ++ [x]) (-1) = some x := by
  unfold atI ixN
  rw [if_neg (by decide), if_pos (by rw [List.length_append, List.length_singleton]; omega)]
  have : ((-1 : Int) + ((xs ++ [x]).length : Int)).toNat = xs.length := by rw [List.length_append, List.length_singleton]; omega
  show (xs ++ [x])[((-1 : Int) + ((xs ++ [x]).length : Int)).toNat]? = _
  rw [this]
  simp
theorem sc_TreeReader_join_text : FnScope ["self", "text"] ["self", "text"] (defScope s_TreeReader_join_text) := ⟨rfl, rfl, rfl, by decide +kernel, rfl, by decide +kernel, by decide +kernel⟩
theorem ok_join (T : Txt K w mg C) : Met P w K mg base 1 C.TreeReader "join_text" (spJoinT C) := by
  refine met_of T.m_TreeReader_join_text T.cl_TreeReader sc_TreeReader_join_text (fun vs H Q E h => ?_) (fun f cdv A outer s H vs Q E hr h => ?_)
  · obtain ⟨p, dx, l, T', n, la, ra, na, bh, ids, cts, i, xs, hv, nk, G, rfl, _⟩ := h
    rfl
  · obtain ⟨p, dx, l, T', n, la, ra, na, bh, ids, cts, i, xs, hv, nk, G, rfl, hic, S, hx, q⟩ := h
    have big : 10000000 < sizeLine := by decide
    have S1 := S.perm (top_perm hic)
    have h1 : H p = some (RT C dx T' n la ra na bh) := S.hd
    have h2 : H la = some (.lst ((ids ++ [i]).map V.ref)) := S.hd2
    refine ⟨_, (pss_one (ps_expr (pe_bm PySem.F.plainAttrs_list PySem.F.slot_list_append PySem.F.type_list_append mt_append (pe_ix ix_list (pe_fld (pv 0) rfl) (pe_un un_neg pe_int) (fun _ _ => rfl)) (pa_cons (pe_tup (pa_cons pe_str (pa_cons (pv 1) pa_nil))) pa_nil)))), ?_⟩
    refine ⟨_, rfl, p, _, dx, _, _, rfl, h1, T.cl_TreeReader, T.n_TreeReader_lists, fs_TreeReader_lists, _, rfl, la, _, -1, _, rfl, rfl, SqL.of h2, (show atI ((ids ++ [i]).map V.ref) (-1) = some (V.ref i) from by rw [List.map_append]; exact atI_last), .inl ⟨rfl, _, SqL.of S1.hd⟩, ?_⟩
    refine ⟨_, rfl, by show 2 ≤ sizeLine; decide, fun t ht => ?_⟩
    have S2 := S1.alloc (o := .tup [.str "text", .str (TX l)]) ht
    have g2 := S1.grow (o := .tup [.str "text", .str (TX l)]) ht
    refine ⟨i, _, _, rfl, rfl, S2.hd, by omega, ?_⟩
    have S3 := S2.put (u := .lst (xs ++ [.ref t]))
    exact q t _ _ (S3.perm (top_perm hic).symm) g2 upd_same
end
end VL

set_option Elab.async false
set_option linter.all false
set_option pp.maxSteps 700
set_option maxRecDepth 100000
set_option maxHeartbeats 4000000
namespace VL
open PySem PySem.Spec PyProof.Rows L2
theorem P3 {α : Type} {a b c : α} {l : List α} : (a :: b :: c :: l).Perm (c :: a :: b :: l) := ((List.Perm.swap c b l).cons a).trans (List.Perm.swap c a (b :: l))
section
variable {P : Program} {w : World} {K : PySem.W.Frag} {mg : Str → Option Value} {base : Heap} {C : Ad}
def spBegin (C : Ad) : Sp := fun vs H Q _ => ∃ (p dx nd : Addr) (T : List Nat) (n : Nat) (la ra na : Addr) (bh : Bool) (ids : List Addr) (cts : List (List V)) (hv : List V) (nk : List (Key × V)) (G : Hp), vs = [.ref p, .ref nd] ∧ ids.length = cts.length ∧
  Sb G H (rM C p dx T n la ra na bh ids cts hv nk) ∧ ids.length ≤ 5000000 ∧ hv.length ≤ 5000000 ∧ ∀ i G' H', Sb G' H' (rM C p dx T n la ra na bh (ids ++ [i]) (cts ++ [[]]) (hv ++ [.ref nd]) nk) → Same G G' → Q .non H'
theorem sc_TreeReader_begin_node : FnScope ["self", "node"] ["self", "node"] (defScope s_TreeReader_begin_node) := ⟨rfl, rfl, rfl, by decide +kernel, rfl, by decide +kernel, by decide +kernel⟩
theorem ok_begin (T : Txt K w mg C) : Met P w K mg base 1 C.TreeReader "begin_node" (spBegin C) := by
  refine met_of T.m_TreeReader_begin_node T.cl_TreeReader sc_TreeReader_begin_node (fun vs H Q E h => ?_) (fun f cdv A outer s H vs Q E hr h => ?_)
  · obtain ⟨p, dx, nd, T', n, la, ra, na, bh, ids, cts, hv, nk, G, rfl, _⟩ := h
    rfl
  · obtain ⟨p, dx, nd, T', n, la, ra, na, bh, ids, cts, hv, nk, G, rfl, hic, S, hi, hh, q⟩ := h
    have big : 10000000 < sizeLine := by decide
    have h1 : H p = some (RT C dx T' n la ra na bh) := S.hd
    have S1 := S.perm P3
    have h3 : H ra = some (.lst hv) := S1.hd
    refine ⟨_, (pss_cons (ps_expr (pe_bm PySem.F.plainAttrs_list PySem.F.slot_list_append PySem.F.type_list_append mt_append (pe_fld (pv 0) rfl) (pa_cons (pv 1) pa_nil))) (pss_one (ps_expr (pe_bm PySem.F.plainAttrs_list PySem.F.slot_list_append PySem.F.type_list_append mt_append (pe_fld (pv 0) rfl) (pa_cons (pe_lst pa_nil) pa_nil))))), ?_⟩
    refine ⟨_, rfl, p, _, dx, _, _, rfl, h1, T.cl_TreeReader, T.n_TreeReader_around, fs_TreeReader_around, .inl ⟨rfl, _, SqL.of h3⟩, _, rfl, ra, _, _, rfl, rfl, h3, by omega, ?_⟩
    have S2 := (S1.put (u := .lst (hv ++ [.ref nd]))).perm P3.symm
    have h1' : (upd H ra (.lst (hv ++ [.ref nd]))) p = some (RT C dx T' n la ra na bh) := S2.hd
    have h2' : (upd H ra (.lst (hv ++ [.ref nd]))) la = some (.lst (ids.map V.ref)) := S2.hd2
    generalize upd H ra (.lst (hv ++ [.ref nd])) = H1 at S2 h1' h2' ⊢
    refine ⟨_, rfl, p, _, dx, _, _, rfl, h1', T.cl_TreeReader, T.n_TreeReader_lists, fs_TreeReader_lists, .inl ⟨rfl, _, SqL.of h2'⟩, by show 0 ≤ sizeLine; decide, fun i hi' => ?_⟩
    have S3 := (S2.add (o := .lst []) hi').perm P3
    refine ⟨la, _, _, rfl, rfl, S3.hd, by rw [List.length_map]; omega, ?_⟩
    have S4 := (S3.put (u := .lst (ids.map V.ref ++ [.ref i]))).perm P3.symm
    have e : ids.map V.ref ++ [.ref i] = (ids ++ [i]).map V.ref := by simp
    rw [e] at S4 ⊢
    exact q i _ _ (S4.perm (top_perm hic).symm) (Same.refl _)
def spEndN (C : Ad) : Sp := fun vs H Q _ => ∃ (p dx nd : Addr) (T : List Nat) (n : Nat) (la ra na : Addr) (bh : Bool) (ids : List Addr) (cts : List (List V)) (i k : Addr) (xs ks ys : List V) (hv : List V) (nk : List (Key × V)) (G : Hp), vs = [.ref p] ∧ ids.length = cts.length ∧
  Sb G H (rM C p dx T n la ra na bh ((ids ++ [i]) ++ [k]) ((cts ++ [xs]) ++ [ks]) (hv ++ [.ref nd]) nk) ∧ G nd = some (.tup ys) ∧ ys.length ≤ 1000 ∧ xs.length ≤ 5000000 ∧
  ∀ t G' H', Sb G' H' (rM C p dx T n la ra na bh (ids ++ [i]) (cts ++ [xs ++ [.ref t]]) hv nk) → Same G G' → G' t = some (.tup (ys ++ [.ref k])) → G' k = some (.lst ks) → Q .non H'
theorem sc_TreeReader_end_node : FnScope ["self", "kids", "node"] ["self"] (defScope s_TreeReader_end_node) := ⟨rfl, rfl, rfl, by decide +kernel, rfl, by decide +kernel, by decide +kernel⟩
theorem ok_endN (T : Txt K w mg C) : Met P w K mg base 1 C.TreeReader "end_node" (spEndN C) := by
  refine met_of T.m_TreeReader_end_node T.cl_TreeReader sc_TreeReader_end_node (fun vs H Q E h => ?_) (fun f cdv A outer s H vs Q E hr h => ?_)
  · obtain ⟨p, dx, nd, T', n, la, ra, na, bh, ids, cts, i, k, xs, ks, ys, hv, nk, G, rfl, _⟩ := h
    rfl
  · obtain ⟨p, dx, nd, T', n, la, ra, na, bh, ids, cts, i, k, xs, ks, ys, hv, nk, G, rfl, hic, S, hnd, hyl, hxl, q⟩ := h
    have big : 10000000 < sizeLine := by decide
    have h1 : H p = some (RT C dx T' n la ra na bh) := S.hd
    have h2 : H la = some (.lst (((ids ++ [i]) ++ [k]).map V.ref)) := S.hd2
    have hic2 : (ids ++ [i]).length = (cts ++ [xs]).length := by simp [hic]
    refine ⟨_, (pss_cons (ps_set (i := 1) sc_TreeReader_end_node.nd rfl (Or.inl rfl) (pe_bm0 PySem.F.plainAttrs_list PySem.F.slot_list_pop PySem.F.type_list_pop mt_pop (pe_fld (pv 0) rfl))) (pss_cons (ps_set (i := 2) sc_TreeReader_end_node.nd rfl (Or.inl rfl) (pe_bm0 PySem.F.plainAttrs_list PySem.F.slot_list_pop PySem.F.type_list_pop mt_pop (pe_fld (pv 0) rfl))) (pss_one (ps_expr (pe_bm PySem.F.plainAttrs_list PySem.F.slot_list_append PySem.F.type_list_append mt_append (pe_ix ix_list (pe_fld (pv 0) rfl) (pe_un un_neg pe_int) (fun _ _ => rfl)) (pa_cons (pe_tup (StX.pa_star (pv 2) (pa_cons (pv 1) pa_nil))) pa_nil)))))), ?_⟩
    refine ⟨_, rfl, p, _, dx, _, _, rfl, h1, T.cl_TreeReader, T.n_TreeReader_lists, fs_TreeReader_lists, .inl ⟨rfl, _, SqL.of h2⟩, la, _, .ref k, rfl, rfl, h2, by simp, ?_⟩
    have S1 := (S.perm (top_perm hic2)).perm P3
    have S2 := (S1.put (u := .lst ((((ids ++ [i]) ++ [k]).map V.ref).dropLast))).perm P3.symm
    have ed : (((ids ++ [i]) ++ [k]).map V.ref).dropLast = (ids ++ [i]).map V.ref := by simp
    rw [ed] at S2 ⊢
    have h1' : (upd H la (.lst ((ids ++ [i]).map V.ref))) p = some (RT C dx T' n la ra na bh) := S2.hd2
    generalize upd H la (.lst ((ids ++ [i]).map V.ref)) = H1 at S2 h1' ⊢
    obtain ⟨S3, g3⟩ := S2.drop
    have hk3 : (upd G k (.lst ks)) k = some (.lst ks) := upd_same
    generalize upd G k (.lst ks) = G3 at S3 g3 hk3
    have S4 := S3.perm P3
    have h3 : H1 ra = some (.lst (hv ++ [.ref nd])) := S4.hd
    refine ⟨_, rfl, p, _, dx, _, _, rfl, h1', T.cl_TreeReader, T.n_TreeReader_around, fs_TreeReader_around, .inl ⟨rfl, _, SqL.of h3⟩, ra, _, .ref nd, rfl, rfl, h3, by simp, ?_⟩
    rw [List.dropLast_concat]
    have S5 := (S4.put (u := .lst hv)).perm P3.symm
    have h1'' : (upd H1 ra (.lst hv)) p = some (RT C dx T' n la ra na bh) := S5.hd
    have h2'' : (upd H1 ra (.lst hv)) la = some (.lst ((ids ++ [i]).map V.ref)) := S5.hd2
    generalize upd H1 ra (.lst hv) = H2 at S5 h1'' h2'' ⊢
    have S6 := S5.perm (top_perm (C := C) (p := p) (dx := dx) (T := T') (n := n) (la := la) (ra := ra) (na := na) (bh := bh) (hv := hv) (nk := nk) (xs := xs) hic)
    refine ⟨_, rfl, p, _, dx, _, _, rfl, h1'', T.cl_TreeReader, T.n_TreeReader_lists, fs_TreeReader_lists, _, rfl, la, _, -1, _, rfl, rfl, SqL.of h2'', (show atI ((ids ++ [i]).map V.ref) (-1) = some (V.ref i) from by rw [List.map_append]; exact atI_last), .inl ⟨rfl, _, SqL.of S6.hd⟩, ?_⟩
    refine ⟨_, rfl, nd, ys, rfl, .inl (SqT.of (S6.s _ _ (g3 _ _ hnd))), _, rfl, by rw [List.length_append, List.length_singleton]; omega, fun t ht => ?_⟩
    have S7 := S6.alloc (o := .tup (ys ++ [.ref k])) ht
    have g7 := S6.grow (o := .tup (ys ++ [.ref k])) ht
    refine ⟨i, _, _, rfl, rfl, S7.hd, by omega, ?_⟩
    have S8 := S7.put (u := .lst (xs ++ [.ref t]))
    exact q t _ _ (S8.perm (top_perm hic).symm) (Same.trans g3 g7) upd_same (g7 _ _ hk3)
end
end VL

set_option Elab.async false
set_option linter.all false
set_option pp.maxSteps 700
set_option maxRecDepth 100000
set_option maxHeartbeats 4000000
namespace VL
open PySem PySem.Spec PyProof.Rows L2
/-! ### the reader's state in the heap -/
def hdOk (G : Hp) (v : V) : Hd → Prop
  | .el t as => ∃ q pa, v = .ref q ∧ G q = some (.tup [.str "element", .str (TX t), .ref pa]) ∧ Dq G (.ref pa) (.list (as.map pairD))
  | .aw n => ∃ q, v = .ref q ∧ G q = some (.tup [.str "await", nVV n])
theorem hdOk.same {G G' : Hp} {v : V} {h : Hd} (k : hdOk G v h) (s : Same G G') : hdOk G' v h := by
  cases h with
  | el t as =>
    obtain ⟨q, pa, e, h1, h2⟩ := k
    exact ⟨q, pa, e, s _ _ h1, h2.same s⟩
  | aw n =>
    obtain ⟨q, e, h1⟩ := k
    exact ⟨q, e, s _ _ h1⟩
inductive CtR (G : Hp) : List (List V) → List (List Nd) → Prop
  | nil : CtR G [] []
  | top {cts : List (List V)} {ls : List (List Nd)} {xs : List V} {L : List Nd} : CtR G cts ls → DqAll G xs (encS L) → CtR G (cts ++ [xs]) (L :: ls)
inductive HvR (G : Hp) : List V → List Hd → Prop
  | nil : HvR G [] []
  | top {hv : List V} {ar : List Hd} {v : V} {h : Hd} : HvR G hv ar → hdOk G v h → HvR G (hv ++ [v]) (h :: ar)
theorem CtR.same {G G' : Hp} (s : Same G G') : ∀ {cts : List (List V)} {ls : List (List Nd)}, CtR G cts ls → CtR G' cts ls
  | _, _, .nil => .nil
  | _, _, .top h d => .top (CtR.same s h) (d.same s)
theorem HvR.same {G G' : Hp} (s : Same G G') : ∀ {hv : List V} {ar : List Hd}, HvR G hv ar → HvR G' hv ar
  | _, _, .nil => .nil
  | _, _, .top h d => .top (HvR.same s h) (d.same s)
theorem CtR.len {G : Hp} : ∀ {cts : List (List V)} {ls : List (List Nd)}, CtR G cts ls → cts.length = ls.length
  | _, _, .nil => rfl
  | _, _, .top h _ => by simp [CtR.len h]
theorem HvR.len {G : Hp} : ∀ {hv : List V} {ar : List Hd}, HvR G hv ar → hv.length = ar.length
  | _, _, .nil => rfl
  | _, _, .top h _ => by simp [HvR.len h]
theorem CtR.split {G : Hp} {cts : List (List V)} {L : List Nd} {ls : List (List Nd)} (h : CtR G cts (L :: ls)) : ∃ c xs, cts = c ++ [xs] ∧ CtR G c ls ∧ DqAll G xs (encS L) := by
  cases h with
  | top h d => exact ⟨_, _, rfl, h, d⟩
theorem HvR.split {G : Hp} {hv : List V} {x : Hd} {ar : List Hd} (h : HvR G hv (x :: ar)) : ∃ c v, hv = c ++ [v] ∧ HvR G c ar ∧ hdOk G v x := by
  cases h with
  | top h d => exact ⟨_, _, rfl, h, d⟩
theorem ids_snoc {ids : List Addr} {n : Nat} (h : ids.length = n + 1) : ∃ a i, ids = a ++ [i] ∧ a.length = n := by
  rcases List.eq_nil_or_concat ids with rfl | ⟨a, i, rfl⟩
  · cases h
  · exact ⟨a, i, by simp, by simpa using h⟩
/-- the reader has read up to n -/
structure Rd (C : Ad) (G H : Hp) (p dx la ra na : Addr) (T : List Nat) (n : Nat) (bh : Bool) (ls : List (List Nd)) (ar : List Hd) (ns : List (List Nat)) (ids : List Addr) (cts : List (List V)) (hv : List V) : Prop where
  S : Sb G H (rM C p dx T n la ra na bh ids cts hv (nmK ns))
  e : ids.length = cts.length
  c : CtR G cts ls
  h : HvR G hv ar
def spPc (C : Ad) (f : RS → Except Nat RS) : Sp := fun vs H Q _ => ∃ (p dx la ra na : Addr) (cs : List Nat) (s s' : RS) (G : Hp) (ids : List Addr) (cts : List (List V)) (hv : List V), vs = [.ref p, .int (cs.length : Int)] ∧ s.R.head? = some 60 ∧
  Rd C G H p dx la ra na (cs ++ s.R) cs.length s.bh s.ls s.ar s.ns ids cts hv ∧ (cs ++ s.R).length ≤ 5000000 ∧ Bd cs.length s ∧ f s = .ok s' ∧
  ∀ G' H' cs' b ids' cts' hv', Rd C G' H' p dx la ra na (cs' ++ s'.R) cs'.length b s'.ls s'.ar s'.ns ids' cts' hv' → cs ++ s.R = cs' ++ s'.R → Same G G' → Q .non H'
theorem atts_ok : ∀ {f : Nat} {acc as : List (List Nat × List Nat)} {R R' : List Nat}, attsR (f + 1) acc R = .ok (as, R') →
    (sd [62] R = some true ∧ as = acc ∧ R' = R.tail) ∨ (sd [62] R = some false ∧ ∃ a R2, attR (acc.map (·.1)) R = .ok (a, R2) ∧ attsR f (acc ++ [a]) R2 = .ok (as, R')) := by
  intro f acc as R R' h
  simp only [attsR] at h
  cases e : sd [62] R with
  | none => rw [e] at h; cases h
  | some b =>
    rw [e] at h
    cases b with
    | true => cases h; exact .inl ⟨rfl, rfl, rfl⟩
    | false =>
      simp only at h
      cases e2 : attR (acc.map (·.1)) R with
      | error k => rw [e2] at h; cases h
      | ok x =>
        obtain ⟨a, R2⟩ := x
        rw [e2] at h
        exact .inr ⟨rfl, a, R2, rfl, h⟩
theorem sd_cons {m R : List Nat} (h : sd m R = some true) : R = m ++ R.drop m.length := by
  unfold sd at h
  by_cases z : R.take m.length = m
  · have := List.take_append_drop m.length R
    rw [z] at this
    exact this.symm
  · rw [if_neg z] at h
    split at h <;> cases h
theorem pairs_nm (as : List (List Nat × List Nat)) (a : List Nat × List Nat) : nmK ((as ++ [a]).map (·.1)) = nmK (as.map (·.1) ++ [a.1]) := by simp
section
variable {P : Program} {w : World} {K : PySem.W.Frag} {mg : Str → Option Value} {base : Heap} {C : Ad}
theorem sc_TreeReader_read_start : FnScope ["self", "at", "tag", "attributes", "names"] ["self", "at"] (defScope s_TreeReader_read_start) := ⟨rfl, rfl, rfl, by decide +kernel, rfl, by decide +kernel, by decide +kernel⟩
theorem ok_start (T : Txt K w mg C) : Met P w K mg base 7 C.TreeReader "read_start" (spPc C startR) := by
  have Mcheck_level := ok_chk (P := P) (w := w) (base := base) T
  have Mstands := ok_stands (P := P) (base := base) T
  have Mword_end := ok_wend (P := P) (base := base) T
  have Mtake_attribute := ok_att (P := P) (base := base) T
  have Mbegin_node := ok_begin (P := P) (w := w) (base := base) T
  refine met_of T.m_TreeReader_read_start T.cl_TreeReader sc_TreeReader_read_start (fun vs H Q E h => ?_) (fun f cdv A outer s H vs Q E hr h => ?_)
  · obtain ⟨p, dx, la, ra, na, cs, rs, s', G, ids, cts, hv, rfl, _⟩ := h
    rfl
  · obtain ⟨p, dx, la, ra, na, cs, rs, s', G, ids, cts, hv, rfl, hd, D, hl, bd, hf, q⟩ := h
    have big : 16000018 < sizeLine := by decide
    obtain ⟨l40, as, R', hat, rfl⟩ := startR_ok hf
    obtain ⟨R, ls, ar, ns, bh⟩ := rs
    obtain ⟨X, rfl⟩ : ∃ X, R = 60 :: X := by
      cases R with
      | nil => cases hd
      | cons c r => cases hd; exact ⟨r, rfl⟩
    simp only [List.tail_cons] at hat q l40 D hl
    have hX := word_cat X
    generalize hW : (wordR X).1 = W at q hX
    generalize hY : (wordR X).2 = Y at hat q hX
    have hlX := congrArg List.length hX
    rw [List.length_append] at hlX
    have hl2 : cs.length + (X.length + 1) ≤ 5000000 := by simpa using hl
    have t1 : cs ++ 60 :: X = (cs ++ [60]) ++ X := by simp
    have t2 : cs ++ 60 :: X = ((cs ++ [60]) ++ W) ++ Y := by rw [t1, ← hX, List.append_assoc (cs ++ [60])]
    have zT : (TX (cs ++ 60 :: X)).length ≤ sizeLine := by rw [TX_len, List.length_append, List.length_cons]; omega
    have c1 : ((cs.length : Int) + 1) = ((cs ++ [60]).length : Int) := by simp
    have S := D.S
    have idl : ids.length ≤ 40 := by rw [D.e, D.c.len]; exact l40
    have h1 : H p = some (RT C dx (cs ++ 60 :: X) cs.length la ra na bh) := S.hd
    have h2 : H la = some (.lst (ids.map V.ref)) := S.hd2
    refine ⟨_, (pss_cons (ps_expr (pe_mt Mcheck_level hr (by decide) (pv 0) (pa_cons (pv 1) pa_nil))) (pss_cons (ps_fld (pv 0) (pe_mt Mword_end hr (by decide) (pv 0) (pa_cons (pe_op op_add (pv 1) pe_int) pa_nil)) rfl) (pss_cons (ps_set (i := 2) sc_TreeReader_read_start.nd rfl (Or.inl rfl) (pe_slice sl_str (pe_fld (pv 0) rfl) (po_some (pe_op op_add (pv 1) pe_int)) (po_some (pe_fld (pv 0) rfl)))) (pss_cons (ps_set (i := 3) sc_TreeReader_read_start.nd rfl (Or.inl rfl) (pe_lst pa_nil)) (pss_cons (ps_set (i := 4) sc_TreeReader_read_start.nd rfl (Or.inl rfl) pe_dnewK) (pss_cons (ps_while PassesOwn.never (pt_not (pt_val (pe_mt Mstands hr (by decide) (pv 0) (pa_cons pe_str (pa_cons (pe_fld (pv 0) rfl) pa_nil))))) (pss_one (ps_expr (pe_bm PySem.F.plainAttrs_list PySem.F.slot_list_append PySem.F.type_list_append mt_append (pv 3) (pa_cons (pe_mt Mtake_attribute hr (by decide) (pv 0) (pa_cons (pv 4) pa_nil)) pa_nil))))) (pss_cons (ps_fldaug (pv 0) pe_int in_add) (pss_one (ps_expr (pe_mt Mbegin_node hr (by decide) (pv 0) (pa_cons (pe_tup (pa_cons pe_str (pa_cons (pv 2) (pa_cons (pv 3) pa_nil)))) pa_nil))))))))))), ?_⟩
    refine ⟨_, rfl, p, dx, _, rfl, h1, rfl, _, rfl, p, dx, _, cs ++ 60 :: X, cs.length, la, ra, na, bh, ids, rfl, h1, h2, idl, ?_⟩
    refine ⟨_, rfl, p, dx, _, rfl, h1, rfl, _, rfl, _, _, rfl, rfl, p, dx, cs ++ [60], X, cs.length, la, ra, na, bh, by rw [← c1]; rfl, ⟨by rw [← t1]; exact h1, by rw [← t1]; exact hl⟩, ?_⟩
    rintro _ rfl
    rw [hW]
    have e2 : cs ++ 60 :: X = ((cs ++ [60]) ++ W) ++ Y := t2
    refine ⟨_, rfl, p, _, dx, _, rfl, h1, T.cl_TreeReader, T.n_TreeReader_at, (by show 6 < 1000; decide), ?_⟩
    rw [put_at (m := ((cs ++ [60]) ++ W).length) (by simp only [List.length_append])]
    have S2 := S.put (u := RT C dx (cs ++ 60 :: X) ((cs ++ [60]) ++ W).length la ra na bh)
    have h3 := S2.hd
    generalize upd _ p _ = H1 at S2 h3 ⊢
    refine ⟨_, rfl, p, _, dx, _, _, rfl, h3, T.cl_TreeReader, T.n_TreeReader_text, fs_TreeReader_text, _, rfl, _, _, rfl, rfl, _, rfl, _, rfl, p, _, dx, _, _, rfl, h3, T.cl_TreeReader, T.n_TreeReader_at, fs_TreeReader_at, _, rfl, _, rfl, zT, ?_⟩
    have ec : cutS (TX (cs ++ 60 :: X)) (some ((cs.length : Int) + 1)) (some ((((cs ++ [60]) ++ W).length : Nat) : Int)) = TX W := by
      rw [t2, List.append_assoc]
      exact cut_mid c1 (by rw [List.length_append])
    show _
    rw [ec]
    refine ⟨by show 0 ≤ sizeLine; decide, fun la1 hla1 => ?_⟩
    have S3 := S2.add (o := .lst []) hla1
    refine fun na1 hna1 => ?_
    have S4 := (S3.add (o := .dK []) hna1).perm P3
    generalize upd (upd H1 la1 (.lst [])) na1 (.dK []) = H4 at S4 ⊢
    clear h3 S3 hna1 hla1 S2 h1 h2 hr
    have sg62 : (">" : Str) = TX [62] := rfl
    refine ⟨fun m σ H' => ∃ (G1 : Hp) (acc : List (List Nat × List Nat)) (vs : List V) (cs1 R1 : List Nat) (f1 : Nat), m = R1.length ∧ attsR f1 acc R1 = .ok (as, R') ∧
      Sb G1 H' ((p, RT C dx (cs ++ 60 :: X) cs1.length la ra na bh) :: (na1, .dK (nmK (acc.map (·.1)))) :: (la1, .lst vs) :: (la, .lst (ids.map V.ref)) :: (ra, .lst hv) :: (na, .dK (nmK ns)) :: lM ids cts) ∧ Same G G1 ∧ DqAll G1 vs (acc.map pairD) ∧ cs ++ 60 :: X = cs1 ++ R1 ∧ acc.length ≤ cs1.length ∧
      σ = [some (.ref p), some (.int (cs.length : Int)), some (.str (TX W)), some (.ref la1), some (.ref na1)],
      ⟨_, G, [], [], (cs ++ [60]) ++ W, Y, _, rfl, hat, S4, Same.refl _, .nil, t2, Nat.zero_le _, rfl⟩, ?_⟩
    rintro m σ H5 ⟨G1, acc, vs, cs1, R1, f1, rfl, ha1, S5, g5, dv, eT, al, rfl⟩
    have h1 := S5.hd
    have hl1 : cs1.length + R1.length ≤ 5000000 := by rw [eT] at hl; simpa using hl
    have at1 : AtT C H5 p dx (cs1 ++ R1) cs1.length la ra na bh := by rw [← eT]; exact ⟨h1, hl⟩
    obtain ⟨f2, rfl⟩ : ∃ f2, f1 = f2 + 1 := by
      cases f1 with
      | zero => cases ha1
      | succ f2 => exact ⟨f2, rfl⟩
    rcases atts_ok ha1 with ⟨hsd, rfl, rfl⟩ | ⟨hsd, a, R2, hat2, ha2⟩
    · refine ⟨_, rfl, p, dx, _, rfl, h1, rfl, _, rfl, p, _, dx, _, _, rfl, h1, T.cl_TreeReader, T.n_TreeReader_at, fs_TreeReader_at, p, dx, cs1, R1, [62], _, la, ra, na, bh, true, rfl, at1, by decide, hsd, true, rfl, iteF ?_⟩
      obtain ⟨R2, rfl⟩ : ∃ R2, R1 = 62 :: R2 := ⟨_, sd_cons hsd⟩
      simp only [List.tail_cons] at q
      have eT2 : cs ++ 60 :: X = (cs1 ++ [62]) ++ R2 := by rw [eT]; simp
      refine ⟨_, rfl, p, _, dx, _, _, rfl, h1, T.cl_TreeReader, T.n_TreeReader_at, fs_TreeReader_at, _, _, rfl, rfl, dx, _, h1, (by show 6 < 1000; decide), ?_⟩
      rw [put_at (m := (cs1 ++ [62]).length) (by simp)]
      have S6 := S5.put (u := RT C dx (cs ++ 60 :: X) (cs1 ++ [62]).length la ra na bh)
      obtain ⟨S7, g7⟩ := S6.swap.drop
      obtain ⟨S8, g8⟩ := S7.swap.drop
      have dv8 : Dq (upd (upd G1 na1 (.dK (nmK (as.map (·.1))))) la1 (.lst vs)) (.ref la1) (.list (as.map pairD)) := .lst upd_same (dv.same (Same.trans g7 g8))
      have g08 := Same.trans g5 (Same.trans g7 g8)
      generalize upd (upd G1 na1 _) la1 _ = G8 at S8 dv8 g08
      generalize upd H5 p _ = H8 at S8 ⊢
      have h8 := S8.hd
      refine ⟨_, rfl, p, dx, _, rfl, h8, rfl, _, rfl, _, rfl, by show 3 ≤ sizeLine; decide, fun t ht => ?_⟩
      have S9 := S8.alloc (o := .tup [.str "element", .str (TX W), .ref la1]) ht
      have g9 := S8.grow (o := .tup [.str "element", .str (TX W), .ref la1]) ht
      have hvl := D.h.len
      have bda := bd.a
      simp only at bda
      refine ⟨p, dx, t, cs ++ 60 :: X, _, la, ra, na, bh, ids, cts, hv, nmK ns, _, rfl, D.e, S9, by omega, by omega, fun i G' H' S10 g10 => ?_⟩
      have gg := Same.trans g08 (Same.trans g9 g10)
      refine q G' H' (cs1 ++ [62]) bh (ids ++ [i]) (cts ++ [[]]) (hv ++ [.ref t]) ⟨by rw [← eT2]; exact S10, by simp [D.e], .top (D.c.same gg) .nil, .top (D.h.same gg) ?_⟩ eT2 gg
      exact ⟨t, la1, rfl, g10 _ _ upd_same, dv8.same (Same.trans g9 g10)⟩
    · refine ⟨_, rfl, p, dx, _, rfl, h1, rfl, _, rfl, p, _, dx, _, _, rfl, h1, T.cl_TreeReader, T.n_TreeReader_at, fs_TreeReader_at, p, dx, cs1, R1, [62], _, la, ra, na, bh, false, rfl, at1, by decide, hsd, false, rfl, iteT ?_⟩
      refine ⟨fun σ' H' => ∃ m', m' < R1.length ∧ ∃ (G1 : Hp) (acc : List (List Nat × List Nat)) (vs : List V) (cs1 R1 : List Nat) (f1 : Nat), m' = R1.length ∧ attsR f1 acc R1 = .ok (as, R') ∧
        Sb G1 H' ((p, RT C dx (cs ++ 60 :: X) cs1.length la ra na bh) :: (na1, .dK (nmK (acc.map (·.1)))) :: (la1, .lst vs) :: (la, .lst (ids.map V.ref)) :: (ra, .lst hv) :: (na, .dK (nmK ns)) :: lM ids cts) ∧ Same G G1 ∧ DqAll G1 vs (acc.map pairD) ∧ cs ++ 60 :: X = cs1 ++ R1 ∧ acc.length ≤ cs1.length ∧
        σ' = [some (.ref p), some (.int (cs.length : Int)), some (.str (TX W)), some (.ref la1), some (.ref na1)], fun σ' H' z => z, ?_⟩
      have hla : H5 la1 = some (.lst vs) := (S5.perm P3).hd
      have S5' := S5
      rw [eT] at S5'
      have vl := dv.len
      rw [List.length_map] at vl
      refine ⟨_, rfl, .inl ⟨rfl, _, SqL.of hla⟩, _, rfl, p, dx, _, rfl, h1, rfl, _, rfl, p, dx, na1, cs1, R1, la, ra, na, bh, acc.map (·.1), a, R2, G1, _, rfl, S5', by simp; exact hl1, by rw [List.length_map]; omega, hat2, fun t G' H' cs' S6 g6 ht e6 lt6 => ?_⟩
      have S7 := S6.perm P3
      refine ⟨la1, vs, .ref t, rfl, rfl, S7.hd, by omega, ?_⟩
      have S8 := (S7.put (u := .lst (vs ++ [.ref t]))).perm P3.symm
      have le := congrArg List.length e6
      simp only [List.length_append] at le
      refine ⟨R2.length, by omega, G', acc ++ [a], vs ++ [.ref t], cs', R2, f2, rfl, ha2, ?_, Same.trans g5 g6, ?_, by rw [eT, e6], by rw [List.length_append, List.length_singleton]; omega, rfl⟩
      · rw [pairs_nm, eT]
        exact S8
      · rw [List.map_append]
        exact dqAll_ap (dv.same g6) (.cons (.tup ht (.cons (.str _) (.cons (.str _) .nil))) .nil)
end
end VL

set_option Elab.async false
set_option linter.all false
set_option pp.maxSteps 700
set_option maxRecDepth 100000
set_option maxHeartbeats 4000000
namespace VL
open PySem PySem.Spec PyProof.Rows L2
section
variable {P : Program} {w : World} {K : PySem.W.Frag} {mg : Str → Option Value} {base : Heap} {C : Ad}
theorem sc_TreeReader_read_end : FnScope ["self", "at", "mark"] ["self", "at"] (defScope s_TreeReader_read_end) := ⟨rfl, rfl, rfl, by decide +kernel, rfl, by decide +kernel, by decide +kernel⟩
theorem ok_end (T : Txt K w mg C) : Met P w K mg base 4 C.TreeReader "read_end" (spPc C endR) := by
  have Mfail := no_fail (P := P) (w := w) (base := base) T
  have Mstands := ok_stands (P := P) (base := base) T
  have Mend_node := ok_endN (P := P) (w := w) (base := base) T
  refine met_of T.m_TreeReader_read_end T.cl_TreeReader sc_TreeReader_read_end (fun vs H Q E h => ?_) (fun f cdv A outer s H vs Q E hr h => ?_)
  · obtain ⟨p, dx, la, ra, na, cs, rs, s', G, ids, cts, hv, rfl, _⟩ := h
    rfl
  · obtain ⟨p, dx, la, ra, na, cs, rs, s', G, ids, cts, hv, rfl, hd, D, hl, bd, hf, q⟩ := h
    have big : 16000018 < sizeLine := by decide
    obtain ⟨R, ls, ar, ns, bh⟩ := rs
    simp only at q D hl hd
    have hl2 : cs.length + R.length ≤ 5000000 := by simpa using hl
    have zT : (TX (cs ++ R)).length ≤ sizeLine := by rw [TX_len]; omega
    have S := D.S
    have h1 : H p = some (RT C dx (cs ++ R) cs.length la ra na bh) := S.hd
    have h2 : H la = some (.lst (ids.map V.ref)) := S.hd2
    obtain ⟨t, as, ar', e1, hsd, rfl⟩ := endR_ok hf
    simp only at e1 hsd q
    subst e1
    have ln := bd.a
    simp only [List.length_cons] at ln
    obtain ⟨K0, L, ls', rfl⟩ : ∃ K0 L ls', ls = K0 :: L :: ls' := by
      cases ls with
      | nil => simp at ln
      | cons a r => cases r with
        | nil => simp at ln
        | cons b r => exact ⟨a, b, r, rfl⟩
    obtain ⟨cts1, ks, rfl, C1, dk⟩ := D.c.split
    obtain ⟨cts2, xs, rfl, C2, dx2⟩ := C1.split
    obtain ⟨hv', v, rfl, Hv, hok⟩ := D.h.split
    obtain ⟨qd, pa, rfl, hq, hpa⟩ := hok
    have hR := sd_cons hsd
    have e := D.e
    have idl := C2.len
    obtain ⟨ids1, ik, rfl, el1⟩ := ids_snoc (n := cts2.length + 1) (by simpa using e)
    obtain ⟨ids2, ii, rfl, el2⟩ := ids_snoc el1
    have hq1 := S.s _ _ hq
    have h3 : H ra = some (.lst (hv' ++ [.ref qd])) := (S.perm P3).hd
    refine ⟨_, (pss_cons (ps_if (PW.pt (pw_or (pt_not (pt_truth (pe_fld (pv 0) rfl) (fun _ => rfl))) (pw_or1 (pt_cmpR op_ne (pe_ix ix_tup (pe_ix ix_list (pe_fld (pv 0) rfl) (pe_un un_neg pe_int) (fun _ _ => rfl)) pe_int (fun _ _ => rfl)) pe_str (nomark _))))) (pss_one (ps_expr (pe_mt Mfail hr (by decide) (pv 0) (pa_cons (pv 1) pa_nil)))) pss_nil) (pss_cons (ps_set (i := 2) sc_TreeReader_read_end.nd rfl (Or.inl rfl) (pe_op op_add_str (pe_op op_add_str pe_str (pe_ix ix_tup (pe_ix ix_list (pe_fld (pv 0) rfl) (pe_un un_neg pe_int) (fun _ _ => rfl)) pe_int (fun _ _ => rfl))) pe_str)) (pss_cons (ps_if (pt_not (pt_val (pe_mt Mstands hr (by decide) (pv 0) (pa_cons (pv 2) (pa_cons (pv 1) pa_nil))))) (pss_one (ps_expr (pe_mt Mfail hr (by decide) (pv 0) (pa_cons (pv 1) pa_nil)))) pss_nil) (pss_cons (ps_fld (pv 0) (pe_op op_add (pv 1) (pe_callB call_len_str (by rfl) T.z_len PySem.boot_len (pa_cons (pv 2) pa_nil))) rfl) (pss_one (ps_expr (pe_mt0 Mend_node hr (by decide) (pv 0)))))))), ?_⟩
    have lm := sd_len hsd
    simp only [List.length_append, List.length_cons, List.length_nil] at lm
    refine ⟨_, rfl, p, _, dx, _, _, rfl, h1, T.cl_TreeReader, T.n_TreeReader_around, fs_TreeReader_around, true, .inl ⟨_, SqL.of h3, by simp⟩, iteF ?_⟩
    refine ⟨_, rfl, p, _, dx, _, _, rfl, h1, T.cl_TreeReader, T.n_TreeReader_around, fs_TreeReader_around, _, rfl, ra, _, -1, _, rfl, rfl, SqL.of h3, atI_last, qd, _, 0, _, rfl, rfl, SqT.of hq1, rfl, rfl, _, rfl, ite2 (fun c => absurd c (by simp)) (fun _ => ?_)⟩
    refine ⟨_, rfl, p, _, dx, _, _, rfl, h1, T.cl_TreeReader, T.n_TreeReader_around, fs_TreeReader_around, _, rfl, ra, _, -1, _, rfl, rfl, SqL.of h3, atI_last, qd, _, 1, _, rfl, rfl, SqT.of hq1, rfl, _, _, rfl, rfl, ?_, _, _, rfl, rfl, ?_, ?_⟩
    · rw [k_lts, TX_len, TX_len]
      simp only [List.length_cons, List.length_nil]
      omega
    · rw [k_lts, TX_cat, k_gt, TX_len, TX_len]
      simp only [List.length_append, List.length_cons, List.length_nil]
      omega
    have em : ("</" : Str) ++ TX t ++ ">" = TX ([60, 47] ++ t ++ [62]) := by rw [k_lts, k_gt, TX_cat, TX_cat]
    rw [em]
    refine ⟨_, rfl, p, dx, _, rfl, h1, rfl, _, rfl, _, rfl, p, dx, cs, R, [60, 47] ++ t ++ [62], _, la, ra, na, bh, true, rfl, ⟨h1, hl⟩, ?_, hsd, true, rfl, iteF ?_⟩
    · simp only [List.length_append, List.length_cons, List.length_nil]
      omega
    refine ⟨_, rfl, _, rfl, _, rfl, ?_, _, _, rfl, rfl, _, rfl, p, _, dx, _, rfl, h1, T.cl_TreeReader, T.n_TreeReader_at, (by show 6 < 1000; decide), ?_⟩
    · rw [TX_len]
      simp only [List.length_append, List.length_cons, List.length_nil]
      omega
    generalize hm : [60, 47] ++ t ++ [62] = mk at hR hsd ⊢
    have lmk : mk.length = t.length + 3 := by rw [← hm]; simp
    rw [lmk] at hR
    have eT : cs ++ R = (cs ++ mk) ++ R.drop (t.length + 3) := by rw [List.append_assoc, ← hR]
    rw [put_at (m := (cs ++ mk).length) (by rw [TX_len, List.length_append]; omega)]
    have S2 := S.put (u := RT C dx (cs ++ R) (cs ++ mk).length la ra na bh)
    have h4 := S2.hd
    have xl := dx2.len
    rw [encS_len] at xl
    have bl := bd.l L (by simp)
    refine ⟨_, rfl, p, dx, _, rfl, h4, rfl, p, dx, qd, cs ++ R, _, la, ra, na, bh, ids2, cts2, ii, ik, xs, ks, _, hv', nmK ns, G, rfl, el2, S2, hq, by show 3 ≤ 1000; decide, by omega, fun t' G' H' S3 g3 ht hk => ?_⟩
    have hp : popN ⟨R, K0 :: L :: ls', .el t as :: ar', ns, bh⟩ (R.drop (t.length + 3)) = ⟨R.drop (t.length + 3), (L ++ [.el t as K0]) :: ls', ar', ns, false⟩ := rfl
    rw [hp] at q
    have S3' := S3
    rw [eT] at S3'
    refine q G' H' (cs ++ mk) bh (ids2 ++ [ii]) (cts2 ++ [xs ++ [V.ref t']]) hv' ⟨S3', by simp [el2], ?_, Hv.same g3⟩ eT g3
    refine .top (C2.same g3) ?_
    rw [encS_app]
    refine dqAll_ap (dx2.same g3) ?_
    simp only [encS, Hd.close, encN]
    exact .cons (.tup ht (.cons (.str _) (.cons (.str _) (.cons (hpa.same g3) (.cons (.lst hk (dk.same g3)) .nil))))) .nil
end
end VL

set_option Elab.async false
set_option linter.all false
set_option pp.maxSteps 700
set_option maxRecDepth 100000
set_option maxHeartbeats 4000000
namespace VL
open PySem PySem.Spec PyProof.Rows L2
theorem P4 {α : Type} {a b c d : α} {l : List α} : (a :: b :: c :: d :: l).Perm (d :: a :: b :: c :: l) := (P3.cons a).trans (List.Perm.swap d a (b :: c :: l))
section
variable {P : Program} {w : World} {K : PySem.W.Frag} {mg : Str → Option Value} {base : Heap} {C : Ad}
theorem sc_TreeReader_read_waiting : FnScope ["self", "at", "begin", "end", "digits"] ["self", "at"] (defScope s_TreeReader_read_waiting) := ⟨rfl, rfl, rfl, by decide +kernel, rfl, by decide +kernel, by decide +kernel⟩
theorem ok_wait (T : Txt K w mg C) : Met P w K mg base 4 C.TreeReader "read_waiting" (spPc C waitR) := by
  have Gis_digit := ok_digit (P := P) (base := base) T
  have Mfail := no_fail (P := P) (w := w) (base := base) T
  have Mstands := ok_stands (P := P) (base := base) T
  have Msign_at := ok_sign (P := P) (base := base) T
  have Mcheck_level := ok_chk (P := P) (w := w) (base := base) T
  have Mbegin_node := ok_begin (P := P) (w := w) (base := base) T
  refine met_of T.m_TreeReader_read_waiting T.cl_TreeReader sc_TreeReader_read_waiting (fun vs H Q E h => ?_) (fun f cdv A outer s H vs Q E hr h => ?_)
  · obtain ⟨p, dx, la, ra, na, cs, rs, s', G, ids, cts, hv, rfl, _⟩ := h
    rfl
  · obtain ⟨p, dx, la, ra, na, cs, rs, s', G, ids, cts, hv, rfl, hd, D, hl, bd, hf, q⟩ := h
    have big : 16000018 < sizeLine := by decide
    obtain ⟨R, ls, ar, ns, bh⟩ := rs
    simp only at q D hl hd
    have hl2 : cs.length + R.length ≤ 5000000 := by simpa using hl
    have zT : (TX (cs ++ R)).length ≤ sizeLine := by rw [TX_len]; omega
    have S := D.S
    have h1 : H p = some (RT C dx (cs ++ R) cs.length la ra na bh) := S.hd
    have h2 : H la = some (.lst (ids.map V.ref)) := S.hd2
    have hu := hu_of hr
    obtain ⟨e1, e2, e3, e4, e5, e6, e7, rfl⟩ := waitR_ok hf
    simp only at e1 e2 e3 e4 e5 e6 e7 q
    have hR := sd_cons e1
    have idl : ids.length ≤ 40 := by rw [D.e, D.c.len]; exact e7
    refine ⟨_, (pss_cons (ps_if (pt_not (pt_val (pe_mt Mstands hr (by decide) (pv 0) (pa_cons (C8.pe_gc (by rfl) T.g_WAITING_BEGIN) (pa_cons (pv 1) pa_nil))))) (pss_one (ps_expr (pe_mt Mfail hr (by decide) (pv 0) (pa_cons (pv 1) pa_nil)))) pss_nil) (pss_cons (ps_set (i := 2) sc_TreeReader_read_waiting.nd rfl (Or.inl rfl) (pe_op op_add (pv 1) (pe_callB call_len_str (by rfl) T.z_len PySem.boot_len (pa_cons (C8.pe_gc (by rfl) T.g_WAITING_BEGIN) pa_nil)))) (pss_cons (ps_set (i := 3) sc_TreeReader_read_waiting.nd rfl (Or.inl rfl) (pv 2)) (pss_cons (ps_while PassesOwn.never (pt_val (pe_c Gis_digit hr (by decide) (by rfl) (pa_cons (pe_mt Msign_at hr (by decide) (pv 0) (pa_cons (pv 3) pa_nil)) pa_nil))) (pss_one (ps_aug (i := 3) sc_TreeReader_read_waiting.nd rfl (Or.inl rfl) pe_int ip_add))) (pss_cons (ps_set (i := 4) sc_TreeReader_read_waiting.nd rfl (Or.inl rfl) (pe_slice sl_str (pe_fld (pv 0) rfl) (po_some (pv 2)) (po_some (pv 3)))) (pss_cons (ps_if (PW.pt (pw_or (pt_not (pt_truth (pv 4) (fun _ => rfl))) (pw_or1 (pt_not (pt_val (pe_mt Mstands hr (by decide) (pv 0) (pa_cons (C8.pe_gc (by rfl) T.g_COMMENT_END) (pa_cons (pv 3) pa_nil)))))))) (pss_one (ps_expr (pe_mt Mfail hr (by decide) (pv 0) (pa_cons (pv 1) pa_nil)))) pss_nil) (pss_cons (ps_if (PW.pt (pw_or (pt_cmpR op_eq (pe_ix ix_str (pv 4) pe_int (fun _ _ => rfl)) pe_str (nomark _)) (pw_or (pt_cmpR op_gt (pe_callB call_len_str (by rfl) T.z_len PySem.boot_len (pa_cons (pv 4) pa_nil)) (C8.pe_gc (by rfl) T.g_MOST_DIGITS) (nomark _)) (pw_or1 (pt_cmp (pc_din hu (pv 4) (pe_fld (pv 0) rfl))))))) (pss_one (ps_expr (pe_mt Mfail hr (by decide) (pv 0) (pa_cons (pv 1) pa_nil)))) pss_nil) (pss_cons (ps_expr (pe_mt Mcheck_level hr (by decide) (pv 0) (pa_cons (pv 1) pa_nil))) (pss_cons (ps_dput hu (pe_fld (pv 0) rfl) (pv 4) pe_bl rfl) (pss_cons (ps_expr (pe_mt Mbegin_node hr (by decide) (pv 0) (pa_cons (pe_tup (pa_cons pe_str (pa_cons (pe_callTy call_int_str (by rfl) T.z_int (by decide +kernel) (pa_cons (pv 4) pa_nil)) pa_nil))) pa_nil))) (pss_one (ps_fld (pv 0) (pe_op op_add (pv 3) (pe_callB call_len_str (by rfl) T.z_len PySem.boot_len (pa_cons (C8.pe_gc (by rfl) T.g_COMMENT_END) pa_nil))) rfl)))))))))))), ?_⟩
    have t1 : cs ++ R = (cs ++ zA) ++ R.drop 5 := by rw [List.append_assoc]; exact congrArg _ hR
    have l5 : 5 ≤ R.length := sd_len e1
    have c1 : ((cs.length : Int) + (("<!--[" : Str).length : Int)) = ((cs ++ zA).length : Int) := by
      rw [List.length_append]
      show (cs.length : Int) + 5 = _
      simp
    refine ⟨_, rfl, p, dx, _, rfl, h1, rfl, _, rfl, p, dx, cs, R, zA, _, la, ra, na, bh, true, rfl, ⟨h1, hl⟩, by decide, e1, true, rfl, iteF ?_⟩
    refine ⟨_, rfl, _, rfl, by decide, _, _, rfl, rfl, _, rfl, ?_⟩
    generalize hR5 : R.drop 5 = X at e2 e3 e4 e5 e6 q t1
    have lX : X.length + 5 = R.length := by rw [← hR5, List.length_drop]; omega
    have hDE := List.takeWhile_append_dropWhile (p := isDi) (l := X)
    have tls : ∀ k, k ≤ (X.takeWhile isDi).length → ((X.drop k).take 1).any isDi = decide (k < (X.takeWhile isDi).length) := fun k hk => tw_test hk
    generalize hpr : cs ++ zA = pre at t1 c1
    have lpr : pre.length = cs.length + 5 := by rw [← hpr]; simp
    have adD : ∀ c ∈ X.takeWhile isDi, isDi c = true := fun c hc => by
      have := List.all_takeWhile (p := isDi) (l := X)
      exact List.all_eq_true.mp this c hc
    generalize hD : X.takeWhile isDi = D0 at e2 e4 e5 e6 q hDE tls adD
    generalize hE : X.dropWhile isDi = Y at e3 q hDE
    have lDY : D0.length + Y.length = X.length := by rw [← List.length_append, hDE]
    refine ⟨fun m σ H' => ∃ k : Nat, m + k = D0.length ∧ H' = H ∧ σ = [some (.ref p), some (.int (cs.length : Int)), some (.int (pre.length : Int)), some (.int ((pre.length + k : Nat) : Int)), none], ⟨D0.length, 0, by omega, rfl, by rw [Nat.add_zero, ← c1]; rfl⟩, ?_⟩
    rintro m σ H2 ⟨k, hk, eH, rfl⟩
    subst eH
    have ct : ((pre.length + k : Nat) : Int) = ((pre ++ X.take k).length : Int) := by rw [List.length_append, List.length_take, Nat.min_eq_left (by omega)]
    have at1 : AtT C H2 p dx ((pre ++ X.take k) ++ X.drop k) cs.length la ra na bh := by
      rw [List.append_assoc, List.take_append_drop, ← t1]
      exact ⟨h1, hl⟩
    refine ⟨_, rfl, p, dx, _, rfl, h1, rfl, _, rfl, p, dx, pre ++ X.take k, X.drop k, _, la, ra, na, bh, (by rw [ct]; rfl), at1, (X.drop k).take 1, rfl, by rw [List.length_take]; omega, _, rfl, ?_⟩
    rw [tls k (by omega)]
    refine ite2 (fun c => ?_) (fun c => ?_)
    · have hlt := of_decide_eq_true c
      refine ⟨fun σ' H' => ∃ m', m' < m ∧ ∃ k : Nat, m' + k = D0.length ∧ H' = H2 ∧ σ' = [some (.ref p), some (.int (cs.length : Int)), some (.int (pre.length : Int)), some (.int ((pre.length + k : Nat) : Int)), none], fun σ' H' z => z, ?_⟩
      refine ⟨_, rfl, _, _, rfl, rfl, m - 1, by omega, k + 1, by omega, rfl, ?_⟩
      show [_, _, _, some (V.int (((pre.length + k : Nat) : Int) + 1)), _] = _
      rw [show (((pre.length + k : Nat) : Int) + 1) = ((pre.length + (k + 1) : Nat) : Int) by omega]
    have hkD : k = D0.length := by
      have : ¬ k < D0.length := fun z => c (decide_eq_true z)
      omega
    subst hkD
    have zT2 : (TX (cs ++ R)).length ≤ sizeLine := zT
    refine ⟨_, rfl, p, _, dx, _, _, rfl, h1, T.cl_TreeReader, T.n_TreeReader_text, fs_TreeReader_text, _, rfl, _, rfl, _, rfl, _, rfl, _, rfl, zT, ?_⟩
    have ec : cutS (TX (cs ++ R)) (some (pre.length : Int)) (some ((pre.length + D0.length : Nat) : Int)) = TX D0 := by
      rw [t1, ← hDE]
      exact cut_mid rfl rfl
    rw [ec]
    obtain ⟨d, r, rfl⟩ : ∃ d r, D0 = d :: r := by cases D0 with | nil => exact absurd rfl e2 | cons d r => exact ⟨d, r, rfl⟩
    have sz : (TX (d :: r)).length ≤ sizeLine := by rw [TX_len]; omega
    have t2 : cs ++ R = (pre ++ (d :: r)) ++ Y := by rw [t1, ← hDE, List.append_assoc]
    have at2 : AtT C H2 p dx ((pre ++ (d :: r)) ++ Y) cs.length la ra na bh := by rw [← t2]; exact ⟨h1, hl⟩
    have c2 : ((pre.length + (d :: r).length : Nat) : Int) = ((pre ++ (d :: r)).length : Int) := by rw [List.length_append]
    refine ⟨_, rfl, true, ⟨sz, by rw [TX_len]; simp; omega⟩, iteF ⟨_, rfl, p, dx, _, rfl, h1, rfl, _, rfl, p, dx, pre ++ (d :: r), Y, zB, _, la, ra, na, bh, true, by rw [← c2]; rfl, at2, by decide, e3, true, rfl, iteF ?_⟩⟩
    refine ⟨_, rfl, _, _, d, rfl, rfl, sz, at_mid (pre := []) rfl, rfl, _, rfl, ite2 (fun c => absurd (TX_inj (V.str.inj (of_decide_eq_true c)) : [d] = [48]) (fun z => e4 (by cases z; rfl))) (fun _ => ?_)⟩
    refine ⟨_, rfl, _, rfl, sz, _, _, rfl, rfl, _, rfl, ite2 (fun c => absurd (of_decide_eq_true c) (by rw [TX_len]; omega)) (fun _ => ?_)⟩
    have hna : H2 na = some (.dK (nmK ns)) := (S.m (na, .dK (nmK ns)) (by simp [rM])).2
    refine ⟨_, rfl, _, rfl, p, _, dx, _, _, rfl, h1, T.cl_TreeReader, T.n_TreeReader_numbers, fs_TreeReader_numbers, na, _, rfl, DGet.k (k := .inr (TX (d :: r))) hna, _, rfl, ?_⟩
    rw [nm_val e6]
    refine iteF ?_
    refine ⟨_, rfl, p, dx, _, rfl, h1, rfl, _, rfl, p, dx, _, cs ++ R, cs.length, la, ra, na, bh, ids, rfl, h1, h2, idl, ?_⟩
    have bdn := bd.n
    simp only at bdn
    refine ⟨_, rfl, p, _, dx, _, _, rfl, h1, T.cl_TreeReader, T.n_TreeReader_numbers, fs_TreeReader_numbers, _, rfl, na, _, rfl, DPut.k (k := .inr (TX (d :: r))) hna (by rw [List.length_map]; omega), ?_⟩
    rw [putK_nw (nm_val e6)]
    have en : nmK ns ++ [(.inr (TX (d :: r)), V.bl true)] = nmK (ns ++ [d :: r]) := by simp
    rw [en]
    have S2 := ((S.perm P4).put (u := .dK (nmK (ns ++ [d :: r])))).perm P4.symm
    generalize upd H2 na _ = H3 at S2 ⊢
    have h3 : H3 p = some (RT C dx (cs ++ R) cs.length la ra na bh) := S2.hd
    have it : PySem.intText? (TX (d :: r)) = some ((NumText.digitsVal (d :: r) : Nat) : Int) := SX.int_S (List.all_eq_true.mpr fun c hc => by simpa [isDi] using adD c hc) (by simp) (by omega)
    refine ⟨_, rfl, p, dx, _, rfl, h3, rfl, _, rfl, _, _, rfl, it, by rw [TX_len]; omega, by show 2 ≤ sizeLine; decide, fun t ht => ?_⟩
    have S3 := S2.alloc (o := .tup [.str "await", .int ((NumText.digitsVal (d :: r) : Nat) : Int)]) ht
    have g3 := S2.grow (o := .tup [.str "await", .int ((NumText.digitsVal (d :: r) : Nat) : Int)]) ht
    have hvl := D.h.len
    have bda := bd.a
    simp only at bda
    refine ⟨p, dx, t, cs ++ R, _, la, ra, na, bh, ids, cts, hv, nmK (ns ++ [d :: r]), _, rfl, D.e, S3, by omega, by omega, fun i G' H' S4 g4 => ?_⟩
    have gg := Same.trans g3 g4
    have h4 : H' p = some (RT C dx (cs ++ R) cs.length la ra na bh) := S4.hd
    have c3 : ((((pre ++ (d :: r)).length : Nat) : Int) + (("-->" : Str).length : Int)) = ((((pre ++ (d :: r)) ++ zB).length : Nat) : Int) := by
      rw [List.length_append (bs := zB)]
      rfl
    have hY := sd_cons e3
    refine ⟨_, rfl, _, rfl, by decide, _, _, rfl, rfl, _, rfl, p, _, dx, _, rfl, h4, T.cl_TreeReader, T.n_TreeReader_at, (by show 6 < 1000; decide), ?_⟩
    rw [put_at (m := ((pre ++ (d :: r)) ++ zB).length) (by rw [← c3, ← c2])]
    have S5 := S4.put (u := RT C dx (cs ++ R) ((pre ++ (d :: r)) ++ zB).length la ra na bh)
    have eT : cs ++ R = ((pre ++ (d :: r)) ++ zB) ++ Y.drop 3 := by rw [t2, List.append_assoc _ zB]; exact congrArg _ hY
    refine q G' _ ((pre ++ (d :: r)) ++ zB) bh (ids ++ [i]) (cts ++ [[]]) (hv ++ [V.ref t]) ⟨by rw [← eT]; exact S5, by simp [D.e], .top (D.c.same gg) .nil, .top (D.h.same gg) ⟨t, rfl, g4 _ _ upd_same⟩⟩ eT gg
end
end VL

set_option Elab.async false
set_option linter.all false
set_option pp.maxSteps 700
set_option maxRecDepth 100000
set_option maxHeartbeats 4000000
namespace VL
open PySem PySem.Spec PyProof.Rows L2
theorem nV_dq {H : Hp} : ∀ n : Option Int, Dq H (nVV n) (nV n)
  | none => .non
  | some i => .int i
theorem aw0 {i : Option Int} : nVV i = nVV i := rfl
section
variable {P : Program} {w : World} {K : PySem.W.Frag} {mg : Str → Option Value} {base : Heap} {C : Ad}
theorem sc_TreeReader_read_comment : FnScope ["self", "at"] ["self", "at"] (defScope s_TreeReader_read_comment) := ⟨rfl, rfl, rfl, by decide +kernel, rfl, by decide +kernel, by decide +kernel⟩
theorem ok_comm (T : Txt K w mg C) : Met P w K mg base 5 C.TreeReader "read_comment" (spPc C commR) := by
  have Mfail := no_fail (P := P) (w := w) (base := base) T
  have Mstands := ok_stands (P := P) (base := base) T
  have Msign_at := ok_sign (P := P) (base := base) T
  have Mcheck_level := ok_chk (P := P) (w := w) (base := base) T
  have Mjoin_text := ok_join (P := P) (w := w) (base := base) T
  have Mbegin_node := ok_begin (P := P) (w := w) (base := base) T
  have Mend_node := ok_endN (P := P) (w := w) (base := base) T
  have Mread_waiting := ok_wait (P := P) (base := base) T
  refine met_of T.m_TreeReader_read_comment T.cl_TreeReader sc_TreeReader_read_comment (fun vs H Q E h => ?_) (fun f cdv A outer s H vs Q E hr h => ?_)
  · obtain ⟨p, dx, la, ra, na, cs, rs, s', G, ids, cts, hv, rfl, _⟩ := h
    rfl
  · obtain ⟨p, dx, la, ra, na, cs, rs, s', G, ids, cts, hv, rfl, hd, D, hl, bd, hf, q⟩ := h
    have big : 16000018 < sizeLine := by decide
    obtain ⟨R, ls, ar, ns, bh⟩ := rs
    simp only at q D hl hd
    have hl2 : cs.length + R.length ≤ 5000000 := by simpa using hl
    have zTT : (TX (cs ++ R)).length ≤ sizeLine := by rw [TX_len]; omega
    have S := D.S
    have h1 : H p = some (RT C dx (cs ++ R) cs.length la ra na bh) := S.hd
    have h2 : H la = some (.lst (ids.map V.ref)) := S.hd2
    have bda := bd.a
    simp only at bda
    have e := D.e
    refine ⟨_, (pss_one (ps_if (pt_val (pe_mt Mstands hr (by decide) (pv 0) (pa_cons (C8.pe_gc (by rfl) T.g_EMPTY_TEXT_reading) (pa_cons (pv 1) pa_nil)))) (pss_cons (ps_expr (pe_mt Mcheck_level hr (by decide) (pv 0) (pa_cons (pv 1) pa_nil))) (pss_cons (ps_expr (pe_mt Mjoin_text hr (by decide) (pv 0) (pa_cons pe_str pa_nil))) (pss_one (ps_fld (pv 0) (pe_op op_add (pv 1) (pe_callB call_len_str (by rfl) T.z_len PySem.boot_len (pa_cons (C8.pe_gc (by rfl) T.g_EMPTY_TEXT_reading) pa_nil))) rfl)))) (pss_one (ps_if (pt_val (pe_mt Mstands hr (by decide) (pv 0) (pa_cons (C8.pe_gc (by rfl) T.g_BETWEEN_TEXTS_reading) (pa_cons (pv 1) pa_nil)))) (pss_cons (ps_fld (pv 0) (pe_op op_add (pv 1) (pe_callB call_len_str (by rfl) T.z_len PySem.boot_len (pa_cons (C8.pe_gc (by rfl) T.g_BETWEEN_TEXTS_reading) pa_nil))) rfl) (pss_one (ps_if (PW.pt (pw_or (pt_not (pt_val (pe_fld (pv 0) rfl))) (pw_or1 (pt_cmpR op_in_seq (pe_mt Msign_at hr (by decide) (pv 0) (pa_cons (pe_fld (pv 0) rfl) pa_nil)) (pe_tup (pa_cons pe_str (pa_cons pe_str pa_nil))) rfl)))) (pss_one (ps_expr (pe_mt Mfail hr (by decide) (pv 0) (pa_cons (pv 1) pa_nil)))) pss_nil))) (pss_one (ps_if (pt_val (pe_mt Mstands hr (by decide) (pv 0) (pa_cons (C8.pe_gc (by rfl) T.g_AWAIT_BEGIN) (pa_cons (pv 1) pa_nil)))) (pss_cons (ps_expr (pe_mt Mcheck_level hr (by decide) (pv 0) (pa_cons (pv 1) pa_nil))) (pss_cons (ps_expr (pe_mt Mbegin_node hr (by decide) (pv 0) (pa_cons (pe_tup (pa_cons pe_str (pa_cons pe_non pa_nil))) pa_nil))) (pss_one (ps_fld (pv 0) (pe_op op_add (pv 1) (pe_callB call_len_str (by rfl) T.z_len PySem.boot_len (pa_cons (C8.pe_gc (by rfl) T.g_AWAIT_BEGIN) pa_nil))) rfl)))) (pss_one (ps_if (pt_val (pe_mt Mstands hr (by decide) (pv 0) (pa_cons (C8.pe_gc (by rfl) T.g_AWAIT_END_reading) (pa_cons (pv 1) pa_nil)))) (pss_cons (ps_if (PW.pt (pw_or (pt_not (pt_truth (pe_fld (pv 0) rfl) (fun _ => rfl))) (pw_or1 (pt_cmpR op_ne (pe_ix ix_tup (pe_ix ix_list (pe_fld (pv 0) rfl) (pe_un un_neg pe_int) (fun _ _ => rfl)) pe_int (fun _ _ => rfl)) pe_str (nomark _))))) (pss_one (ps_expr (pe_mt Mfail hr (by decide) (pv 0) (pa_cons (pv 1) pa_nil)))) pss_nil) (pss_cons (ps_expr (pe_mt0 Mend_node hr (by decide) (pv 0))) (pss_one (ps_fld (pv 0) (pe_op op_add (pv 1) (pe_callB call_len_str (by rfl) T.z_len PySem.boot_len (pa_cons (C8.pe_gc (by rfl) T.g_AWAIT_END_reading) pa_nil))) rfl)))) (pss_one (ps_expr (pe_mt Mread_waiting hr (by decide) (pv 0) (pa_cons (pv 1) pa_nil)))))))))))), ?_⟩
    cases commR_ok hf with
    | e hs l40 es =>
      subst es
      refine ⟨_, rfl, p, dx, _, rfl, h1, rfl, _, rfl, p, dx, cs, R, zE, _, la, ra, na, bh, true, rfl, ⟨h1, hl⟩, by decide, hs, true, rfl, iteT ?_⟩
      have hR := sd_cons hs
      have eT : cs ++ R = (cs ++ zE) ++ R.drop 8 := by rw [List.append_assoc]; exact congrArg _ hR
      have ca : ∀ z : Int, z = (cs.length : Int) + 8 → z = (((cs ++ zE).length : Nat) : Int) := fun z hz => by rw [hz, List.length_append]; rfl
      refine ⟨_, rfl, p, dx, _, rfl, h1, rfl, _, rfl, p, dx, _, cs ++ R, cs.length, la, ra, na, bh, ids, rfl, h1, h2, by rw [e, D.c.len]; exact l40, ?_⟩
      obtain ⟨L, ls', rfl⟩ : ∃ L ls', ls = L :: ls' := by cases ls with | nil => simp at bda | cons a r => exact ⟨a, r, rfl⟩
      obtain ⟨cts1, xs, rfl, C1, dk⟩ := D.c.split
      obtain ⟨ids1, ii, rfl, el1⟩ := ids_snoc (n := cts1.length) (by simpa using e)
      have xl := dk.len
      rw [encS_len] at xl
      have bl := bd.l L (by simp)
      refine ⟨_, rfl, p, dx, _, rfl, h1, rfl, p, dx, [], cs ++ R, _, la, ra, na, bh, ids1, cts1, ii, xs, hv, nmK ns, G, rfl, el1, S, by omega, fun t G' H' S2 g2 ht => ?_⟩
      have h3 : H' p = some (RT C dx (cs ++ R) cs.length la ra na bh) := S2.hd
      refine ⟨_, rfl, _, rfl, by decide, _, _, rfl, rfl, _, rfl, p, _, dx, _, rfl, h3, T.cl_TreeReader, T.n_TreeReader_at, (by show 6 < 1000; decide), ?_⟩
      rw [put_at (m := (cs ++ zE).length) (by exact ca _ rfl)]
      have S3 := S2.put (u := RT C dx (cs ++ R) (cs ++ zE).length la ra na bh)
      have S4 := S3
      rw [eT] at S4
      refine q G' _ (cs ++ zE) bh (ids1 ++ [ii]) (cts1 ++ [xs ++ [V.ref t]]) hv ⟨by rw [← eT]; exact S3, by simp [el1], .top (C1.same g2) ?_, D.h.same g2⟩ eT g2
      rw [encS_app]
      refine dqAll_ap (dk.same g2) ?_
      simp only [encS, encN]
      exact .cons (.tup ht (.cons (.str _) (.cons (.str _) .nil))) .nil
    | t h0 hs hb hn h6 es =>
      subst es
      refine ⟨_, rfl, p, dx, _, rfl, h1, rfl, _, rfl, p, dx, cs, R, zE, _, la, ra, na, bh, false, rfl, ⟨h1, hl⟩, by decide, h0, false, rfl, iteF ?_⟩
      refine ⟨_, rfl, p, dx, _, rfl, h1, rfl, _, rfl, p, dx, cs, R, zT, _, la, ra, na, bh, true, rfl, ⟨h1, hl⟩, by decide, hs, true, rfl, iteT ?_⟩
      have hR := sd_cons hs
      have eT : cs ++ R = (cs ++ zT) ++ R.drop 8 := by rw [List.append_assoc]; exact congrArg _ hR
      have ca : ∀ z : Int, z = (cs.length : Int) + 8 → z = (((cs ++ zT).length : Nat) : Int) := fun z hz => by rw [hz, List.length_append]; rfl
      subst hb
      refine ⟨_, rfl, _, rfl, by decide, _, _, rfl, rfl, _, rfl, p, _, dx, _, rfl, h1, T.cl_TreeReader, T.n_TreeReader_at, (by show 6 < 1000; decide), ?_⟩
      rw [put_at (m := (cs ++ zT).length) (by exact ca _ rfl)]
      have S3 := S.put (u := RT C dx (cs ++ R) (cs ++ zT).length la ra na true)
      have h3 := S3.hd
      generalize upd H p _ = H3 at S3 h3 ⊢
      obtain ⟨c, r, hc⟩ : ∃ c r, R.drop 8 = c :: r := by
        cases hd8 : R.drop 8 with
        | nil => rw [hd8] at hn; exact absurd rfl hn
        | cons c r => exact ⟨c, r, rfl⟩
      have c60 : c ≠ 60 := fun z => h6 (by rw [hc, z]; rfl)
      refine ⟨_, rfl, p, _, dx, _, _, rfl, h3, T.cl_TreeReader, T.n_TreeReader_is_behind_text, fs_TreeReader_is_behind_text, true, rfl, iteF ?_⟩
      refine ⟨_, rfl, p, dx, _, rfl, h3, rfl, _, rfl, p, _, dx, _, _, rfl, h3, T.cl_TreeReader, T.n_TreeReader_at, fs_TreeReader_at, p, dx, cs ++ zT, R.drop 8, _, la, ra, na, true, rfl, ⟨by rw [← eT]; exact h3, by rw [← eT]; exact hl⟩, ?_⟩
      refine ⟨by show 2 ≤ sizeLine; decide, fun t ht => ⟨t, _, rfl, .inr (SqT.of upd_same), rfl, rfl, _, rfl, ?_⟩⟩
      have ei : inV (V.str (TX ((R.drop 8).take 1))) [V.str "", V.str "<"] = false := by
        rw [hc]
        show inV (V.str (TX [c])) [V.str "", V.str "<"] = false
        unfold inV
        rw [k_00, k_lt]
        simp [eqV, Ne.symm c60]
      rw [ei]
      have S4 := S3.alloc (o := .tup [V.str "", V.str "<"]) ht
      have g4 := S3.grow (o := .tup [V.str "", V.str "<"]) ht
      show Q .non _
      exact q _ _ (cs ++ zT) true ids cts hv ⟨by rw [← eT]; exact S4, D.e, D.c.same g4, D.h.same g4⟩ eT g4
    | a h0 h3 hs l40 es =>
      subst es
      refine ⟨_, rfl, p, dx, _, rfl, h1, rfl, _, rfl, p, dx, cs, R, zE, _, la, ra, na, bh, false, rfl, ⟨h1, hl⟩, by decide, h0, false, rfl, iteF ?_⟩
      refine ⟨_, rfl, p, dx, _, rfl, h1, rfl, _, rfl, p, dx, cs, R, zT, _, la, ra, na, bh, false, rfl, ⟨h1, hl⟩, by decide, h3, false, rfl, iteF ?_⟩
      refine ⟨_, rfl, p, dx, _, rfl, h1, rfl, _, rfl, p, dx, cs, R, zA0, _, la, ra, na, bh, true, rfl, ⟨h1, hl⟩, by decide, hs, true, rfl, iteT ?_⟩
      have hR := sd_cons hs
      have eT : cs ++ R = (cs ++ zA0) ++ R.drop 8 := by rw [List.append_assoc]; exact congrArg _ hR
      have ca : ∀ z : Int, z = (cs.length : Int) + 8 → z = (((cs ++ zA0).length : Nat) : Int) := fun z hz => by rw [hz, List.length_append]; rfl
      refine ⟨_, rfl, p, dx, _, rfl, h1, rfl, _, rfl, p, dx, _, cs ++ R, cs.length, la, ra, na, bh, ids, rfl, h1, h2, by rw [e, D.c.len]; exact l40, ?_⟩
      have l40 : ls.length ≤ 40 := l40
      have hvl : hv.length = ar.length := D.h.len
      have idl : ids.length ≤ 40 := by rw [e, D.c.len]; exact l40
      refine ⟨_, rfl, p, dx, _, rfl, h1, rfl, by show 2 ≤ sizeLine; decide, fun t ht => ?_⟩
      have S2 := S.alloc (o := .tup [.str "await", .non]) ht
      have g2 := S.grow (o := .tup [.str "await", .non]) ht
      refine ⟨p, dx, t, cs ++ R, _, la, ra, na, bh, ids, cts, hv, nmK ns, _, rfl, D.e, S2, by omega, by omega, fun i G' H' S3 g3 => ?_⟩
      have gg := Same.trans g2 g3
      have h5 : H' p = some (RT C dx (cs ++ R) cs.length la ra na bh) := S3.hd
      refine ⟨_, rfl, _, rfl, by decide, _, _, rfl, rfl, _, rfl, p, _, dx, _, rfl, h5, T.cl_TreeReader, T.n_TreeReader_at, (by show 6 < 1000; decide), ?_⟩
      rw [put_at (m := (cs ++ zA0).length) (by exact ca _ rfl)]
      have S4 := S3.put (u := RT C dx (cs ++ R) (cs ++ zA0).length la ra na bh)
      exact q G' _ (cs ++ zA0) bh (ids ++ [i]) (cts ++ [[]]) (hv ++ [V.ref t]) ⟨by rw [← eT]; exact S4, by simp [D.e], .top (D.c.same gg) .nil, .top (D.h.same gg) ⟨t, rfl, g3 _ _ upd_same⟩⟩ eT gg
    | c h0 h3 h4 hs nn ar' ha es =>
      subst es
      refine ⟨_, rfl, p, dx, _, rfl, h1, rfl, _, rfl, p, dx, cs, R, zE, _, la, ra, na, bh, false, rfl, ⟨h1, hl⟩, by decide, h0, false, rfl, iteF ?_⟩
      refine ⟨_, rfl, p, dx, _, rfl, h1, rfl, _, rfl, p, dx, cs, R, zT, _, la, ra, na, bh, false, rfl, ⟨h1, hl⟩, by decide, h3, false, rfl, iteF ?_⟩
      refine ⟨_, rfl, p, dx, _, rfl, h1, rfl, _, rfl, p, dx, cs, R, zA0, _, la, ra, na, bh, false, rfl, ⟨h1, hl⟩, by decide, h4, false, rfl, iteF ?_⟩
      refine ⟨_, rfl, p, dx, _, rfl, h1, rfl, _, rfl, p, dx, cs, R, zC, _, la, ra, na, bh, true, rfl, ⟨h1, hl⟩, by decide, hs, true, rfl, iteT ?_⟩
      have hR := sd_cons hs
      have eT : cs ++ R = (cs ++ zC) ++ R.drop 8 := by rw [List.append_assoc]; exact congrArg _ hR
      have ca : ∀ z : Int, z = (cs.length : Int) + 8 → z = (((cs ++ zC).length : Nat) : Int) := fun z hz => by rw [hz, List.length_append]; rfl
      simp only at ha
      subst ha
      simp only [List.length_cons] at bda
      obtain ⟨K0, L, ls', rfl⟩ : ∃ K0 L ls', ls = K0 :: L :: ls' := by
        cases ls with
        | nil => simp at bda
        | cons a r => cases r with
          | nil => simp at bda
          | cons b r => exact ⟨a, b, r, rfl⟩
      obtain ⟨cts1, ks, rfl, C1, dk⟩ := D.c.split
      obtain ⟨cts2, xs, rfl, C2, dx2⟩ := C1.split
      obtain ⟨hv', v, rfl, Hv, hok⟩ := D.h.split
      obtain ⟨qd, rfl, hq⟩ := hok
      obtain ⟨ids1, ik, rfl, el1⟩ := ids_snoc (n := cts2.length + 1) (by simpa using e)
      obtain ⟨ids2, ii, rfl, el2⟩ := ids_snoc el1
      have hq1 := S.s _ _ hq
      have h3' : H ra = some (.lst (hv' ++ [.ref qd])) := (S.perm P3).hd
      have xl := dx2.len
      rw [encS_len] at xl
      have bl := bd.l L (by simp)
      refine ⟨_, rfl, p, _, dx, _, _, rfl, h1, T.cl_TreeReader, T.n_TreeReader_around, fs_TreeReader_around, true, .inl ⟨_, SqL.of h3', by simp⟩, iteF ?_⟩
      refine ⟨_, rfl, p, _, dx, _, _, rfl, h1, T.cl_TreeReader, T.n_TreeReader_around, fs_TreeReader_around, _, rfl, ra, _, -1, _, rfl, rfl, SqL.of h3', atI_last, qd, _, 0, _, rfl, rfl, SqT.of hq1, rfl, rfl, _, rfl, ite2 (fun c => absurd c (by simp)) (fun _ => ?_)⟩
      refine ⟨_, rfl, p, dx, _, rfl, h1, rfl, p, dx, qd, cs ++ R, _, la, ra, na, bh, ids2, cts2, ii, ik, xs, ks, _, hv', nmK ns, G, rfl, el2, S, hq, by show 2 ≤ 1000; decide, by omega, fun t' G' H' S3 g3 ht hk => ?_⟩
      have h5 : H' p = some (RT C dx (cs ++ R) cs.length la ra na bh) := S3.hd
      refine ⟨_, rfl, _, rfl, by decide, _, _, rfl, rfl, _, rfl, p, _, dx, _, rfl, h5, T.cl_TreeReader, T.n_TreeReader_at, (by show 6 < 1000; decide), ?_⟩
      rw [put_at (m := (cs ++ zC).length) (by exact ca _ rfl)]
      have S4 := S3.put (u := RT C dx (cs ++ R) (cs ++ zC).length la ra na bh)
      have hp : popN ⟨R, K0 :: L :: ls', .aw nn :: ar', ns, bh⟩ (R.drop 8) = ⟨R.drop 8, (L ++ [.aw nn K0]) :: ls', ar', ns, false⟩ := rfl
      rw [hp] at q
      refine q G' _ (cs ++ zC) bh (ids2 ++ [ii]) (cts2 ++ [xs ++ [V.ref t']]) hv' ⟨by rw [← eT]; exact S4, by simp [el2], .top (C2.same g3) ?_, Hv.same g3⟩ eT g3
      rw [encS_app]
      refine dqAll_ap (dx2.same g3) ?_
      simp only [encS, encN]
      exact .cons (.tup ht (.cons (.str _) (.cons (nV_dq nn) (.cons (.lst hk (dk.same g3)) .nil)))) .nil
    | w h0 h3 h4 h5 hw =>
      refine ⟨_, rfl, p, dx, _, rfl, h1, rfl, _, rfl, p, dx, cs, R, zE, _, la, ra, na, bh, false, rfl, ⟨h1, hl⟩, by decide, h0, false, rfl, iteF ?_⟩
      refine ⟨_, rfl, p, dx, _, rfl, h1, rfl, _, rfl, p, dx, cs, R, zT, _, la, ra, na, bh, false, rfl, ⟨h1, hl⟩, by decide, h3, false, rfl, iteF ?_⟩
      refine ⟨_, rfl, p, dx, _, rfl, h1, rfl, _, rfl, p, dx, cs, R, zA0, _, la, ra, na, bh, false, rfl, ⟨h1, hl⟩, by decide, h4, false, rfl, iteF ?_⟩
      refine ⟨_, rfl, p, dx, _, rfl, h1, rfl, _, rfl, p, dx, cs, R, zC, _, la, ra, na, bh, false, rfl, ⟨h1, hl⟩, by decide, h5, false, rfl, iteF ?_⟩
      exact ⟨_, rfl, p, dx, _, rfl, h1, rfl, _, rfl, p, dx, la, ra, na, cs, ⟨R, ls, ar, ns, bh⟩, s', G, ids, cts, hv, rfl, hd, D, hl, bd, hw, q⟩
end
end VL

set_option Elab.async false
set_option linter.all false
set_option pp.maxSteps 700
set_option maxRecDepth 100000
set_option maxHeartbeats 4000000
namespace VL
open PySem PySem.Spec PyProof.Rows L2
section
variable {P : Program} {w : World} {K : PySem.W.Frag} {mg : Str → Option Value} {base : Heap} {C : Ad}
def spPiece (C : Ad) : Sp := fun vs H Q _ => ∃ (p dx la ra na : Addr) (cs : List Nat) (s s' : RS) (G : Hp) (ids : List Addr) (cts : List (List V)) (hv : List V), vs = [.ref p] ∧ s.R ≠ [] ∧
  Rd C G H p dx la ra na (cs ++ s.R) cs.length s.bh s.ls s.ar s.ns ids cts hv ∧ (cs ++ s.R).length ≤ 5000000 ∧ Bd cs.length s ∧ piece s = .ok s' ∧
  ∀ G' H' cs' ids' cts' hv', Rd C G' H' p dx la ra na (cs' ++ s'.R) cs'.length s'.bh s'.ls s'.ar s'.ns ids' cts' hv' → cs ++ s.R = cs' ++ s'.R → Same G G' → Q .non H'
theorem hd_take {R : List Nat} : decide (R.take 1 = [60]) = decide (R.head? = some 60) := by
  cases R with
  | nil => rfl
  | cons c r => simp
theorem hdSm_any (X : List Nat) : (X.take 1).any isSm = hdSm X := by
  cases X with
  | nil => rfl
  | cons c r => simp [hdSm]
theorem Rd.bh {G H : Hp} {p dx la ra na : Addr} {T : List Nat} {n : Nat} {b b' : Bool} {ls : List (List Nd)} {ar : List Hd} {ns : List (List Nat)} {ids : List Addr} {cts : List (List V)} {hv : List V} (D : Rd C G H p dx la ra na T n b ls ar ns ids cts hv) :
    Rd C G (upd H p (RT C dx T n la ra na b')) p dx la ra na T n b' ls ar ns ids cts hv := ⟨D.S.put, D.e, D.c, D.h⟩
theorem pop_bh (s : RS) (R : List Nat) : (popN s R).bh = false := by
  obtain ⟨R0, ls, ar, ns, b⟩ := s
  cases ls with
  | nil => rfl
  | cons k ls => cases ar <;> rfl
theorem start_bh {s s' : RS} (h : startR s = .ok s') : s'.bh = false := by
  obtain ⟨_, _, _, _, rfl⟩ := startR_ok h
  rfl
theorem end_bh {s s' : RS} (h : endR s = .ok s') : s'.bh = false := by
  obtain ⟨_, _, _, _, _, rfl⟩ := endR_ok h
  exact pop_bh _ _
theorem comm_bh {s s' : RS} (h : commR s = .ok s') : s'.bh = false := by
  cases commR_ok h with
  | e _ _ e => rw [e]
  | t _ _ _ _ _ e => rw [e]
  | a _ _ _ _ e => rw [e]
  | c _ _ _ _ _ _ _ e => rw [e]; exact pop_bh _ _
  | w _ _ _ _ hw =>
    obtain ⟨_, _, _, _, _, _, _, rfl⟩ := waitR_ok hw
    rfl
theorem sc_TreeReader_read_piece : FnScope ["self", "at"] ["self"] (defScope s_TreeReader_read_piece) := ⟨rfl, rfl, rfl, by decide +kernel, rfl, by decide +kernel, by decide +kernel⟩
theorem ok_piece (T : Txt K w mg C) : Met P w K mg base 8 C.TreeReader "read_piece" (spPiece C) := by
  have Gis_small_letter := ok_small (P := P) (base := base) T
  have Mcheck_level := ok_chk (P := P) (w := w) (base := base) T
  have Mstands := ok_stands (P := P) (base := base) T
  have Msign_at := ok_sign (P := P) (base := base) T
  have Mjoin_text := ok_join (P := P) (w := w) (base := base) T
  have Mtake_signs := ok_take (P := P) (base := base) T
  have Mread_start := ok_start (P := P) (base := base) T
  have Mread_end := ok_end (P := P) (base := base) T
  have Mread_comment := ok_comm (P := P) (base := base) T
  refine met_of T.m_TreeReader_read_piece T.cl_TreeReader sc_TreeReader_read_piece (fun vs H Q E h => ?_) (fun f cdv A outer s H vs Q E hr h => ?_)
  · obtain ⟨p, dx, la, ra, na, cs, rs, s', G, ids, cts, hv, rfl, _⟩ := h
    rfl
  · obtain ⟨p, dx, la, ra, na, cs, rs, s', G, ids, cts, hv, rfl, hd, D, hl, bd, hf, q⟩ := h
    have big : 16000018 < sizeLine := by decide
    obtain ⟨R, ls, ar, ns, bh⟩ := rs
    simp only at q D hl hd
    have hl2 : cs.length + R.length ≤ 5000000 := by simpa using hl
    have S := D.S
    have h1 : H p = some (RT C dx (cs ++ R) cs.length la ra na bh) := S.hd
    have h2 : H la = some (.lst (ids.map V.ref)) := S.hd2
    have bda : ls.length = ar.length + 1 := bd.a
    have e := D.e
    have at1 : AtT C H p dx (cs ++ R) cs.length la ra na bh := ⟨h1, hl⟩
    refine ⟨_, (pss_cons (ps_set (i := 1) sc_TreeReader_read_piece.nd rfl (Or.inl rfl) (pe_fld (pv 0) rfl)) (pss_cons (ps_if (pt_cmpR op_ne (pe_mt Msign_at hr (by decide) (pv 0) (pa_cons (pv 1) pa_nil)) pe_str (nomark _)) (pss_cons (ps_expr (pe_mt Mcheck_level hr (by decide) (pv 0) (pa_cons (pv 1) pa_nil))) (pss_cons (ps_expr (pe_mt Mjoin_text hr (by decide) (pv 0) (pa_cons (pe_mt Mtake_signs hr (by decide) (pv 0) (pa_cons (pv 1) (pa_cons pe_str pa_nil))) pa_nil))) (pss_cons (ps_fld (pv 0) pe_bl rfl) (pss_one ps_retN)))) pss_nil) (pss_cons (ps_if (pt_val (pe_c Gis_small_letter hr (by decide) (by rfl) (pa_cons (pe_mt Msign_at hr (by decide) (pv 0) (pa_cons (pe_op op_add (pv 1) pe_int) pa_nil)) pa_nil))) (pss_one (ps_expr (pe_mt Mread_start hr (by decide) (pv 0) (pa_cons (pv 1) pa_nil)))) (pss_one (ps_if (pt_val (pe_mt Mstands hr (by decide) (pv 0) (pa_cons pe_str (pa_cons (pv 1) pa_nil)))) (pss_one (ps_expr (pe_mt Mread_end hr (by decide) (pv 0) (pa_cons (pv 1) pa_nil)))) (pss_one (ps_expr (pe_mt Mread_comment hr (by decide) (pv 0) (pa_cons (pv 1) pa_nil))))))) (pss_one (ps_fld (pv 0) pe_bl rfl))))), ?_⟩
    have sgn : ∀ c, decide (R.head? = some 60) = c → (!decide (V.str (TX (R.take 1)) = V.str "<")) = !c := fun c hc => by rw [k_lt, vstr_TX, hd_take, hc]
    cases piece_ok hf with
    | x c l40 l R' ht es =>
      subst es
      simp only at c l40 ht
      refine ⟨_, rfl, p, _, dx, _, _, rfl, h1, T.cl_TreeReader, T.n_TreeReader_at, fs_TreeReader_at, ?_⟩
      refine ⟨_, rfl, p, dx, _, rfl, h1, rfl, _, rfl, p, dx, cs, R, _, la, ra, na, bh, rfl, at1, rfl, _, rfl, ?_⟩
      rw [sgn false (by simpa using c)]
      refine iteT ?_
      refine ⟨_, rfl, p, dx, _, rfl, h1, rfl, _, rfl, p, dx, _, cs ++ R, cs.length, la, ra, na, bh, ids, rfl, h1, h2, by rw [e, D.c.len]; exact l40, ?_⟩
      refine ⟨_, rfl, p, dx, _, rfl, h1, rfl, ?_⟩
      refine ⟨_, rfl, p, dx, _, rfl, h1, rfl, _, rfl, p, dx, cs, R, _, la, ra, na, bh, 60, l, R', G, _, rfl, S, hl, ht, fun G2 H2 S2 g2 e7 e8 => ?_⟩
      obtain ⟨L, ls', rfl⟩ : ∃ L ls', ls = L :: ls' := by cases ls with | nil => simp at bda | cons a r => exact ⟨a, r, rfl⟩
      obtain ⟨cts1, xs, rfl, C1, dk⟩ := D.c.split
      obtain ⟨ids1, ii, rfl, el1⟩ := ids_snoc (n := cts1.length) (by simpa using e)
      have xl := dk.len
      rw [encS_len] at xl
      have bl := bd.l L (by simp)
      have et : (cs ++ R) = (cs ++ R.take (R.length - R'.length)) ++ R' := by
        rw [List.append_assoc]
        exact congrArg _ ((List.take_append_drop _ _).symm.trans (by rw [← e7]))
      have ec : cs.length + (R.length - R'.length) = (cs ++ R.take (R.length - R'.length)).length := by rw [List.length_append, List.length_take]; omega
      rw [ec] at S2
      generalize cs ++ R.take (R.length - R'.length) = c5 at et S2
      refine ⟨p, dx, l, cs ++ R, _, la, ra, na, bh, ids1, cts1, ii, xs, hv, nmK ns, G2, rfl, el1, S2, by omega, fun t G3 H3 S3 g3 ht => ?_⟩
      have h3 : H3 p = some (RT C dx (cs ++ R) c5.length la ra na bh) := S3.hd
      refine ⟨_, rfl, p, _, dx, _, rfl, h3, T.cl_TreeReader, T.n_TreeReader_is_behind_text, (by show 6 < 1000; decide), ?_⟩
      rw [put_bh]
      have S4 := S3.put (u := RT C dx (cs ++ R) c5.length la ra na true)
      have gg := Same.trans g2 g3
      refine q G3 _ c5 (ids1 ++ [ii]) (cts1 ++ [xs ++ [V.ref t]]) hv ⟨by rw [← et]; exact S4, by simp [el1], .top (C1.same gg) ?_, D.h.same gg⟩ et gg
      rw [encS_app]
      refine dqAll_ap (dk.same gg) ?_
      simp only [encS, encN]
      exact .cons (.tup ht (.cons (.str _) (.cons (.str _) .nil))) .nil
    | s X hR c hs =>
      simp only at hR
      subst hR
      refine ⟨_, rfl, p, _, dx, _, _, rfl, h1, T.cl_TreeReader, T.n_TreeReader_at, fs_TreeReader_at, ?_⟩
      refine ⟨_, rfl, p, dx, _, rfl, h1, rfl, _, rfl, p, dx, cs, _, _, la, ra, na, bh, rfl, at1, rfl, _, rfl, ?_⟩
      rw [sgn true (by simp)]
      refine iteF ?_
      have t1 : cs ++ 60 :: X = (cs ++ [60]) ++ X := by simp
      have c1 : ((cs.length : Int) + 1) = ((cs ++ [60]).length : Int) := by simp
      refine ⟨_, rfl, p, dx, _, rfl, h1, rfl, _, rfl, _, _, rfl, rfl, p, dx, cs ++ [60], X, _, la, ra, na, bh, by rw [← c1]; rfl, ⟨by rw [← t1]; exact h1, by rw [← t1]; exact hl⟩, X.take 1, rfl, by rw [List.length_take]; omega, _, rfl, ?_⟩
      rw [hdSm_any, c]
      refine iteT ?_
      refine ⟨_, rfl, p, dx, _, rfl, h1, rfl, _, rfl, p, dx, la, ra, na, cs, ⟨60 :: X, ls, ar, ns, bh⟩, s', G, ids, cts, hv, rfl, rfl, D, hl, bd, hs, fun G' H' cs' b ids' cts' hv' D' eT g' => ?_⟩
      have h3 := D'.S.hd
      refine ⟨_, rfl, p, _, dx, _, rfl, h3, T.cl_TreeReader, T.n_TreeReader_is_behind_text, (by show 6 < 1000; decide), ?_⟩
      rw [put_bh]
      have D2 := D'.bh (b' := false)
      rw [← start_bh hs] at D2
      exact q G' _ cs' ids' cts' hv' (by rw [start_bh hs] at D2 ⊢; exact D2) eT g'
    | e X hR c hs2 hs =>
      simp only at hR
      subst hR
      refine ⟨_, rfl, p, _, dx, _, _, rfl, h1, T.cl_TreeReader, T.n_TreeReader_at, fs_TreeReader_at, ?_⟩
      refine ⟨_, rfl, p, dx, _, rfl, h1, rfl, _, rfl, p, dx, cs, _, _, la, ra, na, bh, rfl, at1, rfl, _, rfl, ?_⟩
      rw [sgn true (by simp)]
      refine iteF ?_
      have t1 : cs ++ 60 :: X = (cs ++ [60]) ++ X := by simp
      have c1 : ((cs.length : Int) + 1) = ((cs ++ [60]).length : Int) := by simp
      refine ⟨_, rfl, p, dx, _, rfl, h1, rfl, _, rfl, _, _, rfl, rfl, p, dx, cs ++ [60], X, _, la, ra, na, bh, by rw [← c1]; rfl, ⟨by rw [← t1]; exact h1, by rw [← t1]; exact hl⟩, X.take 1, rfl, by rw [List.length_take]; omega, _, rfl, ?_⟩
      rw [hdSm_any, c]
      refine iteF ?_
      refine ⟨_, rfl, p, dx, _, rfl, h1, rfl, _, rfl, p, dx, cs, 60 :: X, [60, 47], _, la, ra, na, bh, true, rfl, at1, by decide, hs2, true, rfl, iteT ?_⟩
      refine ⟨_, rfl, p, dx, _, rfl, h1, rfl, _, rfl, p, dx, la, ra, na, cs, ⟨60 :: X, ls, ar, ns, bh⟩, s', G, ids, cts, hv, rfl, rfl, D, hl, bd, hs, fun G' H' cs' b ids' cts' hv' D' eT g' => ?_⟩
      have h3 := D'.S.hd
      refine ⟨_, rfl, p, _, dx, _, rfl, h3, T.cl_TreeReader, T.n_TreeReader_is_behind_text, (by show 6 < 1000; decide), ?_⟩
      rw [put_bh]
      have D2 := D'.bh (b' := false)
      rw [← end_bh hs] at D2
      exact q G' _ cs' ids' cts' hv' (by rw [end_bh hs] at D2 ⊢; exact D2) eT g'
    | c X hR c hs2 hs =>
      simp only at hR
      subst hR
      refine ⟨_, rfl, p, _, dx, _, _, rfl, h1, T.cl_TreeReader, T.n_TreeReader_at, fs_TreeReader_at, ?_⟩
      refine ⟨_, rfl, p, dx, _, rfl, h1, rfl, _, rfl, p, dx, cs, _, _, la, ra, na, bh, rfl, at1, rfl, _, rfl, ?_⟩
      rw [sgn true (by simp)]
      refine iteF ?_
      have t1 : cs ++ 60 :: X = (cs ++ [60]) ++ X := by simp
      have c1 : ((cs.length : Int) + 1) = ((cs ++ [60]).length : Int) := by simp
      refine ⟨_, rfl, p, dx, _, rfl, h1, rfl, _, rfl, _, _, rfl, rfl, p, dx, cs ++ [60], X, _, la, ra, na, bh, by rw [← c1]; rfl, ⟨by rw [← t1]; exact h1, by rw [← t1]; exact hl⟩, X.take 1, rfl, by rw [List.length_take]; omega, _, rfl, ?_⟩
      rw [hdSm_any, c]
      refine iteF ?_
      refine ⟨_, rfl, p, dx, _, rfl, h1, rfl, _, rfl, p, dx, cs, 60 :: X, [60, 47], _, la, ra, na, bh, false, rfl, at1, by decide, hs2, false, rfl, iteF ?_⟩
      refine ⟨_, rfl, p, dx, _, rfl, h1, rfl, _, rfl, p, dx, la, ra, na, cs, ⟨60 :: X, ls, ar, ns, bh⟩, s', G, ids, cts, hv, rfl, rfl, D, hl, bd, hs, fun G' H' cs' b ids' cts' hv' D' eT g' => ?_⟩
      have h3 := D'.S.hd
      refine ⟨_, rfl, p, _, dx, _, rfl, h3, T.cl_TreeReader, T.n_TreeReader_is_behind_text, (by show 6 < 1000; decide), ?_⟩
      rw [put_bh]
      have D2 := D'.bh (b' := false)
      rw [← comm_bh hs] at D2
      exact q G' _ cs' ids' cts' hv' (by rw [comm_bh hs] at D2 ⊢; exact D2) eT g'
end
end VL

set_option Elab.async false
set_option linter.all false
set_option pp.maxSteps 700
set_option maxRecDepth 100000
set_option maxHeartbeats 4000000
namespace VL
open PySem PySem.Spec PyProof.Rows L2
section
variable {P : Program} {w : World} {K : PySem.W.Frag} {mg : Str → Option Value} {base : Heap} {C : Ad}
def spInitT (C : Ad) : Sp := fun vs H Q _ => ∃ (p dx : Addr) (t : List Nat) (G : Hp), vs = [.ref p, .str (TX t)] ∧ Sb G H [(p, .ins C.TreeReader dx [])] ∧
  ∀ la ra na i H', Sb G H' (rM C p dx t 0 la ra na false [i] [[]] [] (nmK [])) → Q .non H'
theorem sc_TreeReader___init__ : FnScope ["self", "text"] ["self", "text"] (defScope s_TreeReader___init__) := ⟨rfl, rfl, rfl, by decide +kernel, rfl, by decide +kernel, by decide +kernel⟩
theorem ok_init (T : Txt K w mg C) : Mak P w K mg base 1 "TreeReader" C.TreeReader (spInitT C) := by
  refine mak_of T.i_TreeReader sc_TreeReader___init__ (fun vs H Q E h => ?_) (fun f cdv A outer s H vs Q E hr h => ?_)
  · obtain ⟨p, dx, t, G, rfl, _⟩ := h
    rfl
  · obtain ⟨p, dx, t, G, rfl, S0, q⟩ := h
    refine ⟨_, (pss_cons (ps_fld (pv 0) (pv 1) rfl) (pss_cons (ps_fld (pv 0) pe_int rfl) (pss_cons (ps_fld (pv 0) (pe_lst (pa_cons (pe_lst pa_nil) pa_nil)) rfl) (pss_cons (ps_fld (pv 0) (pe_lst pa_nil) rfl) (pss_cons (ps_fld (pv 0) pe_dnewK rfl) (pss_one (ps_fld (pv 0) pe_bl rfl))))))), ?_⟩
    refine ⟨_, rfl, _, rfl, p, _, dx, _, rfl, S0.hd, T.cl_TreeReader, T.n_TreeReader_text, (by show 0 < 1000; decide), ?_⟩
    have S1 := S0.put (u := .ins C.TreeReader dx (putF "text" (.str (TX t)) []))
    refine ⟨_, rfl, p, _, dx, _, rfl, S1.hd, T.cl_TreeReader, T.n_TreeReader_at, (by show 1 < 1000; decide), ?_⟩
    have S2 := S1.put (u := .ins C.TreeReader dx (putF "at" (.int 0) (putF "text" (.str (TX t)) [])))
    refine ⟨by show 0 ≤ sizeLine; decide, fun i hi => ⟨by show 1 ≤ sizeLine; decide, fun la hla => ?_⟩⟩
    have S3 := ((S2.add (o := .lst []) hi).add (o := .lst [.ref i]) hla).perm P3
    refine ⟨_, rfl, p, _, dx, _, rfl, S3.hd, T.cl_TreeReader, T.n_TreeReader_lists, (by show 2 < 1000; decide), ?_⟩
    have S4 := S3.put (u := .ins C.TreeReader dx (putF "lists" (.ref la) (putF "at" (.int 0) (putF "text" (.str (TX t)) []))))
    refine ⟨by show 0 ≤ sizeLine; decide, fun ra hra => ?_⟩
    have S5 := (S4.add (o := .lst []) hra).swap
    refine ⟨_, rfl, p, _, dx, _, rfl, S5.hd, T.cl_TreeReader, T.n_TreeReader_around, (by show 3 < 1000; decide), ?_⟩
    have S6 := S5.put (u := .ins C.TreeReader dx (putF "around" (.ref ra) (putF "lists" (.ref la) (putF "at" (.int 0) (putF "text" (.str (TX t)) [])))))
    refine fun na hna => ?_
    have S7 := (S6.add (o := .dK []) hna).swap
    refine ⟨_, rfl, p, _, dx, _, rfl, S7.hd, T.cl_TreeReader, T.n_TreeReader_numbers, (by show 4 < 1000; decide), ?_⟩
    have S8 := S7.put (u := .ins C.TreeReader dx (putF "numbers" (.ref na) (putF "around" (.ref ra) (putF "lists" (.ref la) (putF "at" (.int 0) (putF "text" (.str (TX t)) []))))))
    refine ⟨_, rfl, p, _, dx, _, rfl, S8.hd, T.cl_TreeReader, T.n_TreeReader_is_behind_text, (by show 5 < 1000; decide), ?_⟩
    have S9 := S8.put (u := RT C dx t 0 la ra na false)
    exact q la ra na i _ (S9.perm (List.Perm.cons _ (P3.trans (List.Perm.cons _ (List.Perm.swap _ _ _)))))
def spRead : Sp := fun vs H Q _ => ∃ (t : List Nat) (ks : List Nd) (ns : List (List Nat)) (b : Bool), vs = [.str (TX t)] ∧ t.length ≤ 5000000 ∧ Steps (s0 t) ⟨[], [ks], [], ns, b⟩ ∧ ∀ a H', Same H H' → TreeA H' a ks → Q (.ref a) H'
theorem sc_read_tree : FnScope ["text", "reader"] ["text"] (defScope s_read_tree) := ⟨rfl, rfl, rfl, by decide +kernel, rfl, by decide +kernel, by decide +kernel⟩
theorem ok_read (T : Txt K w mg C) : Cal P w K mg base 9 "read_tree" spRead := by
  have KTreeReader := ok_init (P := P) (base := base) T
  have Mread_piece := ok_piece (P := P) (base := base) T
  have Mfail := no_fail (P := P) (w := w) (base := base) T
  refine cal_of T.d_read_tree sc_read_tree (fun vs H Q E h => ?_) (fun f cdv A outer s H vs Q E hr h => ?_)
  · obtain ⟨t, ks, ns, b, rfl, _⟩ := h
    rfl
  · obtain ⟨t, ks, ns, b, rfl, hl, hs, q⟩ := h
    have big : 10000000 < sizeLine := by decide
    refine ⟨_, (pss_cons (ps_set (i := 1) sc_read_tree.nd rfl (Or.inl rfl) (pe_mk KTreeReader hr (by decide) (by rfl) (pa_cons (pv 0) pa_nil))) (pss_cons (ps_while PassesOwn.never (pt_cmpR op_lt (pe_fld (pv 1) rfl) (pe_callB call_len_str (by rfl) T.z_len PySem.boot_len (pa_cons (pv 0) pa_nil)) (nomark _)) (pss_one (ps_expr (pe_mt0 Mread_piece hr (by decide) (pv 1))))) (pss_cons (ps_if (pt_truth (pe_fld (pv 1) rfl) (fun _ => rfl)) (pss_one (ps_expr (pe_mt Mfail hr (by decide) (pv 1) (pa_cons (pe_callB call_len_str (by rfl) T.z_len PySem.boot_len (pa_cons (pv 0) pa_nil)) pa_nil)))) pss_nil) (pss_one (ps_ret (pe_ix ix_list (pe_fld (pv 1) rfl) pe_int (fun _ _ => rfl))))))), ?_⟩
    refine ⟨_, rfl, fun p dx hx hdx ne => ?_⟩
    have S0 := (Sb.nil (H := upd H dx (.own p))).add (t := p) (o := .ins C.TreeReader dx []) (by rw [upd_ne (Ne.symm ne)]; exact hx)
    have s0' : Same H (upd H dx (.own p)) := Sm.new hdx
    generalize upd H dx (.own p) = G0 at S0 s0' ⊢
    refine ⟨p, dx, t, G0, rfl, S0, fun la ra na i H1 S1 => ⟨rfl, ?_⟩⟩
    refine ⟨fun m σ H' => ∃ (cs : List Nat) (st : RS) (G : Hp) (ids : List Addr) (cts : List (List V)) (hv : List V), m = st.R.length ∧ Steps st ⟨[], [ks], [], ns, b⟩ ∧ Rd C G H' p dx la ra na (cs ++ st.R) cs.length st.bh st.ls st.ar st.ns ids cts hv ∧ t = cs ++ st.R ∧ Bd cs.length st ∧ Same G0 G ∧ σ = [some (.str (TX t)), some (.ref p)],
      ⟨_, [], s0 t, G0, [i], [[]], [], rfl, hs, ⟨S1, rfl, .top .nil .nil, .nil⟩, rfl, ⟨by simp [s0], by show 1 ≤ 41; decide, rfl, Nat.le_refl _⟩, Same.refl _, rfl⟩, ?_⟩
    rintro m σ H2 ⟨cs, st, G, ids, cts, hv, rfl, hst, D, eT, bd, g, rfl⟩
    have h1 : H2 p = some (RT C dx (cs ++ st.R) cs.length la ra na st.bh) := D.S.hd
    have lT := congrArg List.length eT
    rw [List.length_append] at lT
    refine ⟨_, rfl, p, _, dx, _, _, rfl, h1, T.cl_TreeReader, T.n_TreeReader_at, fs_TreeReader_at, _, rfl, _, rfl, by rw [TX_len]; omega, _, _, rfl, rfl, _, rfl, ?_⟩
    rw [TX_len]
    refine ite2 (fun c => ?_) (fun c => ?_)
    · have c := of_decide_eq_true c
      have hR : st.R ≠ [] := fun z => by rw [z] at lT; simp at lT; omega
      refine ⟨fun σ' H' => ∃ m', m' < st.R.length ∧ ∃ (cs : List Nat) (st : RS) (G : Hp) (ids : List Addr) (cts : List (List V)) (hv : List V), m' = st.R.length ∧ Steps st ⟨[], [ks], [], ns, b⟩ ∧ Rd C G H' p dx la ra na (cs ++ st.R) cs.length st.bh st.ls st.ar st.ns ids cts hv ∧ t = cs ++ st.R ∧ Bd cs.length st ∧ Same G0 G ∧ σ' = [some (.str (TX t)), some (.ref p)], fun σ' H' z => z, ?_⟩
      cases hst with
      | refl => exact absurd rfl hR
      | @step _ s2 _ k1 k2 k3 k4 =>
        refine ⟨_, rfl, p, dx, _, rfl, h1, rfl, p, dx, la, ra, na, cs, st, s2, G, ids, cts, hv, rfl, k1, D, by rw [← eT]; exact hl, bd, k3, fun G' H' cs' ids' cts' hv' D' e' g' => ?_⟩
        have le := congrArg List.length e'
        rw [List.length_append, List.length_append] at le
        exact ⟨s2.R.length, k2, cs', s2, G', ids', cts', hv', rfl, k4, D', by rw [eT, e'], (bd.piece k3).up (by omega), Same.trans g g', rfl⟩
    · have hR : st.R = [] := by
        have : ¬ ((cs.length : Int) < (t.length : Int)) := fun z => c (decide_eq_true z)
        exact List.length_eq_zero_iff.mp (by omega)
      cases hst with
      | step k1 _ _ _ => exact absurd hR k1
      | refl =>
        have Dh := D.h
        have Dc := D.c
        cases Dh
        obtain ⟨c, xs, rfl, C1, dk⟩ := Dc.split
        cases C1
        have e := D.e
        obtain ⟨i', rfl⟩ : ∃ i', ids = [i'] := by
          cases ids with
          | nil => simp at e
          | cons a r => cases r with
            | nil => exact ⟨a, rfl⟩
            | cons b r => simp at e
        have S := D.S
        have h2 : H2 la = some (.lst [.ref i']) := S.hd2
        have h3 : H2 ra = some (.lst []) := (S.perm P3).hd
        have h4 : H2 i' = some (.lst xs) := (S.m (i', .lst xs) (by simp [rM, lM])).2
        refine ⟨_, rfl, p, _, dx, _, _, rfl, h1, T.cl_TreeReader, T.n_TreeReader_around, fs_TreeReader_around, false, .inl ⟨[], SqL.of h3, rfl⟩, iteF ?_⟩
        refine ⟨_, rfl, p, _, dx, _, _, rfl, h1, T.cl_TreeReader, T.n_TreeReader_lists, fs_TreeReader_lists, la, _, 0, _, rfl, rfl, SqL.of h2, rfl, ?_⟩
        exact q i' H2 (Same.trans s0' (Same.trans g S.s)) (.lst h4 (dk.same S.s))
end
end VL

set_option linter.all false
set_option maxRecDepth 100000
namespace VL
open PySem PySem.Spec PyProof.Rows L2
/-! ### forty levels: chains of nodes, and where the reader is behind forty openings -/
inductive Mk where
  | p
  | a (n : Option Int)
def mkL (f : Int → List Nat) : Mk → List Nat
  | .p => [60, 112, 62]
  | .a n => zA ++ (numL f n ++ zB)
abbrev zTx : List Nat := [97, 10, 98]
structure Op where
  t : List Nat
  m : Mk
def opF (f : Int → List Nat) (o : Op) : List Nat := o.t ++ mkL f o.m
def oz (z : Int) (k : Nat) : Op := ⟨if z / 6 % 5 = 0 then zTx else [], if z % 3 = 0 then .a (if z / 3 % 2 = 0 then none else some ((k : Int) + 1)) else .p⟩
def midN (z : Int) (k : Nat) (ks : List Nd) : Nd := if z % 3 = 0 then .aw (if z / 3 % 2 = 0 then none else some ((k : Int) + 1)) ks else .el [112] [] ks
def wrapN (z : Int) (k : Nat) (ks : List Nd) : List Nd := (if z / 6 % 5 = 0 then [.tx zTx] else []) ++ ([midN z k ks] ++ (if z / 30 % 5 = 0 then [.tx [99]] else []))
def chn (zs : Nat → Int) (i : Nd) : Nat → List Nd
  | 0 => [i]
  | k + 1 => wrapN (zs k) k (chn zs i k)
def clF (z : Int) : List Nat := (if z % 3 = 0 then zC else [60, 47, 112, 62]) ++ (if z / 30 % 5 = 0 then [99] else [])
theorem ct_mid (f : Int → List Nat) (z : Int) (k : Nat) (ks : List Nd) : pieceG f gT (midN z k ks) = mkL f (oz z k).m ++ (ctG f gT false ks ++ (if z % 3 = 0 then zC else [60, 47, 112, 62])) := by
  unfold midN oz
  by_cases c : z % 3 = 0
  · simp only [c, if_true]
    simp [pieceG, mkL]
  · simp only [c, if_false]
    simp [pieceG, elemL, mkL]
theorem isT_mid (z : Int) (k : Nat) (ks : List Nd) : isT (midN z k ks) = false := by
  unfold midN
  split <;> rfl
theorem ct_wrap (f : Int → List Nat) (z : Int) (k : Nat) (ks : List Nd) : ctG f gT false (wrapN z k ks) = opF f (oz z k) ++ (ctG f gT false ks ++ clF z) := by
  have e1 : ∀ b, ctG f gT b ([midN z k ks] ++ (if z / 30 % 5 = 0 then [.tx [99]] else [])) = mkL f (oz z k).m ++ (ctG f gT false ks ++ clF z) := fun b => by
    unfold clF
    by_cases c : z / 30 % 5 = 0
    · simp only [c, if_true]
      simp only [List.singleton_append, ctG, isT_mid, ct_mid]
      simp [pieceG, gT, isT]
    · simp only [c, if_false]
      simp only [List.append_nil, ctG, isT_mid, ct_mid]
      simp
  unfold wrapN opF
  by_cases c : z / 6 % 5 = 0
  · have e2 : (oz z k).t = zTx := if_pos c
    rw [e2, if_pos c]
    have := e1 true
    rw [List.singleton_append]
    show (if (false && true) = true then zT else []) ++ pieceG f gT (Nd.tx zTx) ++ ctG f gT true ([midN z k ks] ++ (if z / 30 % 5 = 0 then [.tx [99]] else [])) = _
    rw [this]
    simp [pieceG, gT]
  · have e2 : (oz z k).t = [] := if_neg c
    rw [e2, if_neg c]
    exact e1 false
/-- the openings from level j + n - 1 down to level j -/
def os (zs : Nat → Int) (j : Nat) : Nat → List Op
  | 0 => []
  | n + 1 => oz (zs (j + n)) (j + n) :: os zs j n
theorem os_len (zs : Nat → Int) (j : Nat) : ∀ n, (os zs j n).length = n
  | 0 => rfl
  | n + 1 => by simp [os, os_len zs j n]
theorem ct_chn (f : Int → List Nat) (zs : Nat → Int) (i : Nd) (j : Nat) : ∀ n, ∃ W, ctG f gT false (chn zs i (j + n)) = (os zs j n).flatMap (opF f) ++ (ctG f gT false (chn zs i j) ++ W)
  | 0 => ⟨[], by simp [os]⟩
  | n + 1 => by
    obtain ⟨W, e⟩ := ct_chn f zs i j n
    refine ⟨W ++ clF (zs (j + n)), ?_⟩
    show ctG f gT false (wrapN (zs (j + n)) (j + n) (chn zs i (j + n))) = _
    rw [ct_wrap, e]
    simp [os]
/-! what is wanted of such a tree -/
def InnerOk (i : Nd) : Prop := i = .tx [120] ∨ i = .tx [] ∨ i = .el [113] [] [] ∨ i = .aw (some 77) []
theorem wOk_p : wOk [112] := ⟨⟨112, [], rfl, rfl⟩, by simp [isWd, isSm]⟩
theorem wOk_q : wOk [113] := ⟨⟨113, [], rfl, rfl⟩, by simp [isWd, isSm]⟩
theorem okS_app {a b : List Nd} (ha : okS a) (hb : okS b) : okS (a ++ b) := by
  induction a with
  | nil => exact hb
  | cons d a ih => exact ⟨ha.1, ih ha.2⟩
theorem dS_app (a b : List Nd) : dS (a ++ b) = max (dS a) (dS b) := by
  induction a with
  | nil => simp [dS]
  | cons d a ih => simp [dS, ih]
theorem nmS_app (a b : List Nd) : nmS (a ++ b) = nmS a ++ nmS b := by
  induction a with
  | nil => simp [nmS]
  | cons d a ih => simp [nmS, ih]
theorem chn_ok {zs : Nat → Int} {i : Nd} (hi : InnerOk i) : ∀ k, k ≤ 60 → okS (chn zs i k)
  | 0, _ => by
    rcases hi with rfl | rfl | rfl | rfl
    · exact ⟨trivial, trivial⟩
    · exact ⟨trivial, trivial⟩
    · exact ⟨⟨wOk_q, by simp, by simp, trivial⟩, trivial⟩
    · exact ⟨⟨fun i h => by cases h; decide, trivial⟩, trivial⟩
  | k + 1, hk => by
    have ih := chn_ok (zs := zs) hi k (by omega)
    show okS (wrapN (zs k) k (chn zs i k))
    unfold wrapN
    refine okS_app ?_ (okS_app ⟨?_, trivial⟩ ?_)
    · split
      · exact ⟨trivial, trivial⟩
      · trivial
    · unfold midN
      split
      · refine ⟨fun i h => ?_, ih⟩
        split at h
        · cases h
        · cases h
          omega
      · exact ⟨wOk_p, by simp, by simp, ih⟩
    · split
      · exact ⟨trivial, trivial⟩
      · trivial
theorem dS_tx (b : Prop) [Decidable b] (x : List Nat) : dS (if b then [.tx x] else []) ≤ 1 := by
  split <;> simp [dS, dN]
theorem chn_d {zs : Nat → Int} {i : Nd} (hi : InnerOk i) : ∀ k, dS (chn zs i k) = k + 1
  | 0 => by rcases hi with rfl | rfl | rfl | rfl <;> simp [chn, dS, dN]
  | k + 1 => by
    have ih := chn_d (zs := zs) hi k
    show dS (wrapN (zs k) k (chn zs i k)) = _
    unfold wrapN
    rw [dS_app, dS_app]
    have h1 := dS_tx (zs k / 6 % 5 = 0) zTx
    have h2 := dS_tx (zs k / 30 % 5 = 0) [99]
    have h3 : dS [midN (zs k) k (chn zs i k)] = k + 2 := by
      unfold midN
      split <;> simp [dS, dN, ih] <;> omega
    omega
theorem dpS_tx (b : Prop) [Decidable b] (x : List Nat) : dpS (if b then [.tx x] else []) = 0 := by
  split <;> simp [dpS, dpN]
theorem chn_dp {zs : Nat → Int} {i : Nd} (hi : InnerOk i) : ∀ k, dpS (chn zs i k) ≤ k + 1
  | 0 => by rcases hi with rfl | rfl | rfl | rfl <;> simp [chn, dpS, dpN]
  | k + 1 => by
    have ih := chn_dp (zs := zs) hi k
    show dpS (wrapN (zs k) k (chn zs i k)) ≤ _
    unfold wrapN
    rw [dpS_app, dpS_app, dpS_tx, dpS_tx]
    have h3 : dpS [midN (zs k) k (chn zs i k)] ≤ k + 2 := by
      unfold midN
      split <;> simp [dpS, dpN] <;> omega
    omega
theorem wS_tx (b : Prop) [Decidable b] (x : List Nat) : wS (if b then [.tx x] else []) ≤ 80 * x.length + 20 := by
  split <;> simp [wS, wN]
theorem chn_w {zs : Nat → Int} {i : Nd} (hi : InnerOk i) : ∀ k, wS (chn zs i k) ≤ 1000 * k + 1000
  | 0 => by rcases hi with rfl | rfl | rfl | rfl <;> simp [chn, wS, wN, wA]
  | k + 1 => by
    have ih := chn_w (zs := zs) hi k
    show wS (wrapN (zs k) k (chn zs i k)) ≤ _
    unfold wrapN
    rw [wS_app, wS_app]
    have h1 := wS_tx (zs k / 6 % 5 = 0) zTx
    have h2 := wS_tx (zs k / 30 % 5 = 0) [99]
    have h3 : wS [midN (zs k) k (chn zs i k)] ≤ 200 + wS (chn zs i k) := by
      unfold midN
      split <;> simp [wS, wN, wA] <;> omega
    simp at h1 h2
    omega
theorem nmS_txi (b : Prop) [Decidable b] (x : List Nat) : nmS (if b then [.tx x] else []) = [] := by
  split <;> simp [nmS, nmN]
theorem chn_nm {zs : Nat → Int} {i : Nd} (hi : InnerOk i) : ∀ k, k ≤ 60 → (∀ m ∈ nmS (chn zs i k), (1 ≤ m ∧ m ≤ (k : Int)) ∨ m = 77) ∧ (nmS (chn zs i k)).Nodup
  | 0, _ => by rcases hi with rfl | rfl | rfl | rfl <;> simp [chn, nmS, nmN]
  | k + 1, hk => by
    obtain ⟨h1, h2⟩ := chn_nm (zs := zs) hi k (by omega)
    show (∀ m ∈ nmS (wrapN (zs k) k (chn zs i k)), _) ∧ (nmS (wrapN (zs k) k (chn zs i k))).Nodup
    have e : nmS (wrapN (zs k) k (chn zs i k)) = nmS (chn zs i k) ∨ nmS (wrapN (zs k) k (chn zs i k)) = ((k : Int) + 1) :: nmS (chn zs i k) := by
      unfold wrapN
      rw [nmS_app, nmS_app, nmS_txi, nmS_txi]
      unfold midN
      split
      · split
        · left
          simp [nmS, nmN]
        · right
          simp [nmS, nmN]
      · left
        simp [nmS, nmN]
    rcases e with e | e
    · rw [e]
      refine ⟨fun m hm => ?_, h2⟩
      rcases h1 m hm with h | h
      · left; omega
      · exact .inr h
    · rw [e]
      refine ⟨fun m hm => ?_, List.nodup_cons.mpr ⟨fun hm => ?_, h2⟩⟩
      · rcases List.mem_cons.mp hm with rfl | hm
        · left; omega
        · rcases h1 m hm with h | h
          · left; omega
          · exact .inr h
      · rcases h1 _ hm with h | h <;> omega
end VL

set_option linter.all false
set_option maxRecDepth 100000
namespace VL
open PySem PySem.Spec PyProof.Rows L2
/-! ### through the openings -/
def Up60 (j : Nat) (ms : List Int) : Prop := ∀ m ∈ ms, (j : Int) < m ∧ m ≤ 60
theorem zTx_g : zTx.flatMap gT = zTx := by decide
theorem numL_inj {f : Int → List Nat} (hf : NumF f) {i : Int} {ms : List Int} (hi : 1 ≤ i ∧ i < 10 ^ 9) (hms : ∀ m ∈ ms, 1 ≤ m ∧ m < 10 ^ 9) (h : i ∉ ms) : TL.numL i.toNat ∉ ms.map f := num_ne hf hi hms h
theorem up60_b {j : Nat} {ms : List Int} (h : Up60 j ms) : ∀ m ∈ ms, 1 ≤ m ∧ m < 10 ^ 9 := fun m hm => by
  have := h m hm
  omega
theorem open_mk {f : Int → List Nat} (hf : NumF f) {j : Nat} (hj : j < 60) {z : Int} {Z : List Nat} {L : List Nd} {ls : List (List Nd)} {ar : List Hd} {ms : List Int} {b : Bool} (hl : ls.length + 1 ≤ 40) (hm : Up60 (j + 1) ms) :
    ∃ h ms', Steps ⟨mkL f (oz z j).m ++ Z, L :: ls, ar, ms.map f, b⟩ ⟨Z, [] :: L :: ls, h :: ar, ms'.map f, false⟩ ∧ Up60 j ms' := by
  have up : Up60 j ms := fun m hm' => by have := hm m hm'; omega
  unfold oz
  by_cases c : z % 3 = 0
  · simp only [c, if_true]
    by_cases c2 : z / 3 % 2 = 0
    · simp only [c2, if_true]
      exact ⟨_, ms, step_aw0 (by simpa using hl), up⟩
    · simp only [c2, if_false]
      have i1 : (1 : Int) ≤ (j : Int) + 1 := by omega
      have i9 : (j : Int) + 1 < 10 ^ 9 := by omega
      have ni : ((j : Int) + 1) ∉ ms := fun h => by have := hm _ h; omega
      have := step_awN (Z := Z) (ls := L :: ls) (ar := ar) (b := b) i1 i9 (num_ne hf ⟨i1, i9⟩ (up60_b up) ni) (by simpa using hl)
      refine ⟨.aw (some ((j : Int) + 1)), ms ++ [(j : Int) + 1], ?_, fun m hm' => ?_⟩
      · have e : mkL f (.a (some ((j : Int) + 1))) ++ Z = zA ++ TL.numL ((j : Int) + 1).toNat ++ zB ++ Z := by
          show zA ++ (numL f (some ((j : Int) + 1)) ++ zB) ++ Z = _
          have : numL f (some ((j : Int) + 1)) = TL.numL ((j : Int) + 1).toNat := hf _ i1 i9
          rw [this]
          simp
        rw [e, List.map_append]
        have e2 : [((j : Int) + 1)].map f = [TL.numL ((j : Int) + 1).toNat] := by
          show [f _] = _
          rw [hf _ i1 i9]
        rw [e2]
        exact this
      · rcases List.mem_append.mp hm' with h | h
        · exact up m h
        · rw [List.mem_singleton.mp h]
          omega
  · simp only [c, if_false]
    have := step_el (Z := Z) (ls := L :: ls) (ar := ar) (b := b) (ns := ms.map f) (t := [112]) (as := []) wOk_p (by simp) (by simp) (by simpa using hl)
    exact ⟨_, ms, this, up⟩
theorem opens {f : Int → List Nat} (hf : NumF f) {zs : Nat → Int} {j : Nat} {Z : List Nat} : ∀ (n : Nat) (L : List Nd) (ls : List (List Nd)) (ar : List Hd) (ms : List Int) (b : Bool), j + n ≤ 60 → ls.length + n ≤ 40 → Up60 (j + n) ms →
    ∃ L' ls' ar' ms' b', Steps ⟨(os zs j n).flatMap (opF f) ++ Z, L :: ls, ar, ms.map f, b⟩ ⟨Z, L' :: ls', ar', ms'.map f, b'⟩ ∧ ls'.length = ls.length + n ∧ Up60 j ms'
  | 0, L, ls, ar, ms, b, _, _, hm => ⟨L, ls, ar, ms, b, .refl _, rfl, hm⟩
  | n + 1, L, ls, ar, ms, b, hj, hl, hm => by
    have e : (os zs j (n + 1)).flatMap (opF f) ++ Z = (oz (zs (j + n)) (j + n)).t ++ (mkL f (oz (zs (j + n)) (j + n)).m ++ ((os zs j n).flatMap (opF f) ++ Z)) := by
      simp [os, opF]
    have hd : endsOk (mkL f (oz (zs (j + n)) (j + n)).m ++ ((os zs j n).flatMap (opF f) ++ Z)) := by
      right
      cases (oz (zs (j + n)) (j + n)).m <;> rfl
    obtain ⟨L1, b1, s1⟩ : ∃ L1 b1, Steps ⟨(os zs j (n + 1)).flatMap (opF f) ++ Z, L :: ls, ar, ms.map f, b⟩ ⟨mkL f (oz (zs (j + n)) (j + n)).m ++ ((os zs j n).flatMap (opF f) ++ Z), L1 :: ls, ar, ms.map f, b1⟩ := by
      rw [e]
      by_cases c : zs (j + n) / 6 % 5 = 0
      · have e2 : (oz (zs (j + n)) (j + n)).t = zTx.flatMap gT := by rw [zTx_g]; exact if_pos c
        rw [e2]
        exact ⟨_, _, step_text esc_T (by decide) hd (by omega)⟩
      · have e2 : (oz (zs (j + n)) (j + n)).t = [] := if_neg c
        rw [e2]
        exact ⟨L, b, .refl _⟩
    obtain ⟨h, ms', s2, u2⟩ := open_mk (Z := (os zs j n).flatMap (opF f) ++ Z) hf (show j + n < 60 by omega) (z := zs (j + n)) (L := L1) (ls := ls) (ar := ar) (b := b1) (by omega) hm
    obtain ⟨L', ls', ar', ms2, b', s3, hl', u3⟩ := opens hf (zs := zs) (j := j) (Z := Z) n [] (L1 :: ls) (h :: ar) ms' false (by omega) (by simp only [List.length_cons]; omega) u2
    exact ⟨L', ls', ar', ms2, b', s1.trans (s2.trans s3), by rw [hl']; simp only [List.length_cons]; omega, u3⟩
/-- what stands on level 41 -/
inductive Deep (ns : List (List Nat)) (R : List Nat) : Prop
  | x (h0 : R ≠ []) (h : R.head? ≠ some 60)
  | s (X : List Nat) (e : R = 60 :: X) (h : hdSm X = true)
  | e (X : List Nat) (e : R = zE ++ X)
  | a (X : List Nat) (e : R = zA0 ++ X)
  | w (i : Int) (h : 1 ≤ i ∧ i < 10 ^ 9) (X : List Nat) (e : R = zA ++ (TL.numL i.toNat ++ (zB ++ X))) (hn : TL.numL i.toNat ∉ ns)
theorem deep_mk {f : Int → List Nat} (hf : NumF f) {j : Nat} (hj : j < 60) {z : Int} {Z : List Nat} {ms : List Int} (hm : Up60 (j + 1) ms) : Deep (ms.map f) (mkL f (oz z j).m ++ Z) := by
  unfold oz
  by_cases c : z % 3 = 0
  · simp only [c, if_true]
    by_cases c2 : z / 3 % 2 = 0
    · simp only [c2, if_true]
      exact .a Z rfl
    · simp only [c2, if_false]
      have i1 : (1 : Int) ≤ (j : Int) + 1 := by omega
      have i9 : (j : Int) + 1 < 10 ^ 9 := by omega
      have ni : ((j : Int) + 1) ∉ ms := fun h => by have := hm _ h; omega
      refine .w ((j : Int) + 1) ⟨i1, i9⟩ Z ?_ (num_ne hf ⟨i1, i9⟩ (up60_b hm) ni)
      show zA ++ (numL f (some ((j : Int) + 1)) ++ zB) ++ Z = _
      have : numL f (some ((j : Int) + 1)) = TL.numL ((j : Int) + 1).toNat := hf _ i1 i9
      rw [this]
      simp
  · simp only [c, if_false]
    exact .s _ rfl rfl
theorem deep_of {f : Int → List Nat} (hf : NumF f) {zs : Nat → Int} {i : Nd} (hi : InnerOk i) {W : List Nat} {ms : List Int} : ∀ j, j ≤ 60 → Up60 j ms → Deep (ms.map f) (ctG f gT false (chn zs i j) ++ W)
  | 0, _, hm => by
    rcases hi with rfl | rfl | rfl | rfl
    · exact .x (by simp [chn, ctG, pieceG, gT]) (by simp [chn, ctG, pieceG, gT])
    · exact .e W (by simp [chn, ctG, pieceG])
    · exact .s _ (by simp [chn, ctG, pieceG, elemL]; rfl) (by rfl)
    · refine .w 77 ⟨by decide, by decide⟩ (zC ++ W) ?_ (num_ne hf ⟨by decide, by decide⟩ (up60_b hm) fun h => by have := hm _ h; omega)
      have : numL f (some 77) = TL.numL (77 : Int).toNat := hf _ (by decide) (by decide)
      simp [chn, ctG, pieceG, this]
  | j + 1, hj, hm => by
    show Deep _ (ctG f gT false (wrapN (zs j) j (chn zs i j)) ++ W)
    rw [ct_wrap]
    by_cases c : zs j / 6 % 5 = 0
    · have e2 : (oz (zs j) j).t = zTx := if_pos c
      unfold opF
      rw [e2]
      exact .x (by simp) (by simp)
    · have e2 : (oz (zs j) j).t = [] := if_neg c
      unfold opF
      rw [e2, List.nil_append, List.append_assoc]
      exact deep_mk hf (by omega) hm
/-! ### line and column -/
theorem nl_split : ∀ (l : List Nat), 10 ∈ l → ∃ a m, l = a ++ 10 :: m ∧ 10 ∉ m
  | c :: l, h => by
    by_cases k : 10 ∈ l
    · obtain ⟨a, m, e, hm⟩ := nl_split l k
      exact ⟨c :: a, m, by rw [e]; rfl, hm⟩
    · rcases List.mem_cons.mp h with e | e
      · exact ⟨[], l, by rw [← e]; rfl, k⟩
      · exact absurd e k
theorem count_nl (l : List Nat) : Txt.count (TX l) (TX [10]) = (lnOf l : Int) - 1 := by
  have h1 := split_len (TX l) 10
  have h2 := count_is (TX l) 10
  have h3 : (Txt.split (TX l) ⟨#[10]⟩).length = lnOf l := by
    have := split_rows l
    have e : (TX [10]) = (⟨#[10]⟩ : Str) := rfl
    rw [e] at this
    rw [this, List.length_map]
    rfl
  rw [h3] at h1
  have e : (TX [10]) = (⟨#[10]⟩ : Str) := rfl
  rw [e, h2]
  unfold cnt at h1
  omega
theorem rfind_nl (l : List Nat) : Txt.rfind (TX l) (TX [10]) = (l.length : Int) - clOf l - 1 := by
  have key : ∀ i, StrLaws.At (TX l) (TX [10]) (TX l).length i ↔ l[i]? = some 10 := fun i => by
    have := StrLaws.subAt_one (TX l) 10 i
    rw [TX_tl] at this
    exact this
  unfold Txt.rfind
  by_cases h : 10 ∈ l
  · obtain ⟨a, m, e, hm⟩ := nl_split l h
    have hc : clOf l = m.length := by
      have e' : l = (a ++ [10]) ++ m := by rw [e]; simp
      rw [e', cl_plain _ _ hm, cl_nl]
      simp
    have hl : l.length = a.length + 1 + m.length := by rw [e]; simp; omega
    have ha : l[a.length]? = some 10 := by rw [e]; simp
    rcases StrLaws.last_spec (TX l) (TX [10]) with ⟨_, h2⟩ | ⟨i, h1, h2, h3⟩
    · exact absurd ((key _).mpr ha) (h2 _)
    · rw [h1]
      have hi := (key i).mp h2
      have : i = a.length := by
        rcases Nat.lt_trichotomy i a.length with q | q | q
        · exact absurd ((key _).mpr ha) (h3 _ q)
        · exact q
        · exfalso
          rw [e, List.getElem?_append_right (by omega)] at hi
          obtain ⟨d, hd⟩ : ∃ d, i - a.length = d + 1 := ⟨i - a.length - 1, by omega⟩
          rw [hd, List.getElem?_cons_succ] at hi
          exact hm (List.mem_of_getElem? hi)
      subst this
      show ((a.length : Nat) : Int) = _
      omega
  · have hc : clOf l = l.length := by
      have := cl_plain [] l h
      rw [List.nil_append] at this
      rw [this]
      show 0 + l.length = _
      omega
    rcases StrLaws.last_spec (TX l) (TX [10]) with ⟨h1, _⟩ | ⟨i, _, h2, _⟩
    · rw [h1]
      show (-1 : Int) = _
      omega
    · exact absurd (List.mem_of_getElem? ((key i).mp h2)) h
end VL

set_option Elab.async false
set_option linter.all false
set_option pp.maxSteps 700
set_option maxRecDepth 100000
set_option maxHeartbeats 4000000
namespace VL
open PySem PySem.Spec PyProof.Rows L2 NdefX
/-! ### faults of documents: on level 41 -/
abbrev fsD (l c : Nat) : List (Str × V) := [("column", .int (c : Int)), ("line", .int (l : Int))]
def spDInit (D : Addr) : Sp := fun vs H Q _ => ∃ (a : Addr) (l c : Nat), vs = [.ref a, .int (l : Int), .int (c : Int)] ∧ H a = some (exo a D none) ∧ l ≤ 1000000 ∧ c ≤ 1000000 ∧
  ∀ dx H', H dx = none → dx ≠ a → H' a = some (exo a D (some dx)) → H' dx = some (exd dx (fsD l c)) → (∀ b o, H b = some o → b ≠ a → H' b = some o) → Q .non H'
def ErrD (D : Addr) (E : XK) (H : Hp) (l c : Nat) : Prop := ∀ d H', Same H H' → H' d = some (.xd (fsD l c)) → E (.ref D) (some d) H'
theorem len_appI (a b : Str) : (a ++ b).length = a.length + b.length := by
  obtain ⟨a⟩ := a
  obtain ⟨b⟩ := b
  show (a ++ b).size = a.size + b.size
  exact Array.size_append
theorem log6 {n : Nat} (h : n ≤ 1000000) : (n : Int).natAbs.log2 < 1920 := by
  rw [Int.natAbs_natCast]
  by_cases e : n = 0
  · rw [e]
    decide
  · exact Nat.lt_of_lt_of_le ((Nat.log2_lt e).mpr (Nat.lt_of_le_of_lt h (by decide : 1000000 < 2 ^ 20))) (by decide)
theorem dec6 {n : Nat} (h : n ≤ 1000000) : (Str.ofString (toString (n : Int))).length ≤ 7 := by
  rw [SX.num_S n]
  show (TX (TL.numL n)).length ≤ 7
  rw [TX_len]
  exact TL.numL_len (by decide) (Nat.lt_of_le_of_lt h (by decide))
theorem rws_len : ∀ (l acc : List Nat), (rws acc l).length ≤ l.length + 1
  | [], acc => by simp [rws]
  | c :: l, acc => by
    simp only [rws]
    have h1 := rws_len l []
    have h2 := rws_len l (acc ++ [c])
    split <;> simp only [List.length_cons] <;> omega
theorem ln_le (l : List Nat) : lnOf l ≤ l.length + 1 := rws_len l []
theorem cut_pre {cs R : List Nat} : cutS (TX (cs ++ R)) none (some (cs.length : Int)) = TX cs := by
  unfold cutS
  rw [TX_len, HT.sIx_nat, TX_tl]
  have e1 : HT.sIx (cs ++ R).length 0 none = 0 := rfl
  have e2 : min cs.length (cs ++ R).length = cs.length := by simp
  rw [e1, e2]
  refine congrArg TX ?_
  simp
section
variable {P : Program} {w : World} {K : PySem.W.Frag} {mg : Str → Option Value} {base : Heap} {C : Ad}
theorem scID : NScope ["self", "line", "column", "__class__"] ["self", "line", "column"] ["__class__"] (defScope s_InvalidDocument___init__) := nscope_by (by decide +kernel)
theorem ok_IDInit (TE : TxtE P K w mg C) : ∃ (fI : Addr) (fd : FuncData), FnOk P w K mg base CX0 1 fI fd ["self", "line", "column"] (spDInit C.InvalidDocument) ∧ PySem.W.findIn K (.ref C.InvalidDocument) "__init__" = some (some (.ref fI)) ∧ PySem.W.typeIn K (.ref fI) = some (.type "function") ∧ Binds K fd ["self", "line", "column"] [] := by
  have TI := TE.xi_InvalidDocument
  obtain ⟨fI, cc, cda, kV, doc, pm, ct, an, S, h1, h2, hb⟩ := TI.init
  have na1 := TI.na "line" (by simp)
  have na2 := TI.na "column" (by simp)
  refine ⟨fI, _, ?_, h1, h2, hb⟩
  refine fn_sup S TI.o rfl scID (by rfl) rfl (by rfl) (fun _ => rfl) (fun _ => rfl) (fun _ => ⟨_, _, rfl⟩) (fun _ => rfl) (fun vs H Q E h => ?_) (fun A outer s H vs Q E hr h => ?_)
  · obtain ⟨a, l, c, rfl, _⟩ := h
    rfl
  · obtain ⟨a, l, c, rfl, ha, hl, hc, k⟩ := h
    refine ⟨_, _, pa_cons (pe_joined (.cons pe_str (.cons (pe_fmt (pv 1)) (.cons pe_str (.cons (pe_fmt (pv 2)) .nil))))) pa_nil, pss_cons (ps_ost (pv 0) (pv 1)) (pss_one (ps_ost (pv 0) (pv 2))), a, _, rfl, ha, ?_⟩
    have big : ∀ {n : Nat}, n ≤ 5000 → n ≤ sizeLine := fun h => Nat.le_trans h (by decide)
    have l1 := dec6 hl
    have l2 := dec6 hc
    have e1 : (Str.ofString "wrong at line ").length = 14 := by decide +kernel
    have e2 : (Str.ofString ", column ").length = 9 := by decide +kernel
    have e0 : (Str.empty).length = 0 := by decide +kernel
    refine ⟨_, rfl, (by rw [len_appI]; exact big (by omega)), _, rfl, .inr ⟨_, rfl, log6 hl, _, rfl, (by rw [len_appI, len_appI]; exact big (by omega)), ?_⟩⟩
    refine ⟨_, rfl, (by rw [len_appI, len_appI, len_appI]; exact big (by omega)), _, rfl, .inr ⟨_, rfl, log6 hc, _, rfl, (by rw [len_appI, len_appI, len_appI, len_appI]; exact big (by omega)), ?_⟩⟩
    refine ⟨by show 1 ≤ 1000; decide, ha, ?_⟩
    refine ⟨_, rfl, _, rfl, a, C.InvalidDocument, rfl, TI.o, na1, .inl ⟨ha, fun dx hdx nda => ?_⟩⟩
    refine ⟨_, rfl, _, rfl, a, C.InvalidDocument, rfl, TI.o, na2, .inr ⟨dx, _, upd_same, by rw [upd_ne nda]; exact upd_same, by show 1 ≤ 900; decide, ?_⟩⟩
    refine k dx _ hdx nda (by rw [upd_ne (Ne.symm nda)]; exact upd_same) upd_same fun b o e n => ?_
    have nbd : b ≠ dx := ne_of_none e hdx
    rw [upd_ne nbd, upd_ne n, upd_ne nbd]
    exact e
def spFailX (C : Ad) : Sp := fun vs H Q E => ∃ (p dx : Addr) (cs R : List Nat) (n : Nat) (la ra na : Addr) (bh : Bool), vs = [.ref p, .int (cs.length : Int)] ∧ H p = some (RT C dx (cs ++ R) n la ra na bh) ∧ (cs ++ R).length ≤ 900000 ∧ ErrD C.InvalidDocument E H (lnOf cs) (clOf cs + 1)
theorem sc_TreeReader_fail : FnScope ["self", "at", "ahead"] ["self", "at"] (defScope s_TreeReader_fail) := ⟨rfl, rfl, rfl, by decide +kernel, rfl, by decide +kernel, by decide +kernel⟩
theorem ok_failX (TE : TxtE P K w mg C) : MetX P w K mg base 3 C.TreeReader "fail" (spFailX C) := by
  have T := TE.t
  obtain ⟨fI, fd, FI, iI, tI, bI⟩ := ok_IDInit (w := w) (base := base) TE
  have IO := TE.xi_InvalidDocument.o
  have gI := TE.xi_InvalidDocument.g
  refine metX_of T.m_TreeReader_fail T.cl_TreeReader sc_TreeReader_fail (fun vs H Q E h => ?_) (fun f cdv A outer s H vs Q E hr h => ?_)
  · obtain ⟨p, dx, cs, R, n, la, ra, na, bh, rfl, _⟩ := h
    rfl
  · obtain ⟨p, dx, cs, R, n, la, ra, na, bh, rfl, h1, hl, k⟩ := h
    have big : 10000000 < sizeLine := by decide
    have zT : (TX (cs ++ R)).length ≤ sizeLine := by rw [TX_len]; omega
    refine ⟨_, (pss_cons (ps_set (i := 2) sc_TreeReader_fail.nd rfl (Or.inl rfl) (pe_slice sl_str (pe_fld (pv 0) rfl) po_none (po_some (pv 1)))) (pss_one (ps_raise rfl takeX (pmk_oex IO iI tI FI (hr.mono (by decide)) bI .nil pass0 rfl gI (pa_cons (pe_op op_add (pe_bm PySem.F.plainAttrs_str PySem.F.slot_str_count PySem.F.type_str_count mt_count (pv 2) (pa_cons pe_str pa_nil)) pe_int) (pa_cons (pe_op op_sub (pv 1) (pe_bm PySem.F.plainAttrs_str PySem.F.slot_str_rfind PySem.F.type_str_rfind mt_rfind (pv 2) (pa_cons pe_str pa_nil))) pa_nil)))))), ?_⟩
    refine ⟨_, rfl, p, _, dx, _, _, rfl, h1, T.cl_TreeReader, T.n_TreeReader_text, fs_TreeReader_text, _, rfl, _, rfl, _, rfl, zT, ?_⟩
    rw [cut_pre]
    have k_nl : ("\n" : Str) = TX [10] := rfl
    have e1 : Txt.count (TX cs) "\n" + 1 = ((lnOf cs : Nat) : Int) := by rw [k_nl, count_nl]; omega
    have e2 : (cs.length : Int) - Txt.rfind (TX cs) "\n" = ((clOf cs + 1 : Nat) : Int) := by rw [k_nl, rfind_nl]; omega
    have b1 := ln_le cs
    have b2 := cl_le cs
    rw [List.length_append] at hl
    refine ⟨_, rfl, rfl, _, _, rfl, rfl, _, _, rfl, rfl, _, rfl, _, rfl, rfl, _, _, rfl, rfl, _, _, rfl, rfl, ?_⟩
    refine ⟨by show 2 ≤ 1000; decide, fun a ha => ?_⟩
    refine ⟨a, lnOf cs, clOf cs + 1, (by show [V.ref a, V.int (Txt.count (TX cs) "\n" + 1), V.int ((cs.length : Int) - Txt.rfind (TX cs) "\n")] = _; rw [e1, e2]), upd_same, by omega, by omega, fun d H' hd nda i1 i2 kp => ?_⟩
    have hda : H d = none := by rw [upd_ne nda] at hd; exact hd
    refine ⟨rfl, d, _, i1, i2, hda, k d _ (fun b o e => ?_) upd_same⟩
    have nba : b ≠ a := ne_of_none e ha
    have j2 := kp b o (by rw [upd_ne nba]; exact e) nba
    rw [upd_ne (ne_of_none e hda), del_ne nba]
    exact j2
def spChkX (C : Ad) : Sp := fun vs H Q E => ∃ (p dx : Addr) (cs R : List Nat) (n : Nat) (la ra na : Addr) (bh : Bool) (ids : List Addr), vs = [.ref p, .int (cs.length : Int)] ∧ H p = some (RT C dx (cs ++ R) n la ra na bh) ∧ (cs ++ R).length ≤ 900000 ∧ H la = some (.lst (ids.map V.ref)) ∧ 40 < ids.length ∧ ErrD C.InvalidDocument E H (lnOf cs) (clOf cs + 1)
theorem ok_chkX (TE : TxtE P K w mg C) : MetX P w K mg base 4 C.TreeReader "check_level" (spChkX C) := by
  have T := TE.t
  have Xfail := ok_failX (w := w) (base := base) TE
  refine metX_of T.m_TreeReader_check_level T.cl_TreeReader sc_TreeReader_check_level (fun vs H Q E h => ?_) (fun f cdv A outer s H vs Q E hr h => ?_)
  · obtain ⟨p, dx, cs, R, n, la, ra, na, bh, ids, rfl, _⟩ := h
    rfl
  · obtain ⟨p, dx, cs, R, n, la, ra, na, bh, ids, rfl, h1, hl, h2, hi, k⟩ := h
    refine ⟨_, (pss_one (ps_if (pt_cmpR op_gt (pe_callB call_len_seq (by rfl) T.z_len PySem.boot_len (pa_cons (pe_fld (pv 0) rfl) pa_nil)) (C8.pe_gc (by rfl) T.g_LOWEST_LEVEL) (nomark _)) (pss_one (ps_expr (pe_mtX thruX Xfail hr (by decide) (pv 0) (pa_cons (pv 1) pa_nil)))) pss_nil)), ?_⟩
    refine ⟨_, rfl, p, _, dx, _, _, rfl, h1, T.cl_TreeReader, T.n_TreeReader_lists, fs_TreeReader_lists, la, _, rfl, .inl (SqL.of h2), _, _, rfl, rfl, _, rfl, ite2 (fun _ => ?_) (fun c => absurd (decide_eq_true (by rw [List.length_map]; omega)) c)⟩
    exact ⟨_, rfl, p, dx, _, rfl, h1, rfl, _, rfl, p, dx, cs, R, n, la, ra, na, bh, rfl, h1, hl, k⟩
/-- on level 41: the reader stands there -/
structure RdX (C : Ad) (H : Hp) (p dx la ra na : Addr) (T : List Nat) (n : Nat) (bh : Bool) (ns : List (List Nat)) (ids : List Addr) : Prop where
  p : H p = some (RT C dx T n la ra na bh)
  l : H la = some (.lst (ids.map V.ref))
  n : H na = some (.dK (nmK ns))
  i : 40 < ids.length
  t : T.length ≤ 900000
def spPcX (C : Ad) (ok : List (List Nat) → List Nat → Prop) : Sp := fun vs H Q E => ∃ (p dx la ra na : Addr) (cs R : List Nat) (ns : List (List Nat)) (bh : Bool) (ids : List Addr), vs = [.ref p, .int (cs.length : Int)] ∧ RdX C H p dx la ra na (cs ++ R) cs.length bh ns ids ∧ ok ns R ∧ ErrD C.InvalidDocument E H (lnOf cs) (clOf cs + 1)
theorem ok_startX (TE : TxtE P K w mg C) : MetX P w K mg base 7 C.TreeReader "read_start" (spPcX C fun _ _ => True) := by
  have T := TE.t
  have Xcheck_level := ok_chkX (w := w) (base := base) TE
  have Mstands := ok_stands (P := P) (base := base) T
  have Mword_end := ok_wend (P := P) (base := base) T
  have Mtake_attribute := ok_att (P := P) (base := base) T
  have Mbegin_node := ok_begin (P := P) (w := w) (base := base) T
  refine metX_of T.m_TreeReader_read_start T.cl_TreeReader sc_TreeReader_read_start (fun vs H Q E h => ?_) (fun f cdv A outer s H vs Q E hr h => ?_)
  · obtain ⟨p, dx, la, ra, na, cs, R, ns, bh, ids, rfl, _⟩ := h
    rfl
  · obtain ⟨p, dx, la, ra, na, cs, R, ns, bh, ids, rfl, D, _, k⟩ := h
    have hu := hu_of hr
    refine ⟨_, (pss_cons (ps_expr (pe_mtX thruX Xcheck_level hr (by decide) (pv 0) (pa_cons (pv 1) pa_nil))) (pss_cons (ps_fld (pv 0) (pe_mt Mword_end hr (by decide) (pv 0) (pa_cons (pe_op op_add (pv 1) pe_int) pa_nil)) rfl) (pss_cons (ps_set (i := 2) sc_TreeReader_read_start.nd rfl (Or.inl rfl) (pe_slice sl_str (pe_fld (pv 0) rfl) (po_some (pe_op op_add (pv 1) pe_int)) (po_some (pe_fld (pv 0) rfl)))) (pss_cons (ps_set (i := 3) sc_TreeReader_read_start.nd rfl (Or.inl rfl) (pe_lst pa_nil)) (pss_cons (ps_set (i := 4) sc_TreeReader_read_start.nd rfl (Or.inl rfl) pe_dnewK) (pss_cons (ps_while (passes_of rfl) (pt_not (pt_val (pe_mt Mstands hr (by decide) (pv 0) (pa_cons pe_str (pa_cons (pe_fld (pv 0) rfl) pa_nil))))) (pss_one (ps_expr (pe_bm PySem.F.plainAttrs_list PySem.F.slot_list_append PySem.F.type_list_append mt_append (pv 3) (pa_cons (pe_mt Mtake_attribute hr (by decide) (pv 0) (pa_cons (pv 4) pa_nil)) pa_nil))))) (pss_cons (ps_fldaug (pv 0) pe_int in_add) (pss_one (ps_expr (pe_mt Mbegin_node hr (by decide) (pv 0) (pa_cons (pe_tup (pa_cons pe_str (pa_cons (pv 2) (pa_cons (pv 3) pa_nil)))) pa_nil))))))))))), ?_⟩
    exact ⟨_, rfl, p, dx, _, rfl, D.p, rfl, _, rfl, p, dx, cs, R, cs.length, la, ra, na, bh, ids, rfl, D.p, D.t, D.l, D.i, k⟩
end
end VL

set_option Elab.async false
set_option linter.all false
set_option pp.maxSteps 700
set_option maxRecDepth 100000
set_option maxHeartbeats 4000000
namespace VL
open PySem PySem.Spec PyProof.Rows L2 NdefX
theorem Steps.first {s t : RS} (h : Steps s t) (ne : s.ls ≠ t.ls) : ∃ s', piece s = .ok s' ∧ Steps s' t := by
  cases h with
  | refl => exact absurd rfl ne
  | step _ _ h3 h4 => exact ⟨_, h3, h4⟩
theorem num_ne0 {n : Nat} (h : TL.numL n = []) : False := by
  have := TL.numL_ne n
  exact this h
structure WaitF (ns : List (List Nat)) (R : List Nat) : Prop where
  h : ∃ Y, R = 60 :: Y ∧ hdSm Y = false
  c : sd [60, 47] R = some false
  e : sd zE R = some false
  t : sd zT R = some false
  a : sd zA0 R = some false
  z : sd zC R = some false
  w : ∃ s', waitR ⟨R, [], [], ns, false⟩ = .ok s'
theorem wait_facts {i : Int} {ns : List (List Nat)} {X : List Nat} (h : 1 ≤ i ∧ i < 10 ^ 9) (hn : TL.numL i.toNat ∉ ns) : WaitF ns (zA ++ (TL.numL i.toNat ++ (zB ++ X))) := by
  have st := step_awN (Z := X) (ls := []) (ar := []) (b := false) h.1 h.2 hn (by simp)
  have er : zA ++ TL.numL i.toNat ++ zB ++ X = zA ++ (TL.numL i.toNat ++ (zB ++ X)) := by simp
  rw [er] at st
  have ne4 : ∀ {m : List Nat} {a : Nat}, m[4]? = some a → a ≠ 91 → sd m (zA ++ (TL.numL i.toNat ++ (zB ++ X))) = some false := fun hm ha => sd_no (i := 4) hm rfl ha
  obtain ⟨s', h3, h4⟩ := st.first (by simp)
  · cases piece_ok h3 with
    | x c => exact absurd rfl c
    | s Y hR c hs => 
      cases hR
      exact absurd c (by show ¬ (isSm 33 = true); decide)
    | e Y hR c hs2 hs => 
      cases hR
      have := sd_no (m := [60, 47]) (R := zA ++ (TL.numL i.toNat ++ (zB ++ X))) (i := 1) (a := 47) (b := 33) rfl rfl (by decide)
      exact nomatch hs2.symm.trans this
    | c Y hR c hs2 hs =>
      cases commR_ok hs with
      | e hs => exact nomatch hs.symm.trans (ne4 (m := zE) rfl (by decide))
      | t h0 hs => exact nomatch hs.symm.trans (ne4 (m := zT) rfl (by decide))
      | a h0 h3 hs l40 es =>
        exfalso
        have ad := TL.numL_digits i.toNat
        cases hL : TL.numL i.toNat with
        | nil => exact num_ne0 hL
        | cons d r =>
          have := sd_no (m := zA0) (R := zA ++ (TL.numL i.toNat ++ (zB ++ X))) (i := 5) (a := 45) (b := d) rfl (by rw [hL]; rfl) (fun z => by
            have := ad d (by rw [hL]; exact List.mem_cons_self)
            rw [← z] at this
            exact absurd this (by decide))
          exact nomatch hs.symm.trans this
      | c h0 h3 h4 hs => exact nomatch hs.symm.trans (ne4 (m := zC) rfl (by decide))
      | w h0 h3 h4 h5 hw => exact ⟨⟨Y, hR, c⟩, hs2, h0, h3, h4, h5, ⟨_, hw⟩⟩
end VL

set_option Elab.async false
set_option linter.all false
set_option pp.maxSteps 700
set_option maxRecDepth 100000
set_option maxHeartbeats 4000000
namespace VL
open PySem PySem.Spec PyProof.Rows L2 NdefX
section
variable {P : Program} {w : World} {K : PySem.W.Frag} {mg : Str → Option Value} {base : Heap} {C : Ad}
theorem ok_waitX (TE : TxtE P K w mg C) : MetX P w K mg base 5 C.TreeReader "read_waiting" (spPcX C WaitF) := by
  have T := TE.t
  have Gis_digit := ok_digit (P := P) (base := base) T
  have Mfail := no_fail (P := P) (w := w) (base := base) T
  have Mstands := ok_stands (P := P) (base := base) T
  have Msign_at := ok_sign (P := P) (base := base) T
  have Xcheck_level := ok_chkX (w := w) (base := base) TE
  have Mbegin_node := ok_begin (P := P) (w := w) (base := base) T
  refine metX_of T.m_TreeReader_read_waiting T.cl_TreeReader sc_TreeReader_read_waiting (fun vs H Q E h => ?_) (fun f cdv A outer s H vs Q E hr h => ?_)
  · obtain ⟨p, dx, la, ra, na, cs, R, ns, bh, ids, rfl, _⟩ := h
    rfl
  · obtain ⟨p, dx, la, ra, na, cs, R, ns, bh, ids, rfl, D, wf, kE⟩ := h
    have big : 16000018 < sizeLine := by decide
    have hl0 := D.t
    have hl : (cs ++ R).length ≤ 5000000 := by omega
    have hl2 : cs.length + R.length ≤ 5000000 := by simpa using hl
    have zT : (TX (cs ++ R)).length ≤ sizeLine := by rw [TX_len]; omega
    have h1 : H p = some (RT C dx (cs ++ R) cs.length la ra na bh) := D.p
    have h2 : H la = some (.lst (ids.map V.ref)) := D.l
    have hu := hu_of hr
    obtain ⟨s', hf⟩ := wf.w
    obtain ⟨e1, e2, e3, e4, e5, e6, e7, _⟩ := waitR_ok hf
    simp only at e1 e2 e3 e4 e5 e6
    have hR := sd_cons e1
    refine ⟨_, (pss_cons (ps_if (pt_not (pt_val (pe_mt Mstands hr (by decide) (pv 0) (pa_cons (C8.pe_gc (by rfl) T.g_WAITING_BEGIN) (pa_cons (pv 1) pa_nil))))) (pss_one (ps_expr (pe_mt Mfail hr (by decide) (pv 0) (pa_cons (pv 1) pa_nil)))) pss_nil) (pss_cons (ps_set (i := 2) sc_TreeReader_read_waiting.nd rfl (Or.inl rfl) (pe_op op_add (pv 1) (pe_callB call_len_str (by rfl) T.z_len PySem.boot_len (pa_cons (C8.pe_gc (by rfl) T.g_WAITING_BEGIN) pa_nil)))) (pss_cons (ps_set (i := 3) sc_TreeReader_read_waiting.nd rfl (Or.inl rfl) (pv 2)) (pss_cons (ps_while (passes_of rfl) (pt_val (pe_c Gis_digit hr (by decide) (by rfl) (pa_cons (pe_mt Msign_at hr (by decide) (pv 0) (pa_cons (pv 3) pa_nil)) pa_nil))) (pss_one (ps_aug (i := 3) sc_TreeReader_read_waiting.nd rfl (Or.inl rfl) pe_int ip_add))) (pss_cons (ps_set (i := 4) sc_TreeReader_read_waiting.nd rfl (Or.inl rfl) (pe_slice sl_str (pe_fld (pv 0) rfl) (po_some (pv 2)) (po_some (pv 3)))) (pss_cons (ps_if (PW.pt (pw_or (pt_not (pt_truth (pv 4) (fun _ => rfl))) (pw_or1 (pt_not (pt_val (pe_mt Mstands hr (by decide) (pv 0) (pa_cons (C8.pe_gc (by rfl) T.g_COMMENT_END) (pa_cons (pv 3) pa_nil)))))))) (pss_one (ps_expr (pe_mt Mfail hr (by decide) (pv 0) (pa_cons (pv 1) pa_nil)))) pss_nil) (pss_cons (ps_if (PW.pt (pw_or (pt_cmpR op_eq (pe_ix ix_str (pv 4) pe_int (fun _ _ => rfl)) pe_str (nomark _)) (pw_or (pt_cmpR op_gt (pe_callB call_len_str (by rfl) T.z_len PySem.boot_len (pa_cons (pv 4) pa_nil)) (C8.pe_gc (by rfl) T.g_MOST_DIGITS) (nomark _)) (pw_or1 (pt_cmp (pc_din hu (pv 4) (pe_fld (pv 0) rfl))))))) (pss_one (ps_expr (pe_mt Mfail hr (by decide) (pv 0) (pa_cons (pv 1) pa_nil)))) pss_nil) (pss_cons (ps_expr (pe_mtX thruX Xcheck_level hr (by decide) (pv 0) (pa_cons (pv 1) pa_nil))) (pss_cons (ps_dput hu (pe_fld (pv 0) rfl) (pv 4) pe_bl rfl) (pss_cons (ps_expr (pe_mt Mbegin_node hr (by decide) (pv 0) (pa_cons (pe_tup (pa_cons pe_str (pa_cons (pe_callTy call_int_str (by rfl) T.z_int (by decide +kernel) (pa_cons (pv 4) pa_nil)) pa_nil))) pa_nil))) (pss_one (ps_fld (pv 0) (pe_op op_add (pv 3) (pe_callB call_len_str (by rfl) T.z_len PySem.boot_len (pa_cons (C8.pe_gc (by rfl) T.g_COMMENT_END) pa_nil))) rfl)))))))))))), ?_⟩
    have t1 : cs ++ R = (cs ++ zA) ++ R.drop 5 := by rw [List.append_assoc]; exact congrArg _ hR
    have l5 : 5 ≤ R.length := sd_len e1
    have c1 : ((cs.length : Int) + (("<!--[" : Str).length : Int)) = ((cs ++ zA).length : Int) := by
      rw [List.length_append]
      show (cs.length : Int) + 5 = _
      simp
    refine ⟨_, rfl, p, dx, _, rfl, h1, rfl, _, rfl, p, dx, cs, R, zA, _, la, ra, na, bh, true, rfl, ⟨h1, hl⟩, by decide, e1, true, rfl, iteF ?_⟩
    refine ⟨_, rfl, _, rfl, by decide, _, _, rfl, rfl, _, rfl, ?_⟩
    generalize hR5 : R.drop 5 = X at e2 e3 e4 e5 e6 t1
    have lX : X.length + 5 = R.length := by rw [← hR5, List.length_drop]; omega
    have hDE := List.takeWhile_append_dropWhile (p := isDi) (l := X)
    have tls : ∀ k, k ≤ (X.takeWhile isDi).length → ((X.drop k).take 1).any isDi = decide (k < (X.takeWhile isDi).length) := fun k hk => tw_test hk
    generalize hpr : cs ++ zA = pre at t1 c1
    have lpr : pre.length = cs.length + 5 := by rw [← hpr]; simp
    have adD : ∀ c ∈ X.takeWhile isDi, isDi c = true := fun c hc => by
      have := List.all_takeWhile (p := isDi) (l := X)
      exact List.all_eq_true.mp this c hc
    generalize hD : X.takeWhile isDi = D0 at e2 e4 e5 e6 hDE tls adD
    generalize hE : X.dropWhile isDi = Y at e3 hDE
    have lDY : D0.length + Y.length = X.length := by rw [← List.length_append, hDE]
    refine ⟨fun m σ H' => ∃ k : Nat, m + k = D0.length ∧ H' = H ∧ σ = [some (.ref p), some (.int (cs.length : Int)), some (.int (pre.length : Int)), some (.int ((pre.length + k : Nat) : Int)), none], ⟨D0.length, 0, by omega, rfl, by rw [Nat.add_zero, ← c1]; rfl⟩, ?_⟩
    rintro m σ H2 ⟨k, hk, eH, rfl⟩
    subst eH
    have ct : ((pre.length + k : Nat) : Int) = ((pre ++ X.take k).length : Int) := by rw [List.length_append, List.length_take, Nat.min_eq_left (by omega)]
    have at1 : AtT C H2 p dx ((pre ++ X.take k) ++ X.drop k) cs.length la ra na bh := by
      rw [List.append_assoc, List.take_append_drop, ← t1]
      exact ⟨h1, hl⟩
    refine ⟨_, rfl, p, dx, _, rfl, h1, rfl, _, rfl, p, dx, pre ++ X.take k, X.drop k, _, la, ra, na, bh, (by rw [ct]; rfl), at1, (X.drop k).take 1, rfl, by rw [List.length_take]; omega, _, rfl, ?_⟩
    rw [tls k (by omega)]
    refine ite2 (fun c => ?_) (fun c => ?_)
    · have hlt := of_decide_eq_true c
      refine ⟨fun σ' H' => ∃ m', m' < m ∧ ∃ k : Nat, m' + k = D0.length ∧ H' = H2 ∧ σ' = [some (.ref p), some (.int (cs.length : Int)), some (.int (pre.length : Int)), some (.int ((pre.length + k : Nat) : Int)), none], fun σ' H' z => z, ?_⟩
      refine ⟨_, rfl, _, _, rfl, rfl, m - 1, by omega, k + 1, by omega, rfl, ?_⟩
      show [_, _, _, some (V.int (((pre.length + k : Nat) : Int) + 1)), _] = _
      rw [show (((pre.length + k : Nat) : Int) + 1) = ((pre.length + (k + 1) : Nat) : Int) by omega]
    have hkD : k = D0.length := by
      have : ¬ k < D0.length := fun z => c (decide_eq_true z)
      omega
    subst hkD
    have zT2 : (TX (cs ++ R)).length ≤ sizeLine := zT
    refine ⟨_, rfl, p, _, dx, _, _, rfl, h1, T.cl_TreeReader, T.n_TreeReader_text, fs_TreeReader_text, _, rfl, _, rfl, _, rfl, _, rfl, _, rfl, zT, ?_⟩
    have ec : cutS (TX (cs ++ R)) (some (pre.length : Int)) (some ((pre.length + D0.length : Nat) : Int)) = TX D0 := by
      rw [t1, ← hDE]
      exact cut_mid rfl rfl
    rw [ec]
    obtain ⟨d, r, rfl⟩ : ∃ d r, D0 = d :: r := by cases D0 with | nil => exact absurd rfl e2 | cons d r => exact ⟨d, r, rfl⟩
    have sz : (TX (d :: r)).length ≤ sizeLine := by rw [TX_len]; omega
    have t2 : cs ++ R = (pre ++ (d :: r)) ++ Y := by rw [t1, ← hDE, List.append_assoc]
    have at2 : AtT C H2 p dx ((pre ++ (d :: r)) ++ Y) cs.length la ra na bh := by rw [← t2]; exact ⟨h1, hl⟩
    have c2 : ((pre.length + (d :: r).length : Nat) : Int) = ((pre ++ (d :: r)).length : Int) := by rw [List.length_append]
    refine ⟨_, rfl, true, ⟨sz, by rw [TX_len]; simp; omega⟩, iteF ⟨_, rfl, p, dx, _, rfl, h1, rfl, _, rfl, p, dx, pre ++ (d :: r), Y, zB, _, la, ra, na, bh, true, by rw [← c2]; rfl, at2, by decide, e3, true, rfl, iteF ?_⟩⟩
    refine ⟨_, rfl, _, _, d, rfl, rfl, sz, at_mid (pre := []) rfl, rfl, _, rfl, ite2 (fun c => absurd (TX_inj (V.str.inj (of_decide_eq_true c)) : [d] = [48]) (fun z => e4 (by cases z; rfl))) (fun _ => ?_)⟩
    refine ⟨_, rfl, _, rfl, sz, _, _, rfl, rfl, _, rfl, ite2 (fun c => absurd (of_decide_eq_true c) (by rw [TX_len]; omega)) (fun _ => ?_)⟩
    have hna : H2 na = some (.dK (nmK ns)) := D.n
    refine ⟨_, rfl, _, rfl, p, _, dx, _, _, rfl, h1, T.cl_TreeReader, T.n_TreeReader_numbers, fs_TreeReader_numbers, na, _, rfl, DGet.k (k := .inr (TX (d :: r))) hna, _, rfl, ?_⟩
    rw [nm_val e6]
    refine iteF ?_
    exact ⟨_, rfl, p, dx, _, rfl, h1, rfl, _, rfl, p, dx, cs, R, cs.length, la, ra, na, bh, ids, rfl, h1, D.t, h2, D.i, kE⟩
/-- what read_comment is given there -/
def CommF (ns : List (List Nat)) (R : List Nat) : Prop := (∃ X, R = zE ++ X) ∨ (∃ X, R = zA0 ++ X) ∨ WaitF ns R
theorem ok_commX (TE : TxtE P K w mg C) : MetX P w K mg base 6 C.TreeReader "read_comment" (spPcX C CommF) := by
  have T := TE.t
  have Mfail := no_fail (P := P) (w := w) (base := base) T
  have Mstands := ok_stands (P := P) (base := base) T
  have Msign_at := ok_sign (P := P) (base := base) T
  have Xcheck_level := ok_chkX (w := w) (base := base) TE
  have Mjoin_text := ok_join (P := P) (w := w) (base := base) T
  have Mbegin_node := ok_begin (P := P) (w := w) (base := base) T
  have Mend_node := ok_endN (P := P) (w := w) (base := base) T
  have Xread_waiting := ok_waitX (w := w) (base := base) TE
  refine metX_of T.m_TreeReader_read_comment T.cl_TreeReader sc_TreeReader_read_comment (fun vs H Q E h => ?_) (fun f cdv A outer s H vs Q E hr h => ?_)
  · obtain ⟨p, dx, la, ra, na, cs, R, ns, bh, ids, rfl, _⟩ := h
    rfl
  · obtain ⟨p, dx, la, ra, na, cs, R, ns, bh, ids, rfl, D, cf, k⟩ := h
    have big : 16000018 < sizeLine := by decide
    have hl0 := D.t
    have hl : (cs ++ R).length ≤ 5000000 := by omega
    have h1 : H p = some (RT C dx (cs ++ R) cs.length la ra na bh) := D.p
    have hu := hu_of hr
    refine ⟨_, (pss_one (ps_if (pt_val (pe_mt Mstands hr (by decide) (pv 0) (pa_cons (C8.pe_gc (by rfl) T.g_EMPTY_TEXT_reading) (pa_cons (pv 1) pa_nil)))) (pss_cons (ps_expr (pe_mtX thruX Xcheck_level hr (by decide) (pv 0) (pa_cons (pv 1) pa_nil))) (pss_cons (ps_expr (pe_mt Mjoin_text hr (by decide) (pv 0) (pa_cons pe_str pa_nil))) (pss_one (ps_fld (pv 0) (pe_op op_add (pv 1) (pe_callB call_len_str (by rfl) T.z_len PySem.boot_len (pa_cons (C8.pe_gc (by rfl) T.g_EMPTY_TEXT_reading) pa_nil))) rfl)))) (pss_one (ps_if (pt_val (pe_mt Mstands hr (by decide) (pv 0) (pa_cons (C8.pe_gc (by rfl) T.g_BETWEEN_TEXTS_reading) (pa_cons (pv 1) pa_nil)))) (pss_cons (ps_fld (pv 0) (pe_op op_add (pv 1) (pe_callB call_len_str (by rfl) T.z_len PySem.boot_len (pa_cons (C8.pe_gc (by rfl) T.g_BETWEEN_TEXTS_reading) pa_nil))) rfl) (pss_one (ps_if (PW.pt (pw_or (pt_not (pt_val (pe_fld (pv 0) rfl))) (pw_or1 (pt_cmpR op_in_seq (pe_mt Msign_at hr (by decide) (pv 0) (pa_cons (pe_fld (pv 0) rfl) pa_nil)) (pe_tup (pa_cons pe_str (pa_cons pe_str pa_nil))) rfl)))) (pss_one (ps_expr (pe_mt Mfail hr (by decide) (pv 0) (pa_cons (pv 1) pa_nil)))) pss_nil))) (pss_one (ps_if (pt_val (pe_mt Mstands hr (by decide) (pv 0) (pa_cons (C8.pe_gc (by rfl) T.g_AWAIT_BEGIN) (pa_cons (pv 1) pa_nil)))) (pss_cons (ps_expr (pe_mtX thruX Xcheck_level hr (by decide) (pv 0) (pa_cons (pv 1) pa_nil))) (pss_cons (ps_expr (pe_mt Mbegin_node hr (by decide) (pv 0) (pa_cons (pe_tup (pa_cons pe_str (pa_cons pe_non pa_nil))) pa_nil))) (pss_one (ps_fld (pv 0) (pe_op op_add (pv 1) (pe_callB call_len_str (by rfl) T.z_len PySem.boot_len (pa_cons (C8.pe_gc (by rfl) T.g_AWAIT_BEGIN) pa_nil))) rfl)))) (pss_one (ps_if (pt_val (pe_mt Mstands hr (by decide) (pv 0) (pa_cons (C8.pe_gc (by rfl) T.g_AWAIT_END_reading) (pa_cons (pv 1) pa_nil)))) (pss_cons (ps_if (PW.pt (pw_or (pt_not (pt_truth (pe_fld (pv 0) rfl) (fun _ => rfl))) (pw_or1 (pt_cmpR op_ne (pe_ix ix_tup (pe_ix ix_list (pe_fld (pv 0) rfl) (pe_un un_neg pe_int) (fun _ _ => rfl)) pe_int (fun _ _ => rfl)) pe_str (nomark _))))) (pss_one (ps_expr (pe_mt Mfail hr (by decide) (pv 0) (pa_cons (pv 1) pa_nil)))) pss_nil) (pss_cons (ps_expr (pe_mt0 Mend_node hr (by decide) (pv 0))) (pss_one (ps_fld (pv 0) (pe_op op_add (pv 1) (pe_callB call_len_str (by rfl) T.z_len PySem.boot_len (pa_cons (C8.pe_gc (by rfl) T.g_AWAIT_END_reading) pa_nil))) rfl)))) (pss_one (ps_expr (pe_mtX thruX Xread_waiting hr (by decide) (pv 0) (pa_cons (pv 1) pa_nil)))))))))))), ?_⟩
    rcases cf with ⟨X, eR⟩ | ⟨X, eR⟩ | wf
    · have hs : sd zE R = some true := by rw [eR]; exact sd_yes
      refine ⟨_, rfl, p, dx, _, rfl, h1, rfl, _, rfl, p, dx, cs, R, zE, _, la, ra, na, bh, true, rfl, ⟨h1, hl⟩, by decide, hs, true, rfl, iteT ?_⟩
      exact ⟨_, rfl, p, dx, _, rfl, h1, rfl, _, rfl, p, dx, cs, R, cs.length, la, ra, na, bh, ids, rfl, h1, D.t, D.l, D.i, k⟩
    · have h0 : sd zE R = some false := by rw [eR]; exact sd_no (i := 4) (a := 101) (b := 91) rfl rfl (by decide)
      have h3 : sd zT R = some false := by rw [eR]; exact sd_no (i := 4) (a := 116) (b := 91) rfl rfl (by decide)
      have hs : sd zA0 R = some true := by rw [eR]; exact sd_yes
      refine ⟨_, rfl, p, dx, _, rfl, h1, rfl, _, rfl, p, dx, cs, R, zE, _, la, ra, na, bh, false, rfl, ⟨h1, hl⟩, by decide, h0, false, rfl, iteF ?_⟩
      refine ⟨_, rfl, p, dx, _, rfl, h1, rfl, _, rfl, p, dx, cs, R, zT, _, la, ra, na, bh, false, rfl, ⟨h1, hl⟩, by decide, h3, false, rfl, iteF ?_⟩
      refine ⟨_, rfl, p, dx, _, rfl, h1, rfl, _, rfl, p, dx, cs, R, zA0, _, la, ra, na, bh, true, rfl, ⟨h1, hl⟩, by decide, hs, true, rfl, iteT ?_⟩
      exact ⟨_, rfl, p, dx, _, rfl, h1, rfl, _, rfl, p, dx, cs, R, cs.length, la, ra, na, bh, ids, rfl, h1, D.t, D.l, D.i, k⟩
    · refine ⟨_, rfl, p, dx, _, rfl, h1, rfl, _, rfl, p, dx, cs, R, zE, _, la, ra, na, bh, false, rfl, ⟨h1, hl⟩, by decide, wf.e, false, rfl, iteF ?_⟩
      refine ⟨_, rfl, p, dx, _, rfl, h1, rfl, _, rfl, p, dx, cs, R, zT, _, la, ra, na, bh, false, rfl, ⟨h1, hl⟩, by decide, wf.t, false, rfl, iteF ?_⟩
      refine ⟨_, rfl, p, dx, _, rfl, h1, rfl, _, rfl, p, dx, cs, R, zA0, _, la, ra, na, bh, false, rfl, ⟨h1, hl⟩, by decide, wf.a, false, rfl, iteF ?_⟩
      refine ⟨_, rfl, p, dx, _, rfl, h1, rfl, _, rfl, p, dx, cs, R, zC, _, la, ra, na, bh, false, rfl, ⟨h1, hl⟩, by decide, wf.z, false, rfl, iteF ?_⟩
      exact ⟨_, rfl, p, dx, _, rfl, h1, rfl, _, rfl, p, dx, la, ra, na, cs, R, ns, bh, ids, rfl, D, wf, k⟩
def spPieceX (C : Ad) : Sp := fun vs H Q E => ∃ (p dx la ra na : Addr) (cs R : List Nat) (ns : List (List Nat)) (bh : Bool) (ids : List Addr), vs = [.ref p] ∧ RdX C H p dx la ra na (cs ++ R) cs.length bh ns ids ∧ Deep ns R ∧ ErrD C.InvalidDocument E H (lnOf cs) (clOf cs + 1)
theorem ok_pieceX (TE : TxtE P K w mg C) : MetX P w K mg base 8 C.TreeReader "read_piece" (spPieceX C) := by
  have T := TE.t
  have Gis_small_letter := ok_small (P := P) (base := base) T
  have Xcheck_level := ok_chkX (w := w) (base := base) TE
  have Mstands := ok_stands (P := P) (base := base) T
  have Msign_at := ok_sign (P := P) (base := base) T
  have Mjoin_text := ok_join (P := P) (w := w) (base := base) T
  have Mtake_signs := ok_take (P := P) (base := base) T
  have Xread_start := ok_startX (w := w) (base := base) TE
  have Mread_end := ok_end (P := P) (base := base) T
  have Xread_comment := ok_commX (w := w) (base := base) TE
  refine metX_of T.m_TreeReader_read_piece T.cl_TreeReader sc_TreeReader_read_piece (fun vs H Q E h => ?_) (fun f cdv A outer s H vs Q E hr h => ?_)
  · obtain ⟨p, dx, la, ra, na, cs, R, ns, bh, ids, rfl, _⟩ := h
    rfl
  · obtain ⟨p, dx, la, ra, na, cs, R, ns, bh, ids, rfl, D, dp, k⟩ := h
    have big : 16000018 < sizeLine := by decide
    have hl0 := D.t
    have hl : (cs ++ R).length ≤ 5000000 := by omega
    have h1 : H p = some (RT C dx (cs ++ R) cs.length la ra na bh) := D.p
    have at1 : AtT C H p dx (cs ++ R) cs.length la ra na bh := ⟨h1, hl⟩
    have hu := hu_of hr
    refine ⟨_, (pss_cons (ps_set (i := 1) sc_TreeReader_read_piece.nd rfl (Or.inl rfl) (pe_fld (pv 0) rfl)) (pss_cons (ps_if (pt_cmpR op_ne (pe_mt Msign_at hr (by decide) (pv 0) (pa_cons (pv 1) pa_nil)) pe_str (nomark _)) (pss_cons (ps_expr (pe_mtX thruX Xcheck_level hr (by decide) (pv 0) (pa_cons (pv 1) pa_nil))) (pss_cons (ps_expr (pe_mt Mjoin_text hr (by decide) (pv 0) (pa_cons (pe_mt Mtake_signs hr (by decide) (pv 0) (pa_cons (pv 1) (pa_cons pe_str pa_nil))) pa_nil))) (pss_cons (ps_fld (pv 0) pe_bl rfl) (pss_one ps_retN)))) pss_nil) (pss_cons (ps_if (pt_val (pe_c Gis_small_letter hr (by decide) (by rfl) (pa_cons (pe_mt Msign_at hr (by decide) (pv 0) (pa_cons (pe_op op_add (pv 1) pe_int) pa_nil)) pa_nil))) (pss_one (ps_expr (pe_mtX thruX Xread_start hr (by decide) (pv 0) (pa_cons (pv 1) pa_nil)))) (pss_one (ps_if (pt_val (pe_mt Mstands hr (by decide) (pv 0) (pa_cons pe_str (pa_cons (pv 1) pa_nil)))) (pss_one (ps_expr (pe_mt Mread_end hr (by decide) (pv 0) (pa_cons (pv 1) pa_nil)))) (pss_one (ps_expr (pe_mtX thruX Xread_comment hr (by decide) (pv 0) (pa_cons (pv 1) pa_nil))))))) (pss_one (ps_fld (pv 0) pe_bl rfl))))), ?_⟩
    have sgn : ∀ c, decide (R.head? = some 60) = c → (!decide (V.str (TX (R.take 1)) = V.str "<")) = !c := fun c hc => by rw [k_lt, vstr_TX, hd_take, hc]
    have dc : (R.head? ≠ some 60) ∨ (∃ X, R = 60 :: X ∧ hdSm X = true) ∨ (∃ Y, R = 60 :: Y ∧ hdSm Y = false ∧ sd [60, 47] R = some false ∧ CommF ns R) := by
      cases dp with
      | x h0 c => exact .inl c
      | s X eR c => exact .inr (.inl ⟨X, eR, c⟩)
      | e X eR => exact .inr (.inr ⟨_, eR, rfl, by rw [eR]; exact sd_no (i := 1) (a := 47) (b := 33) rfl rfl (by decide), .inl ⟨X, eR⟩⟩)
      | a X eR => exact .inr (.inr ⟨_, eR, rfl, by rw [eR]; exact sd_no (i := 1) (a := 47) (b := 33) rfl rfl (by decide), .inr (.inl ⟨X, eR⟩)⟩)
      | w i hi X eR hn =>
        have wf := wait_facts (X := X) hi hn
        rw [← eR] at wf
        obtain ⟨Y, hY, hs⟩ := wf.h
        exact .inr (.inr ⟨Y, hY, hs, wf.c, .inr (.inr wf)⟩)
    rcases dc with c | ⟨X, eR, c⟩ | ⟨Y, eR, c, hs2, cf⟩
    · refine ⟨_, rfl, p, _, dx, _, _, rfl, h1, T.cl_TreeReader, T.n_TreeReader_at, fs_TreeReader_at, ?_⟩
      refine ⟨_, rfl, p, dx, _, rfl, h1, rfl, _, rfl, p, dx, cs, R, _, la, ra, na, bh, rfl, at1, rfl, _, rfl, ?_⟩
      rw [sgn false (by simpa using c)]
      refine iteT ?_
      exact ⟨_, rfl, p, dx, _, rfl, h1, rfl, _, rfl, p, dx, cs, R, cs.length, la, ra, na, bh, ids, rfl, h1, D.t, D.l, D.i, k⟩
    · subst eR
      refine ⟨_, rfl, p, _, dx, _, _, rfl, h1, T.cl_TreeReader, T.n_TreeReader_at, fs_TreeReader_at, ?_⟩
      refine ⟨_, rfl, p, dx, _, rfl, h1, rfl, _, rfl, p, dx, cs, _, _, la, ra, na, bh, rfl, at1, rfl, _, rfl, ?_⟩
      rw [sgn true (by simp)]
      refine iteF ?_
      have t1 : cs ++ 60 :: X = (cs ++ [60]) ++ X := by simp
      have c1 : ((cs.length : Int) + 1) = ((cs ++ [60]).length : Int) := by simp
      refine ⟨_, rfl, p, dx, _, rfl, h1, rfl, _, rfl, _, _, rfl, rfl, p, dx, cs ++ [60], X, _, la, ra, na, bh, by rw [← c1]; rfl, ⟨by rw [← t1]; exact h1, by rw [← t1]; exact hl⟩, X.take 1, rfl, by rw [List.length_take]; omega, _, rfl, ?_⟩
      rw [hdSm_any, c]
      refine iteT ?_
      exact ⟨_, rfl, p, dx, _, rfl, h1, rfl, _, rfl, p, dx, la, ra, na, cs, 60 :: X, ns, bh, ids, rfl, D, trivial, k⟩
    · subst eR
      refine ⟨_, rfl, p, _, dx, _, _, rfl, h1, T.cl_TreeReader, T.n_TreeReader_at, fs_TreeReader_at, ?_⟩
      refine ⟨_, rfl, p, dx, _, rfl, h1, rfl, _, rfl, p, dx, cs, _, _, la, ra, na, bh, rfl, at1, rfl, _, rfl, ?_⟩
      rw [sgn true (by simp)]
      refine iteF ?_
      have t1 : cs ++ 60 :: Y = (cs ++ [60]) ++ Y := by simp
      have c1 : ((cs.length : Int) + 1) = ((cs ++ [60]).length : Int) := by simp
      refine ⟨_, rfl, p, dx, _, rfl, h1, rfl, _, rfl, _, _, rfl, rfl, p, dx, cs ++ [60], Y, _, la, ra, na, bh, by rw [← c1]; rfl, ⟨by rw [← t1]; exact h1, by rw [← t1]; exact hl⟩, Y.take 1, rfl, by rw [List.length_take]; omega, _, rfl, ?_⟩
      rw [hdSm_any, c]
      refine iteF ?_
      refine ⟨_, rfl, p, dx, _, rfl, h1, rfl, _, rfl, p, dx, cs, 60 :: Y, [60, 47], _, la, ra, na, bh, false, rfl, at1, by decide, hs2, false, rfl, iteF ?_⟩
      exact ⟨_, rfl, p, dx, _, rfl, h1, rfl, _, rfl, p, dx, la, ra, na, cs, 60 :: Y, ns, bh, ids, rfl, D, cf, k⟩
end
end VL

set_option Elab.async false
set_option linter.all false
set_option pp.maxSteps 700
set_option maxRecDepth 100000
set_option maxHeartbeats 4000000
namespace VL
open PySem PySem.Spec PyProof.Rows L2 NdefX
theorem pe_two {X : Cx} {e : Expr} {t1 t2 : TE} (h1 : PE X e t1) (h2 : PE X e t2) : PE X e (fun σ H Q => t1 σ H Q ∨ t2 σ H Q) :=
  ⟨fun pins s σ H Q I h => h.elim (h1.run pins s σ H Q I) (h2.run pins s σ H Q I)⟩
theorem deep_ne {ns : List (List Nat)} {R : List Nat} (h : Deep ns R) : R ≠ [] := by
  cases h with
  | x h0 => exact h0
  | s X e => rw [e]; simp
  | e X e => rw [e]; simp
  | a X e => rw [e]; simp
  | w i h X e => rw [e]; simp
section
variable {P : Program} {w : World} {K : PySem.W.Frag} {mg : Str → Option Value} {base : Heap} {C : Ad}
def spReadX (C : Ad) : Sp := fun vs H Q E => ∃ (cs R : List Nat) (st : RS), vs = [.str (TX (cs ++ R))] ∧ (cs ++ R).length ≤ 900000 ∧ Steps (s0 (cs ++ R)) st ∧ st.R = R ∧ 40 < st.ls.length ∧ Deep st.ns R ∧ ErrD C.InvalidDocument E H (lnOf cs) (clOf cs + 1)
theorem ok_readX (TE : TxtE P K w mg C) : CalX P w K mg base 9 "read_tree" (spReadX C) := by
  have T := TE.t
  have KTreeReader := ok_init (P := P) (base := base) T
  have Mread_piece := ok_piece (P := P) (base := base) T
  have Xread_piece := ok_pieceX (w := w) (base := base) TE
  have Mfail := no_fail (P := P) (w := w) (base := base) T
  refine calX_of T.d_read_tree sc_read_tree (fun vs H Q E h => ?_) (fun f cdv A outer s H vs Q E hr h => ?_)
  · obtain ⟨cs, R, st, rfl, _⟩ := h
    rfl
  · obtain ⟨c0, R, s2, rfl, hl0, hs, hR, hd41, dp, k⟩ := h
    have big : 10000000 < sizeLine := by decide
    have rne := deep_ne dp
    generalize ht : c0 ++ R = t at hl0 hs ⊢
    have hl : t.length ≤ 5000000 := by omega
    refine ⟨_, (pss_cons (ps_set (i := 1) sc_read_tree.nd rfl (Or.inl rfl) (pe_mk KTreeReader hr (by decide) (by rfl) (pa_cons (pv 0) pa_nil))) (pss_cons (ps_while (passes_of rfl) (pt_cmpR op_lt (pe_fld (pv 1) rfl) (pe_callB call_len_str (by rfl) T.z_len PySem.boot_len (pa_cons (pv 0) pa_nil)) (nomark _)) (pss_one (ps_expr (pe_two (pe_mt0 Mread_piece hr (by decide) (pv 1)) (pe_mtX0 thruX Xread_piece hr (by decide) (pv 1)))))) (pss_cons (ps_if (pt_truth (pe_fld (pv 1) rfl) (fun _ => rfl)) (pss_one (ps_expr (pe_mt Mfail hr (by decide) (pv 1) (pa_cons (pe_callB call_len_str (by rfl) T.z_len PySem.boot_len (pa_cons (pv 0) pa_nil)) pa_nil)))) pss_nil) (pss_one (ps_ret (pe_ix ix_list (pe_fld (pv 1) rfl) pe_int (fun _ _ => rfl))))))), ?_⟩
    refine ⟨_, rfl, fun p dx hx hdx ne => ?_⟩
    have S0 := (Sb.nil (H := upd H dx (.own p))).add (t := p) (o := .ins C.TreeReader dx []) (by rw [upd_ne (Ne.symm ne)]; exact hx)
    have s0' : Same H (upd H dx (.own p)) := Sm.new hdx
    generalize upd H dx (.own p) = G0 at S0 s0' ⊢
    refine ⟨p, dx, t, G0, rfl, S0, fun la ra na i H1 S1 => ⟨rfl, ?_⟩⟩
    refine ⟨fun m σ H' => ∃ (cs : List Nat) (st : RS) (G : Hp) (ids : List Addr) (cts : List (List V)) (hv : List V), m = st.R.length ∧ Steps st s2 ∧ Rd C G H' p dx la ra na (cs ++ st.R) cs.length st.bh st.ls st.ar st.ns ids cts hv ∧ t = cs ++ st.R ∧ Bd cs.length st ∧ Same G0 G ∧ σ = [some (.str (TX t)), some (.ref p)],
      ⟨_, [], VL.s0 t, G0, [i], [[]], [], rfl, hs, ⟨S1, rfl, .top .nil .nil, .nil⟩, rfl, ⟨by simp [VL.s0], by show 1 ≤ 41; decide, rfl, Nat.le_refl _⟩, Same.refl _, rfl⟩, ?_⟩
    rintro m σ H2 ⟨cs, st, G, ids, cts, hv, rfl, hst, D, eT, bd, g, rfl⟩
    have h1 : H2 p = some (RT C dx (cs ++ st.R) cs.length la ra na st.bh) := D.S.hd
    have lT := congrArg List.length eT
    rw [List.length_append] at lT
    have stne : st.R ≠ [] := by
      cases hst with
      | refl => rw [hR]; exact rne
      | step k1 => exact k1
    have slen : 0 < st.R.length := List.length_pos_iff.mpr stne
    refine ⟨_, rfl, p, _, dx, _, _, rfl, h1, T.cl_TreeReader, T.n_TreeReader_at, fs_TreeReader_at, _, rfl, _, rfl, by rw [TX_len]; omega, _, _, rfl, rfl, _, rfl, ?_⟩
    rw [TX_len]
    refine ite2 (fun c => ?_) (fun c => absurd (decide_eq_true (by omega)) c)
    refine ⟨fun σ' H' => ∃ m', m' < st.R.length ∧ ∃ (cs : List Nat) (st : RS) (G : Hp) (ids : List Addr) (cts : List (List V)) (hv : List V), m' = st.R.length ∧ Steps st s2 ∧ Rd C G H' p dx la ra na (cs ++ st.R) cs.length st.bh st.ls st.ar st.ns ids cts hv ∧ t = cs ++ st.R ∧ Bd cs.length st ∧ Same G0 G ∧ σ' = [some (.str (TX t)), some (.ref p)], fun σ' H' z => z, ?_⟩
    cases hst with
    | refl =>
      have ec : cs = c0 := by
        rw [← ht, hR] at eT
        exact (List.append_cancel_right eT).symm
      subst ec
      refine .inr ⟨_, rfl, p, dx, _, rfl, h1, rfl, p, dx, la, ra, na, cs, s2.R, s2.ns, s2.bh, ids, rfl, ⟨h1, D.S.hd2, (D.S.m (na, .dK (nmK s2.ns)) (by simp [rM])).2, by rw [D.e, D.c.len]; exact hd41, by rw [← eT]; exact hl0⟩, by rw [hR]; exact dp, fun d H' s hd => k d H' (Same.trans s0' (Same.trans g (Same.trans D.S.s s))) hd⟩
    | @step _ s3 _ k1 k2 k3 k4 =>
      refine .inl ⟨_, rfl, p, dx, _, rfl, h1, rfl, p, dx, la, ra, na, cs, st, s3, G, ids, cts, hv, rfl, k1, D, by rw [← eT]; exact hl, bd, k3, fun G' H' cs' ids' cts' hv' D' e' g' => ?_⟩
      have le := congrArg List.length e'
      rw [List.length_append, List.length_append] at le
      exact ⟨s3.R.length, k2, cs', s3, G', ids', cts', hv', rfl, k4, D', by rw [eT, e'], (bd.piece k3).up (by omega), Same.trans g g', rfl⟩
end
end VL

set_option Elab.async false
set_option linter.all false
set_option pp.maxSteps 700
set_option maxRecDepth 100000
set_option maxHeartbeats 4000000
namespace VL
open PySem PySem.Spec PyProof.Rows L2
theorem plain_pairs (as : List (List Nat × List Nat)) : PyData.plain (.list (as.map pairD)) = true := by
  show PyData.plainAll _ = true
  induction as with
  | nil => rfl
  | cons a as ih =>
    show (PyData.plain (pairD a) && PyData.plainAll (as.map pairD)) = true
    rw [ih]
    rfl
def spRows (K : PySem.W.Frag) : Sp := fun vs H Q _ => ∃ (s : Addr) (ns : List Int) (m : Nat), vs = [.ref s, .int m] ∧ SqL K H s (ns.map V.int) ∧ ns.length ≤ 63 ∧ m ≤ 100 ∧ ∀ r (zs : List Int) H', Same H H' → H r = none → H' r = some (.lst (zs.map V.int)) → zs.length = m → Q (.ref r) H'
theorem map_int_atR {ns : List Int} {j : Int} (h0 : 0 ≤ j) (h1 : j < (ns.length : Int)) : ∃ z, atI (ns.map V.int) j = some (.int z) := by
  have hj : j.toNat < ns.length := by omega
  refine ⟨ns[j.toNat], ?_⟩
  unfold atI ixN
  rw [if_pos h0, if_pos (by rw [List.length_map]; exact h1)]
  show (ns.map V.int)[j.toNat]? = _
  rw [List.getElem?_map, List.getElem?_eq_getElem hj]
  rfl
section
variable {P : Program} {w : World} {K : PySem.W.Frag} {mg : Str → Option Value} {base : Heap} {C : Ad}
theorem sc__law_rows : FnScope ["script", "count", "rows", "k", "cell"] ["script", "count"] (defScope s__law_rows) := ⟨rfl, rfl, rfl, by decide +kernel, rfl, by decide +kernel, by decide +kernel⟩
theorem ok_rows (T : Txt K w mg C) : Cal P w K mg base 1 "_law_rows" (spRows K) := by
  refine cal_of T.d__law_rows sc__law_rows (fun vs H Q E h => ?_) (fun f cdv A outer s H vs Q E hr h => ?_)
  · obtain ⟨a, ns, m, rfl, _⟩ := h
    rfl
  · obtain ⟨a, ns, m, rfl, ha, hn, hm, k⟩ := h
    have hu := hu_of hr
    have big : 100000 < sizeLine := by decide
    refine ⟨_, (pss_cons (ps_set (i := 2) sc__law_rows.nd rfl (Or.inl rfl) (pe_lst pa_nil)) (pss_cons (ps_for PassesOwn.never rfl (pi_range1 (by rfl) T.z_range (pa_cons (pv 1) pa_nil)) (pg_name (i := 3) sc__law_rows.nd rfl (Or.inl rfl)) (pss_cons (ps_set (i := 4) sc__law_rows.nd rfl (Or.inl rfl) pe_int) (C8.pss_cut (ps_if (pt_cmpR op_gt (pe_callB call_len_seq (by rfl) T.z_len PySem.boot_len (pa_cons (pv 0) pa_nil)) pe_int (nomark _)) (pss_one (ps_set (i := 4) sc__law_rows.nd rfl (Or.inl rfl) (pe_callTy call_int1 (by rfl) T.z_int (by decide +kernel) (pa_cons (pe_ix ix_list (pv 0) (pe_op op_mod (pe_callTy call_int1 (by rfl) T.z_int (by decide +kernel) (pa_cons (pv 3) pa_nil)) (pe_callB call_len_seq (by rfl) T.z_len PySem.boot_len (pa_cons (pv 0) pa_nil))) (fun _ _ => rfl)) pa_nil)))) pss_nil) (C8.pss_cut (ps_if (pt_cmpR op_lt (pv 4) pe_int (nomark _)) (pss_one (ps_set (i := 4) sc__law_rows.nd rfl (Or.inl rfl) (pe_op op_sub pe_int (pe_op op_mul pe_int (pv 4))))) pss_nil) (C8.pss_cut (ps_if (PW.pt (pw_or (pt_cmpR op_ge (pv 3) (pe_callB call_len_seq (by rfl) T.z_len PySem.boot_len (pa_cons (pv 0) pa_nil)) (nomark _)) (pw_or1 (pt_cmpR op_lt (pv 4) pe_int (nomark _))))) (pss_cons (ps_set (i := 4) sc__law_rows.nd rfl (Or.inl rfl) (pe_op op_mod (pe_callTy call_int1 (by rfl) T.z_int (by decide +kernel) (pa_cons (pe_op op_add (pe_op op_mul (pe_op op_add (pe_op op_add (pv 4) (pe_op op_mul pe_int (pv 3))) pe_int) pe_int) (pe_op op_mul (pe_op op_mul (pv 3) (pv 3)) pe_int)) pa_nil)) pe_int)) (pss_one (ps_set (i := 4) sc__law_rows.nd rfl (Or.inl rfl) (pe_op op_mod (pe_callTy call_int1 (by rfl) T.z_int (by decide +kernel) (pa_cons (pe_op op_mul (pe_op op_add (pe_op op_add (pv 4) (pe_op op_mul pe_int (pv 3))) pe_int) pe_int) pa_nil)) pe_int)))) pss_nil) (pss_one (ps_expr (pe_bm PySem.F.plainAttrs_list PySem.F.slot_list_append PySem.F.type_list_append mt_append (pv 2) (pa_cons (pv 4) pa_nil))))))))) (pss_one (ps_ret (pv 2))))), ?_⟩
    refine ⟨by show 0 ≤ sizeLine; decide, fun r hr0 => ?_⟩
    refine ⟨_, rfl, _, rfl, by omega, by omega, ?_⟩
    refine for_range (lo := 0) (n := ((m : Nat) : Int).toNat) (fun i σ H' => ∃ (zs : List Int) (y1 y2 : Option V), Same H H' ∧ H' r = some (.lst (zs.map V.int)) ∧ zs.length = i ∧ σ = [some (.ref a), some (.int m), some (.ref r), y1, y2]) ⟨[], none, none, Sm.new hr0, upd_same, rfl, rfl⟩ ?_ ?_
    · rintro i σ H1 hi ⟨zs, y1, y2, s1, h1, zl, rfl⟩
      have hi' : i < m := by omega
      have ha1 := Same.seq s1 ha
      have hL : ((ns.map V.int).length : Int) = (ns.length : Int) := by rw [List.length_map]
      refine ⟨fun σ' H' => H' = H1 ∧ ∃ c : Int, σ' = [some (.ref a), some (.int m), some (.ref r), some (.int (0 + (i : Int))), some (.int c)], ?_, ?_⟩
      · refine ⟨_, rfl, a, _, rfl, .inl ha1, _, _, rfl, rfl, _, rfl, ?_⟩
        rw [hL]
        refine ite2 (fun q => ?_) (fun q => ⟨rfl, 0, rfl⟩)
        have q' : (0 : Int) < ns.length := of_decide_eq_true q
        obtain ⟨z, hz⟩ := map_int_atR (ns := ns) (j := (0 + (i : Int)) % (ns.length : Int)) (Int.emod_nonneg _ (by omega)) (Int.emod_lt_of_pos _ q')
        refine ⟨_, rfl, _, rfl, .inl ⟨_, rfl, _, rfl, a, _, rfl, .inl ha1, _, _, rfl, rfl, by rw [hL]; exact q', a, _, _, .int z, rfl, rfl, ha1, by rw [hL]; exact hz, .inl ⟨_, rfl, rfl, z, rfl⟩⟩⟩
      · rintro σ' H' ⟨eH, c, rfl⟩
        rw [eH]
        refine ⟨fun σ' H' => H' = H1 ∧ ∃ c : Int, σ' = [some (.ref a), some (.int m), some (.ref r), some (.int (0 + (i : Int))), some (.int c)], ?_, ?_⟩
        · refine ⟨_, rfl, _, _, rfl, rfl, _, rfl, ?_⟩
          refine ite2 (fun q => ?_) (fun q => ⟨rfl, c, rfl⟩)
          exact ⟨_, rfl, _, _, rfl, rfl, .inl ⟨by decide, by decide⟩, _, _, rfl, rfl, rfl, _, rfl⟩
        · rintro σ' H' ⟨eH, c, rfl⟩
          rw [eH]
          refine ⟨fun σ' H' => H' = H1 ∧ ∃ c : Int, σ' = [some (.ref a), some (.int m), some (.ref r), some (.int (0 + (i : Int))), some (.int c)], ?_, ?_⟩
          · refine ⟨_, rfl, _, rfl, a, _, rfl, .inl ha1, _, _, rfl, rfl, _, rfl, ?_⟩
            refine ite2 (fun q => ?_) (fun q => ?_)
            · refine ⟨_, rfl, _, rfl, _, _, rfl, rfl, .inl ⟨by decide, by decide⟩, _, _, rfl, rfl, _, _, rfl, rfl, _, _, rfl, rfl, .inr ⟨by decide, by decide⟩, _, rfl, _, rfl, _, _, rfl, rfl, .inl ⟨by omega, by omega⟩, _, _, rfl, rfl, .inr ⟨by decide, by decide⟩, _, _, rfl, rfl, .inl ⟨_, rfl, _, _, rfl, rfl, (by show (0 : Int) < 1000000007; decide), ?_⟩⟩
              exact ⟨_, rfl, _, rfl, _, _, rfl, rfl, .inl ⟨by decide, by decide⟩, _, _, rfl, rfl, _, _, rfl, rfl, _, _, rfl, rfl, .inr ⟨by decide, by decide⟩, .inl ⟨_, rfl, _, _, rfl, rfl, (by show (0 : Int) < 18446744073709551557; decide), rfl, _, rfl⟩⟩
            · refine ⟨_, rfl, _, _, rfl, rfl, _, rfl, ?_⟩
              refine ite2 (fun q => ?_) (fun q => ⟨rfl, c, rfl⟩)
              refine ⟨_, rfl, _, rfl, _, _, rfl, rfl, .inl ⟨by decide, by decide⟩, _, _, rfl, rfl, _, _, rfl, rfl, _, _, rfl, rfl, .inr ⟨by decide, by decide⟩, _, rfl, _, rfl, _, _, rfl, rfl, .inl ⟨by omega, by omega⟩, _, _, rfl, rfl, .inr ⟨by decide, by decide⟩, _, _, rfl, rfl, .inl ⟨_, rfl, _, _, rfl, rfl, (by show (0 : Int) < 1000000007; decide), ?_⟩⟩
              exact ⟨_, rfl, _, rfl, _, _, rfl, rfl, .inl ⟨by decide, by decide⟩, _, _, rfl, rfl, _, _, rfl, rfl, _, _, rfl, rfl, .inr ⟨by decide, by decide⟩, .inl ⟨_, rfl, _, _, rfl, rfl, (by show (0 : Int) < 18446744073709551557; decide), rfl, _, rfl⟩⟩
          · rintro σ' H' ⟨eH, c, rfl⟩
            rw [eH]
            refine ⟨_, rfl, .inl ⟨rfl, _, SqL.of h1⟩, _, rfl, r, _, _, rfl, rfl, h1, ?_, ?_⟩
            · rw [List.length_map]
              omega
            · refine ⟨zs ++ [c], _, _, fun b o eb => ?_, ?_, by rw [List.length_append, zl]; rfl, rfl⟩
              · rw [upd_ne (ne_of_none eb hr0)]
                exact s1 _ _ eb
              · rw [upd_same, List.map_append]
                rfl
    · rintro σ H1 ⟨zs, y1, y2, s1, h1, zl, rfl⟩
      exact ⟨_, rfl, k r zs H1 s1 hr0 h1 (by omega)⟩
def zf (zs : List Int) (k : Nat) : Int := zs.getD (k % 60) 0
theorem zf_at {zs : List Int} (h : zs.length = 60) (k : Nat) : atI (zs.map V.int) ((k : Int) % 60) = some (.int (zf zs k)) := by
  have e : ((k : Int) % 60) = ((k % 60 : Nat) : Int) := by omega
  have hk : k % 60 < zs.length := by omega
  rw [e]
  unfold atI ixN zf
  rw [if_pos (by omega), if_pos (by rw [List.length_map]; omega)]
  show (zs.map V.int)[((k % 60 : Nat) : Int).toNat]? = _
  rw [Int.toNat_natCast, List.getElem?_map, List.getElem?_eq_getElem hk, List.getD_eq_getElem?_getD, List.getElem?_eq_getElem hk]
  rfl
theorem encS_app2 (a b : List Nd) : encS (a ++ b) = encS a ++ encS b := by rw [encS_map, encS_map, encS_map, List.map_append]
def spChain : Sp := fun vs H Q _ => ∃ (rl : Addr) (zs : List Int) (m : Nat) (v : V) (i : Nd), vs = [.ref rl, .int (m : Int), v] ∧ H rl = some (.lst (zs.map V.int)) ∧ zs.length = 60 ∧ m ≤ 60 ∧ Dq H v (encN i) ∧ ∀ p H', Same H H' → TreeA H' p (chn (zf zs) i m) → Q (.ref p) H'
theorem sc__law_chain : FnScope ["rows", "many", "inner", "nodes", "k", "row"] ["rows", "many", "inner"] (defScope s__law_chain) := ⟨rfl, rfl, rfl, by decide +kernel, rfl, by decide +kernel, by decide +kernel⟩
theorem ok_chain (T : Txt K w mg C) : Cal P w K mg base 1 "_law_chain" spChain := by
  refine cal_of T.d__law_chain sc__law_chain (fun vs H Q E h => ?_) (fun f cdv A outer s H vs Q E hr h => ?_)
  · obtain ⟨rl, zs, m, v, i, rfl, _⟩ := h
    rfl
  · obtain ⟨rl, zs, m, v, i, rfl, hrl, zl, hm, hv, q⟩ := h
    have hu := hu_of hr
    have big : 100000 < sizeLine := by decide
    refine ⟨_, (pss_cons (ps_set (i := 3) sc__law_chain.nd rfl (Or.inl rfl) (pe_lst (pa_cons (pv 2) pa_nil))) (pss_cons (ps_for PassesOwn.never rfl (pi_range1 (by rfl) T.z_range (pa_cons (pv 1) pa_nil)) (pg_name (i := 4) sc__law_chain.nd rfl (Or.inl rfl)) (pss_cons (ps_set (i := 5) sc__law_chain.nd rfl (Or.inl rfl) (pe_ix ix_list (pv 0) (pe_op op_mod (pv 4) pe_int) (fun _ _ => rfl))) (C8.pss_cut (ps_if (pt_cmpR op_eq (pe_op op_mod (pv 5) pe_int) pe_int (nomark _)) (pss_one (ps_set (i := 3) sc__law_chain.nd rfl (Or.inl rfl) (pe_lst (pa_cons (pe_tup (pa_cons pe_str (pa_cons (pe_ifExp (pt_cmpR op_eq (pe_op op_mod (pe_op op_fdiv (pv 5) pe_int) pe_int) pe_int (nomark _)) pe_non (pe_op op_add (pv 4) pe_int)) (pa_cons (pv 3) pa_nil)))) pa_nil)))) (pss_one (ps_set (i := 3) sc__law_chain.nd rfl (Or.inl rfl) (pe_lst (pa_cons (pe_tup (pa_cons pe_str (pa_cons pe_str (pa_cons (pe_lst pa_nil) (pa_cons (pv 3) pa_nil))))) pa_nil))))) (C8.pss_cut (ps_if (pt_cmpR op_eq (pe_op op_mod (pe_op op_fdiv (pv 5) pe_int) pe_int) pe_int (nomark _)) (pss_one (ps_set (i := 3) sc__law_chain.nd rfl (Or.inl rfl) (pe_op op_cat (pe_lst (pa_cons (pe_tup (pa_cons pe_str (pa_cons pe_str pa_nil))) pa_nil)) (pv 3)))) pss_nil) (pss_one (ps_if (pt_cmpR op_eq (pe_op op_mod (pe_op op_fdiv (pv 5) pe_int) pe_int) pe_int (nomark _)) (pss_one (ps_set (i := 3) sc__law_chain.nd rfl (Or.inl rfl) (pe_op op_cat (pv 3) (pe_lst (pa_cons (pe_tup (pa_cons pe_str (pa_cons pe_str pa_nil))) pa_nil))))) pss_nil)))))) (pss_one (ps_ret (pv 3))))), ?_⟩
    refine ⟨_, rfl, by show 1 ≤ sizeLine; decide, fun p0 hp0 => ?_⟩
    refine ⟨_, rfl, _, rfl, by omega, by omega, ?_⟩
    refine for_range (lo := 0) (n := ((m : Nat) : Int).toNat) (fun k σ H' => ∃ (p : Addr) (y4 y5 : Option V), Same H H' ∧ TreeA H' p (chn (zf zs) i k) ∧ σ = [some (.ref rl), some (.int (m : Int)), some v, some (.ref p), y4, y5]) ⟨p0, none, none, Sm.new hp0, .lst upd_same (.cons (hv.same (Sm.new hp0)) .nil), rfl⟩ ?_ ?_
    · rintro k σ H1 hk ⟨p, y4, y5, s1, tr, rfl⟩
      have hk' : k < m := by omega
      have hz : atI (zs.map V.int) ((0 + (k : Int)) % 60) = some (.int (zf zs k)) := by rw [Int.zero_add]; exact zf_at zl k
      refine ⟨_, rfl, _, rfl, _, _, rfl, rfl, (by show (0 : Int) < 60; decide), rl, _, _, _, rfl, rfl, SqL.of (s1 _ _ hrl), hz, ?_⟩
      generalize hzk : zf zs k = z
      refine ⟨fun σ' H' => ∃ p : Addr, Same H H' ∧ TreeA H' p [midN z k (chn (zf zs) i k)] ∧ σ' = [some (.ref rl), some (.int (m : Int)), some v, some (.ref p), some (.int (0 + (k : Int))), some (.int z)], ?_, ?_⟩
      · refine ⟨_, rfl, _, _, rfl, rfl, (by show (0 : Int) < 3; decide), rfl, _, rfl, ite2 (fun c => ?_) (fun c => ?_)⟩
        · have c0 : z % 3 = 0 := by simpa using c
          have em : midN z k (chn (zf zs) i k) = .aw (if z / 3 % 2 = 0 then none else some ((k : Int) + 1)) (chn (zf zs) i k) := if_pos c0
          rw [em]
          have mk : ∀ (x : V) (n : Option Int) (t p' : Addr), (∀ H', Dq H' x (nV n)) → H1 t = none → (upd H1 t (.tup [.str "await", x, .ref p])) p' = none → Same H (upd (upd H1 t (.tup [.str "await", x, .ref p])) p' (.lst [.ref t])) ∧ TreeA (upd (upd H1 t (.tup [.str "await", x, .ref p])) p' (.lst [.ref t])) p' [.aw n (chn (zf zs) i k)] := fun x n t p' hx ht hp' => by
            have s2 := Sm.new (o := .tup [.str "await", x, .ref p]) ht
            have s3 := Sm.new (o := .lst [.ref t]) hp'
            refine ⟨Same.trans s1 (Same.trans s2 s3), .lst upd_same ?_⟩
            simp only [encS, encN]
            exact .cons (.tup (s3 _ _ upd_same) (.cons (.str _) (.cons (hx _) (.cons ((tr.same s2).same s3) .nil)))) .nil
          refine ⟨_, rfl, _, _, rfl, rfl, ⟨by decide, by decide⟩, _, _, rfl, rfl, (by show (0 : Int) < 2; decide), rfl, _, rfl, ite2 (fun c2 => ?_) (fun c2 => ?_)⟩
          · have c2' : z / 3 % 2 = 0 := by simpa using c2
            rw [if_pos c2']
            refine ⟨_, rfl, by show 3 ≤ sizeLine; decide, fun t ht => ⟨by show 1 ≤ sizeLine; decide, fun p' hp' => ?_⟩⟩
            obtain ⟨a1, a2⟩ := mk .non none t p' (fun _ => .non) ht hp'
            exact ⟨p', a1, a2, rfl⟩
          · have c2' : ¬ z / 3 % 2 = 0 := by simpa using c2
            rw [if_neg c2']
            refine ⟨_, rfl, _, _, rfl, rfl, _, rfl, by show 3 ≤ sizeLine; decide, fun t ht => ⟨by show 1 ≤ sizeLine; decide, fun p' hp' => ?_⟩⟩
            have e1 : (0 + (k : Int)) + 1 = (k : Int) + 1 := by omega
            obtain ⟨a1, a2⟩ := mk (.int ((0 + (k : Int)) + 1)) (some ((k : Int) + 1)) t p' (fun _ => by rw [e1]; exact .int _) ht hp'
            exact ⟨p', a1, a2, rfl⟩
        · have c0 : ¬ z % 3 = 0 := by simpa using c
          have em : midN z k (chn (zf zs) i k) = .el [112] [] (chn (zf zs) i k) := if_neg c0
          rw [em]
          refine ⟨by show 0 ≤ sizeLine; decide, fun l0 hl0 => ⟨_, rfl, by show 4 ≤ sizeLine; decide, fun t ht => ⟨by show 1 ≤ sizeLine; decide, fun p' hp' => ?_⟩⟩⟩
          have s2 := Sm.new (o := .lst []) hl0
          have s3 := Sm.new (o := .tup [.str "element", .str "p", .ref l0, .ref p]) ht
          have s4 := Sm.new (o := .lst [.ref t]) hp'
          have s34 := Same.trans s3 s4
          refine ⟨p', Same.trans s1 (Same.trans s2 s34), .lst upd_same ?_, rfl⟩
          simp only [encS, encN]
          exact .cons (.tup (s4 _ _ upd_same) (.cons (.str _) (.cons (.str _) (.cons (.lst (s34 _ _ upd_same) .nil) (.cons ((tr.same s2).same s34) .nil))))) .nil
      · rintro σ' H2 ⟨p2, s2, tr2, rfl⟩
        refine ⟨fun σ' H' => ∃ p : Addr, Same H H' ∧ TreeA H' p ((if z / 6 % 5 = 0 then [.tx zTx] else []) ++ [midN z k (chn (zf zs) i k)]) ∧ σ' = [some (.ref rl), some (.int (m : Int)), some v, some (.ref p), some (.int (0 + (k : Int))), some (.int z)], ?_, ?_⟩
        · refine ⟨_, rfl, _, _, rfl, rfl, ⟨by decide, by decide⟩, _, _, rfl, rfl, (by show (0 : Int) < 5; decide), rfl, _, rfl, ite2 (fun c => ?_) (fun c => ?_)⟩
          · have c0 : z / 6 % 5 = 0 := by simpa using c
            rw [if_pos c0]
            obtain ⟨xs, hxs, xl, dx⟩ := tree_at tr2
            refine ⟨by show 2 ≤ sizeLine; decide, fun t ht => ⟨by show 1 ≤ sizeLine; decide, fun l ht2 => ?_⟩⟩
            have s3 := Sm.new (o := .tup [.str "text", .str "a\nb"]) ht
            have s4 := Sm.new (o := .lst [.ref t]) ht2
            have s34 := Same.trans s3 s4
            refine ⟨_, rfl, l, p2, _, _, rfl, rfl, upd_same, s34 _ _ hxs, by rw [xl]; show 1 + 1 ≤ _; decide, fun p' hp' => ?_⟩
            have s5 := Sm.new (o := .lst ([.ref t] ++ xs)) hp'
            refine ⟨p', Same.trans s2 (Same.trans s34 s5), .lst upd_same ?_, rfl⟩
            rw [encS_app2]
            refine dqAll_ap ?_ ((dx.same s34).same s5)
            simp only [encS, encN]
            exact .cons (.tup (s5 _ _ (s4 _ _ upd_same)) (.cons (.str _) (.cons (.str _) .nil))) .nil
          · have c0 : ¬ z / 6 % 5 = 0 := by simpa using c
            rw [if_neg c0]
            exact ⟨p2, s2, tr2, rfl⟩
        · rintro σ' H3 ⟨p3, s3, tr3, rfl⟩
          have ew : chn (zf zs) i (k + 1) = ((if z / 6 % 5 = 0 then [.tx zTx] else []) ++ [midN z k (chn (zf zs) i k)]) ++ (if z / 30 % 5 = 0 then [.tx [99]] else []) := by
            show wrapN (zf zs k) k _ = _
            rw [hzk]
            unfold wrapN
            rw [List.append_assoc]
          rw [ew]
          generalize hks : ((if z / 6 % 5 = 0 then [Nd.tx zTx] else []) ++ [midN z k (chn (zf zs) i k)]) = ks at tr3
          have kl : ks.length ≤ 2 := by
            rw [← hks]
            split <;> simp
          refine ⟨_, rfl, _, _, rfl, rfl, ⟨by decide, by decide⟩, _, _, rfl, rfl, (by show (0 : Int) < 5; decide), rfl, _, rfl, ite2 (fun c => ?_) (fun c => ?_)⟩
          · have c0 : z / 30 % 5 = 0 := by simpa using c
            rw [if_pos c0]
            obtain ⟨xs, hxs, xl, dx⟩ := tree_at tr3
            refine ⟨_, rfl, by show 2 ≤ sizeLine; decide, fun t ht => ⟨by show 1 ≤ sizeLine; decide, fun l ht2 => ?_⟩⟩
            have s4 := Sm.new (o := .tup [.str "text", .str "c"]) ht
            have s5 := Sm.new (o := .lst [.ref t]) ht2
            have s45 := Same.trans s4 s5
            refine ⟨p3, l, _, _, rfl, rfl, s45 _ _ hxs, upd_same, by rw [xl]; show _ + 1 ≤ _; omega, fun p' hp' => ?_⟩
            have s6 := Sm.new (o := .lst (xs ++ [.ref t])) hp'
            refine ⟨p', _, _, Same.trans s3 (Same.trans s45 s6), .lst upd_same ?_, rfl⟩
            rw [encS_app2]
            refine dqAll_ap ((dx.same s45).same s6) ?_
            simp only [encS, encN]
            exact .cons (.tup (s6 _ _ (s5 _ _ upd_same)) (.cons (.str _) (.cons (.str _) .nil))) .nil
          · have c0 : ¬ z / 30 % 5 = 0 := by simpa using c
            rw [if_neg c0, List.append_nil]
            exact ⟨p3, _, _, s3, tr3, rfl⟩
    · rintro σ H1 ⟨p, y4, y5, s1, tr, rfl⟩
      exact ⟨_, rfl, q p H1 s1 tr⟩
end
end VL

set_option Elab.async false
set_option linter.all false
set_option pp.maxSteps 700
set_option maxRecDepth 100000
set_option maxHeartbeats 4000000
namespace VL
open PySem PySem.Spec PyProof.Rows L2
theorem neK {a b : Str} (h : (a == b) = false) : ¬ (decide (V.str a = V.str b) = true) := fun c => by
  have e := V.str.inj (of_decide_eq_true c)
  subst e
  simp at h
theorem neK2 {a b : Str} (h : (a == b) = false) : (!decide (V.str a = V.str b)) = true := by
  have := neK h
  simpa using this
theorem dS_snoc (ks : List Nd) (d : Nd) : dS (ks ++ [d]) = max (dS ks) (dN d) := by
  rw [dS_app]
  simp [dS]
def spDepth (n : Nat) : Sp := fun vs H Q _ => ∃ (a : Addr) (ks : List Nd), vs = [.ref a] ∧ TreeA H a ks ∧ dpS ks ≤ n ∧ Q (.int (dS ks : Nat)) H
section
variable {P : Program} {w : World} {K : PySem.W.Frag} {mg : Str → Option Value} {base : Heap} {C : Ad}
theorem sc__law_depth : FnScope ["nodes", "depth", "node", "inner"] ["nodes"] (defScope s__law_depth) := ⟨rfl, rfl, rfl, by decide +kernel, rfl, by decide +kernel, by decide +kernel⟩
theorem depth_0 (T : Txt K w mg C) {k : Nat} : Cal P w K mg base (k + 1) "_law_depth" spFalse := cal_of T.d__law_depth sc__law_depth (fun vs H Q E h => h.elim) (fun f cdv A outer s H vs Q E hr h => h.elim)
theorem depth_S (T : Txt K w mg C) {n : Nat} {sp : Sp} (hsp : ∀ m, m + 1 = n → sp = spDepth m) (G_law_depth : Cal P w K mg base (n + 2) "_law_depth" sp) : Cal P w K mg base (n + 3) "_law_depth" (spDepth n) := by
  refine cal_of T.d__law_depth sc__law_depth (fun vs H Q E h => ?_) (fun f cdv A outer s H vs Q E hr h => ?_)
  · obtain ⟨a, ks, rfl, _⟩ := h
    rfl
  · obtain ⟨a, ks, rfl, ta, hn, q⟩ := h
    obtain ⟨xs, ha, hl, hd⟩ := tree_at ta
    have big : 10000000 < sizeLine := by decide
    refine ⟨_, (pss_cons (ps_set (i := 1) sc__law_depth.nd rfl (Or.inl rfl) pe_int) (pss_cons (ps_for PassesOwn.never rfl (pi_list (pv 0)) (pg_name (i := 2) sc__law_depth.nd rfl (Or.inl rfl)) (pss_cons (ps_set (i := 3) sc__law_depth.nd rfl (Or.inl rfl) pe_int) (C8.pss_cut (ps_if (pt_cmpR op_ne (pe_ix ix_tup (pv 2) pe_int (fun _ _ => rfl)) pe_str (nomark _)) (pss_one (ps_set (i := 3) sc__law_depth.nd rfl (Or.inl rfl) (pe_c G_law_depth hr (by omega) (by rfl) (pa_cons (pe_ifExp (pt_cmpR op_eq (pe_ix ix_tup (pv 2) pe_int (fun _ _ => rfl)) pe_str (nomark _)) (pe_ix ix_tup (pv 2) pe_int (fun _ _ => rfl)) (pe_ix ix_tup (pv 2) pe_int (fun _ _ => rfl))) pa_nil)))) pss_nil) (pss_one (ps_set (i := 1) sc__law_depth.nd rfl (Or.inl rfl) (pe_callB (call_max2 rfl) (by rfl) T.z_max (by decide +kernel) (pa_cons (pv 1) (pa_cons (pe_op op_add pe_int (pv 3)) pa_nil)))))))) (pss_one (ps_ret (pv 1))))), ?_⟩
    refine ⟨_, rfl, a, rfl, ⟨_, SqL.of ha⟩, ?_⟩
    refine for_it (walk_list (K := K) (a := a) (xs := xs)) (fun i σ H' => H' = H ∧ ∃ y2 y3, σ = [some (.ref a), some (.int (dS (ks.take i) : Nat)), y2, y3]) ⟨rfl, none, none, rfl⟩ (fun i σ H' _ z => by rw [z.1]; exact SqL.of ha) ?_ ?_
    · rintro i x σ H1 H2 hi ⟨e1, y2, y3, rfl⟩ ⟨rfl, hx⟩
      subst e1
      obtain ⟨d, hdi, dd⟩ := node_at hd hx
      have dm := dp_mem (List.mem_of_getElem? hdi)
      have tk : ks.take (i + 1) = ks.take i ++ [d] := by rw [List.take_add_one, hdi]; rfl
      refine ⟨fun σ' H' => H' = H2 ∧ ∃ c : Nat, dN d = c + 1 ∧ σ' = [some (.ref a), some (.int (dS (ks.take i) : Nat)), some x, some (.int (c : Int))], ?_, ?_⟩
      · cases d with
        | tx y =>
          obtain ⟨q0, rfl, h0⟩ := n_tx dd
          refine ⟨_, rfl, q0, _, 0, _, rfl, rfl, SqT.of h0, rfl, rfl, _, rfl, ite2 (fun c => absurd c (by simp)) (fun _ => ?_)⟩
          exact ⟨rfl, 0, rfl, rfl⟩
        | el t as kk =>
          obtain ⟨q0, pa, pk, rfl, h0, h2, h3⟩ := n_el dd
          cases n with
          | zero => simp [dpN] at dm; omega
          | succ n =>
          rw [hsp n rfl]
          simp only [dpN] at dm
          refine ⟨_, rfl, q0, _, 0, _, rfl, rfl, SqT.of h0, rfl, rfl, _, rfl, ite2 (fun _ => ?_) (fun c => absurd (neK2 (by decide +kernel)) c)⟩
          refine ⟨_, rfl, q0, _, 0, _, rfl, rfl, SqT.of h0, rfl, rfl, _, rfl, ite2 (fun c => absurd c (neK (by decide +kernel))) (fun _ => ?_)⟩
          exact ⟨_, rfl, q0, _, 3, _, rfl, rfl, SqT.of h0, rfl, pk, kk, rfl, h3, by omega, rfl, dS kk, by simp only [dN]; omega, rfl⟩
        | aw nn kk =>
          obtain ⟨q0, pk, rfl, h0, h3⟩ := n_aw dd
          cases n with
          | zero => simp [dpN] at dm; omega
          | succ n =>
          rw [hsp n rfl]
          simp only [dpN] at dm
          refine ⟨_, rfl, q0, _, 0, _, rfl, rfl, SqT.of h0, rfl, rfl, _, rfl, ite2 (fun _ => ?_) (fun c => absurd (neK2 (by decide +kernel)) c)⟩
          refine ⟨_, rfl, q0, _, 0, _, rfl, rfl, SqT.of h0, rfl, rfl, _, rfl, ite2 (fun _ => ?_) (fun c => absurd (by simp) c)⟩
          exact ⟨_, rfl, q0, _, 2, _, rfl, rfl, SqT.of h0, rfl, pk, kk, rfl, h3, by omega, rfl, dS kk, by simp only [dN]; omega, rfl⟩
      · rintro σ' H3 ⟨e1, c, hc, rfl⟩
        rw [e1]
        refine ⟨_, rfl, _, rfl, _, _, rfl, rfl, _, _, rfl, ?_⟩
        refine ⟨rfl, some x, some (.int (c : Int)), ?_⟩
        rw [tk, dS_snoc, hc]
        show [_, some (V.int (if 1 + (c : Int) > (dS (ks.take i) : Nat) then 1 + (c : Int) else (dS (ks.take i) : Nat))), _, _] = _
        have : (if 1 + (c : Int) > (dS (ks.take i) : Nat) then 1 + (c : Int) else (dS (ks.take i) : Nat)) = ((max (dS (ks.take i)) (c + 1) : Nat) : Int) := by
          split <;> omega
        rw [this]
    · rintro σ H1 ⟨e1, y2, y3, rfl⟩
      rw [e1]
      have : ks.take xs.length = ks := by rw [hl]; exact List.take_length
      rw [this]
      exact ⟨_, rfl, q⟩
theorem depth_N (T : Txt K w mg C) : ∀ n : Nat, Cal P w K mg base (n + 3) "_law_depth" (spDepth n)
  | 0 => depth_S T (n := 0) (sp := spFalse) (fun m h => by omega) (depth_0 T)
  | n + 1 => depth_S T (n := n + 1) (sp := spDepth n) (fun m h => by rw [Nat.succ.inj h]) (depth_N T n)
end
end VL

set_option linter.all false
set_option maxRecDepth 100000
namespace VL
open PySem PySem.Spec PyProof.Rows L2
theorem cut_takeO {cs R : List Nat} {k : Nat} {i j : Int} (hi : i = (cs.length : Int)) (hj : j = ((cs.length + k : Nat) : Int)) : cutS (TX (cs ++ R)) (some i) (some j) = TX (R.take k) := by
  subst hi hj
  unfold cutS
  rw [TX_len, HT.sIx_nat, HT.sIx_nat, TX_tl]
  have e1 : min cs.length (cs ++ R).length = cs.length := by simp
  have e2 : min (cs.length + k) (cs ++ R).length - cs.length = min k R.length := by simp
  rw [e1, e2]
  refine congrArg TX ?_
  rw [List.drop_left, List.take_eq_take_iff]
  omega
theorem cut_fromO {cs R : List Nat} {i : Int} (hi : i = (cs.length : Int)) : cutS (TX (cs ++ R)) (some i) none = TX R := by
  subst hi
  unfold cutS
  rw [TX_len, HT.sIx_nat, TX_tl]
  have e1 : min cs.length (cs ++ R).length = cs.length := by simp
  have e0 : HT.sIx (cs ++ R).length (cs ++ R).length none = (cs ++ R).length := rfl
  rw [e1, e0]
  refine congrArg TX ?_
  rw [List.drop_left, List.take_of_length_le (by simp)]
/-- the first mark behind digits -/
theorem find_mark {ds X : List Nat} (h : ∀ c ∈ ds, c ≠ 45) : Txt.find (TX (zA ++ (ds ++ (zB ++ X)))) (TX zB) = ((5 + ds.length : Nat) : Int) := by
  have key : ∀ i, StrLaws.At (TX (zA ++ (ds ++ (zB ++ X)))) (TX zB) (TX (zA ++ (ds ++ (zB ++ X)))).length i ↔ ((zA ++ (ds ++ (zB ++ X))).drop i).take 3 = zB := fun i => by
    unfold StrLaws.At
    rw [StrLaws.subAt_eq, TX_tl, TX_len, TX_len]
    show (i + 3 ≤ _ ∧ (((zA ++ (ds ++ (zB ++ X))).drop i).take 3 == (TX zB).cps.toList) = true) ↔ _
    rw [TX_tl]
    constructor
    · rintro ⟨_, h2⟩
      simpa using h2
    · intro h2
      refine ⟨?_, by simpa using h2⟩
      have := congrArg List.length h2
      rw [List.length_take, List.length_drop] at this
      have e3 : zB.length = 3 := rfl
      omega
  have hit : ((zA ++ (ds ++ (zB ++ X))).drop (5 + ds.length)).take 3 = zB := by
    have : (zA ++ (ds ++ (zB ++ X))).drop (5 + ds.length) = zB ++ X := by
      have e : zA ++ (ds ++ (zB ++ X)) = (zA ++ ds) ++ (zB ++ X) := by simp
      have l : 5 + ds.length = (zA ++ ds).length := by simp; omega
      rw [e, l, List.drop_left]
    rw [this]
    rfl
  have miss : ∀ i, i < 5 + ds.length → ¬ ((zA ++ (ds ++ (zB ++ X))).drop i).take 3 = zB := fun i hi e => by
    rcases (show i = 0 ∨ i = 1 ∨ i = 2 ∨ i = 3 ∨ i = 4 ∨ 5 ≤ i by omega) with rfl | rfl | rfl | rfl | rfl | h5
    · simp at e
    · simp at e
    · simp at e
    · simp at e
    · simp at e
    · have h0 : ((zA ++ (ds ++ (zB ++ X))).drop i)[0]? = some 45 := by
        have := congrArg (fun l => l[0]?) e
        simp only [List.getElem?_take] at this
        exact this
      rw [List.getElem?_drop, Nat.add_zero, List.getElem?_append_right (by simpa using h5), List.getElem?_append_left (by simp; omega)] at h0
      exact h 45 (List.mem_of_getElem? h0) rfl
  unfold Txt.find
  rcases StrLaws.occ_head (TX (zA ++ (ds ++ (zB ++ X)))) (TX zB) 1 (Nat.le_refl _) with ⟨_, h2⟩ | ⟨i, r, h1, h2, h3⟩
  · exact absurd ((key _).mpr hit) (h2 _)
  · rw [h1]
    have hi := (key i).mp h2
    have : i = 5 + ds.length := by
      rcases Nat.lt_trichotomy i (5 + ds.length) with q | q | q
      · exact absurd hi (miss i q)
      · exact q
      · exact absurd ((key _).mpr hit) (h3 _ q)
    subst this
    rfl
def OpOk (f : Int → List Nat) (o : Op) : Prop := (∀ c ∈ o.t, c ≠ 60) ∧ ∀ n, o.m = .a n → ∀ c ∈ numL f n, c ≠ 45
theorem oz_ok {f : Int → List Nat} (hf : NumF f) {z : Int} {k : Nat} (hk : k < 1000) : OpOk f (oz z k) := by
  refine ⟨fun c hc => ?_, fun n hn => ?_⟩
  · unfold oz at hc
    simp only at hc
    split at hc
    · intro e
      rw [e] at hc
      exact absurd hc (by decide)
    · cases hc
  · unfold oz at hn
    simp only at hn
    split at hn
    · cases hn
      split
      · intro c hc
        cases hc
      · intro c hc
        have e : numL f (some ((k : Int) + 1)) = TL.numL ((k : Int) + 1).toNat := hf _ (by omega) (by omega)
        rw [e] at hc
        have := TL.numL_digits _ c hc
        intro z
        rw [z] at this
        exact absurd this (by decide)
    · cases hn
theorem os_ok {f : Int → List Nat} (hf : NumF f) {zs : Nat → Int} {j : Nat} : ∀ n, j + n ≤ 1000 → ∀ o ∈ os zs j n, OpOk f o
  | 0, _, o, h => by cases h
  | n + 1, hn, o, h => by
    rcases List.mem_cons.mp h with rfl | h
    · exact oz_ok hf (by omega)
    · exact os_ok hf n (by omega) o h
theorem op_len {f : Int → List Nat} (hf : NumF f) {z : Int} {k : Nat} (hk : k < 1000) : (opF f (oz z k)).length ≤ 20 ∧ 3 ≤ (opF f (oz z k)).length := by
  have h1 : (oz z k).t.length ≤ 3 := by
    unfold oz
    simp only
    split <;> simp
  have h2 : (mkL f (oz z k).m).length ≤ 17 ∧ 3 ≤ (mkL f (oz z k).m).length := by
    unfold oz
    simp only
    split
    · split
      · show (zA ++ ([] ++ zB)).length ≤ 17 ∧ 3 ≤ (zA ++ ([] ++ zB)).length
        exact ⟨by decide, by decide⟩
      · have e : numL f (some ((k : Int) + 1)) = TL.numL ((k : Int) + 1).toNat := hf _ (by omega) (by omega)
        have := TL.numL_len (n := ((k : Int) + 1).toNat) (k := 9) (by decide) (by omega)
        show (zA ++ (numL f (some ((k : Int) + 1)) ++ zB)).length ≤ 17 ∧ 3 ≤ (zA ++ (numL f (some ((k : Int) + 1)) ++ zB)).length
        rw [e]
        generalize TL.numL ((k : Int) + 1).toNat = D at this
        simp only [List.length_append, List.length_cons, List.length_nil]
        omega
    · show [60, 112, 62].length ≤ 17 ∧ 3 ≤ [60, 112, 62].length
      exact ⟨by decide, by decide⟩
  unfold opF
  rw [List.length_append]
  omega
theorem os_flen {f : Int → List Nat} (hf : NumF f) {zs : Nat → Int} {j : Nat} : ∀ n, j + n ≤ 1000 → ((os zs j n).flatMap (opF f)).length ≤ 20 * n
  | 0, _ => by simp [os]
  | n + 1, hn => by
    have h1 := (op_len hf (z := zs (j + n)) (k := j + n) (by omega)).1
    have h2 := os_flen hf (zs := zs) (j := j) n (by omega)
    simp only [os, List.flatMap_cons, List.length_append]
    omega
end VL

set_option Elab.async false
set_option linter.all false
set_option pp.maxSteps 700
set_option maxRecDepth 100000
set_option maxHeartbeats 4000000
namespace VL
open PySem PySem.Spec PyProof.Rows L2
theorem k_po : ("<p>" : Str) = TX [60, 112, 62] := rfl
theorem k_aw5 : ("<!--[" : Str) = TX zA := rfl
theorem k_ce : ("-->" : Str) = TX zB := rfl
def spOpened : Sp := fun vs H Q _ => ∃ (os : List Op) (Z : List Nat), vs = [.str (TX (os.flatMap (opF nL) ++ Z)), .int (os.length : Int)] ∧ (∀ o ∈ os, OpOk nL o) ∧ (os.flatMap (opF nL)).length ≤ 1900 ∧ (os.flatMap (opF nL) ++ Z).length ≤ 5000000 ∧ Q (.int ((os.flatMap (opF nL)).length : Int)) H
section
variable {P : Program} {w : World} {K : PySem.W.Frag} {mg : Str → Option Value} {base : Heap} {C : Ad}
theorem sc__law_opened : FnScope ["text", "count", "at", "_law_turn"] ["text", "count"] (defScope s__law_opened) := ⟨rfl, rfl, rfl, by decide +kernel, rfl, by decide +kernel, by decide +kernel⟩
theorem ok_opened (T : Txt K w mg C) : Cal P w K mg base 1 "_law_opened" spOpened := by
  refine cal_of T.d__law_opened sc__law_opened (fun vs H Q E h => ?_) (fun f cdv A outer s H vs Q E hr h => ?_)
  · obtain ⟨os, Z, rfl, _⟩ := h
    rfl
  · obtain ⟨os0, Z, rfl, ok0, l0, lt0, q⟩ := h
    have hu := hu_of hr
    have big : 10000000 < sizeLine := by decide
    generalize hT : os0.flatMap (opF nL) ++ Z = t at lt0 ⊢
    have zT : (TX t).length ≤ sizeLine := by rw [TX_len]; omega
    refine ⟨_, (pss_cons (ps_set (i := 2) sc__law_opened.nd rfl (Or.inl rfl) pe_int) (pss_cons (ps_for PassesOwn.never rfl (pi_range1 (by rfl) T.z_range (pa_cons pe_int pa_nil)) (pg_name (i := 3) sc__law_opened.nd rfl (Or.inl rfl)) (pss_cons (ps_if (pt_cmpR op_eq (pv 1) pe_int (nomark _)) (pss_one ps_break) pss_nil) (pss_one (ps_if (pt_cmpR op_eq (pe_slice sl_str (pv 0) (po_some (pv 2)) (po_some (pe_op op_add (pv 2) pe_int))) pe_str (nomark _)) (pss_cons (ps_set (i := 1) sc__law_opened.nd rfl (Or.inl rfl) (pe_op op_sub (pv 1) pe_int)) (pss_one (ps_set (i := 2) sc__law_opened.nd rfl (Or.inl rfl) (pe_op op_add (pv 2) pe_int)))) (pss_one (ps_if (pt_cmpR op_eq (pe_slice sl_str (pv 0) (po_some (pv 2)) (po_some (pe_op op_add (pv 2) pe_int))) pe_str (nomark _)) (pss_cons (ps_set (i := 1) sc__law_opened.nd rfl (Or.inl rfl) (pe_op op_sub (pv 1) pe_int)) (pss_one (ps_set (i := 2) sc__law_opened.nd rfl (Or.inl rfl) (pe_op op_add (pe_op op_add (pv 2) (pe_bm PySem.F.plainAttrs_str PySem.F.slot_str_find PySem.F.type_str_find mt_find (pe_slice sl_str (pv 0) (po_some (pv 2)) po_none) (pa_cons pe_str pa_nil))) pe_int)))) (pss_one (ps_set (i := 2) sc__law_opened.nd rfl (Or.inl rfl) (pe_op op_add (pv 2) pe_int))))))))) (pss_one (ps_ret (pv 2))))), ?_⟩
    refine ⟨_, rfl, by decide, by decide, ?_⟩
    refine for_range (lo := 0) (n := (2000 : Int).toNat) (fun i σ H' => H' = H ∧ ∃ (os : List Op) (cs : List Nat) (y3 : Option V), t = cs ++ (os.flatMap (opF nL) ++ Z) ∧ (∀ o ∈ os, OpOk nL o) ∧ i ≤ cs.length ∧ σ = [some (.str (TX t)), some (.int (os.length : Int)), some (.int (cs.length : Int)), y3]) ⟨rfl, os0, [], none, hT.symm, ok0, Nat.le_refl _, rfl⟩ ?_ ?_
    · rintro i σ H1 hi ⟨rfl, os, cs, y3, eT, ok, il, rfl⟩
      refine ⟨_, rfl, rfl, _, rfl, ?_⟩
      cases os with
      | nil =>
        refine ite2 (fun _ => ?_) (fun c => absurd (by simp) c)
        have : cs.length = (os0.flatMap (opF nL)).length := by
          rw [← hT] at eT
          have := congrArg List.length eT
          simp only [List.length_append, List.flatMap_nil, List.length_nil] at this
          omega
        refine ⟨_, rfl, ?_⟩
        rw [this]
        exact q
      | cons o os =>
        refine ite2 (fun c => absurd c (by simp; omega)) (fun _ => ?_)
        have oko := ok o List.mem_cons_self
        have okr : ∀ x ∈ os, OpOk nL x := fun x hx => ok x (List.mem_cons_of_mem _ hx)
        refine ⟨_, rfl, _, rfl, _, rfl, _, rfl, _, _, rfl, rfl, _, rfl, _, rfl, zT, ?_⟩
        generalize hR : (o :: os).flatMap (opF nL) ++ Z = R at eT
        have sl : ∀ (k : Nat) (j : Int), j = ((cs.length + k : Nat) : Int) → cutS (TX t) (some (cs.length : Int)) (some j) = TX (R.take k) := fun k j hj => by
          rw [eT]
          exact cut_takeO rfl hj
        rw [sl 3 _ (by omega)]
        refine ⟨rfl, _, rfl, ?_⟩
        show (if decide (V.str (TX (R.take 3)) = V.str "<p>") = true then _ else _)
        rw [k_po, vstr_TX]
        obtain ⟨tx, m⟩ := o
        cases tx with
        | cons c tx =>
          have c60 : c ≠ 60 := oko.1 c List.mem_cons_self
          have eR : R = c :: (((⟨tx, m⟩ : Op) :: os).flatMap (opF nL) ++ Z) := by rw [← hR]; rfl
          have n3 : R.take 3 ≠ [60, 112, 62] := fun z => c60 (by rw [eR] at z; exact (List.cons.inj z).1)
          rw [decide_eq_false n3]
          refine iteF ?_
          refine ⟨_, rfl, _, rfl, _, rfl, _, rfl, _, _, rfl, rfl, _, rfl, _, rfl, zT, ?_⟩
          rw [sl 5 _ (by omega)]
          refine ⟨rfl, _, rfl, ?_⟩
          show (if decide (V.str (TX (R.take 5)) = V.str "<!--[") = true then _ else _)
          rw [k_aw5, vstr_TX]
          have n5 : R.take 5 ≠ zA := fun z => c60 (by rw [eR] at z; exact (List.cons.inj z).1)
          rw [decide_eq_false n5]
          refine iteF ?_
          refine ⟨_, rfl, _, _, rfl, rfl, rfl, ⟨tx, m⟩ :: os, cs ++ [c], some (.int (0 + (i : Int))), by rw [eT, eR]; simp, fun x hx => ?_, by simp; omega, ?_⟩
          · rcases List.mem_cons.mp hx with rfl | hx
            · exact ⟨fun d hd => oko.1 d (List.mem_cons_of_mem _ hd), oko.2⟩
            · exact okr x hx
          · show [some (V.str (TX t)), _, some (V.int ((cs.length : Int) + 1)), _] = _
            rw [show ((cs.length : Int) + 1) = ((cs ++ [c]).length : Int) by simp]
            rfl
        | nil =>
          cases m with
          | p =>
            have eR : R = [60, 112, 62] ++ (os.flatMap (opF nL) ++ Z) := by rw [← hR]; rfl
            have y3 : R.take 3 = [60, 112, 62] := by rw [eR]; rfl
            rw [decide_eq_true y3]
            refine iteT ?_
            refine ⟨_, rfl, _, _, rfl, rfl, _, rfl, _, _, rfl, rfl, rfl, os, cs ++ [60, 112, 62], some (.int (0 + (i : Int))), by rw [eT, eR]; simp, okr, by simp; omega, ?_⟩
            show [some (V.str (TX t)), some (V.int (((os.length + 1 : Nat) : Int) - 1)), some (V.int ((cs.length : Int) + 3)), _] = _
            rw [show ((cs.length : Int) + 3) = ((cs ++ [60, 112, 62]).length : Int) by simp, show (((os.length + 1 : Nat) : Int) - 1) = (os.length : Int) by omega] <;> rfl
          | a n =>
            have eR : R = zA ++ (numL nL n ++ (zB ++ (os.flatMap (opF nL) ++ Z))) := by rw [← hR]; simp [opF, mkL]
            have n3 : R.take 3 ≠ [60, 112, 62] := fun z => by rw [eR] at z; simp at z
            rw [decide_eq_false n3]
            refine iteF ?_
            refine ⟨_, rfl, _, rfl, _, rfl, _, rfl, _, _, rfl, rfl, _, rfl, _, rfl, zT, ?_⟩
            rw [sl 5 _ (by omega)]
            refine ⟨rfl, _, rfl, ?_⟩
            show (if decide (V.str (TX (R.take 5)) = V.str "<!--[") = true then _ else _)
            rw [k_aw5, vstr_TX]
            have y5 : R.take 5 = zA := by rw [eR]; rfl
            rw [decide_eq_true y5]
            refine iteT ?_
            refine ⟨_, rfl, _, _, rfl, rfl, _, rfl, _, rfl, _, rfl, _, rfl, _, rfl, zT, ?_⟩
            have fr : cutS (TX t) (some (cs.length : Int)) none = TX R := by rw [eT]; exact cut_fromO rfl
            rw [fr]
            have fm := find_mark (ds := numL nL n) (X := os.flatMap (opF nL) ++ Z) (oko.2 n rfl)
            rw [← eR] at fm
            refine ⟨rfl, _, _, rfl, rfl, ?_⟩
            have fm : Txt.find (TX R) "-->" = ((5 + (numL nL n).length : Nat) : Int) := fm
            rw [fm]
            refine ⟨_, _, rfl, rfl, _, _, rfl, rfl, rfl, os, cs ++ (zA ++ (numL nL n ++ zB)), some (.int (0 + (i : Int))), by rw [eT, eR]; simp, okr, by simp; omega, ?_⟩
            show [some (V.str (TX t)), some (V.int (((os.length + 1 : Nat) : Int) - 1)), some (V.int ((cs.length : Int) + ((5 + (numL nL n).length : Nat) : Int) + 3)), _] = _
            rw [show ((cs.length : Int) + ((5 + (numL nL n).length : Nat) : Int) + 3) = ((cs ++ (zA ++ (numL nL n ++ zB))).length : Int) by simp; omega, show (((os.length + 1 : Nat) : Int) - 1) = (os.length : Int) by omega] <;> rfl
    · rintro σ H1 ⟨rfl, os, cs, y3, eT, ok, il, rfl⟩
      exfalso
      have := congrArg List.length eT
      rw [← hT] at this
      simp only [List.length_append] at this
      have : (2000 : Int).toNat = 2000 := rfl
      omega
end
end VL

set_option Elab.async false
set_option linter.all false
set_option pp.maxSteps 700
set_option maxRecDepth 100000
set_option maxHeartbeats 4000000
namespace VL
open PySem PySem.Spec PyProof.Rows L2
section
variable {X : Cx}
def rEqW (K : PySem.W.Frag) : R2 := fun x y H Q => ∃ d e, Dp K H x d ∧ Dp K H y e ∧ d.plain = true ∧ e.plain = true ∧ PyData.depth d ≤ 180 ∧ Q (.bl (PyData.eqv d e)) H
theorem op_eqW {K : PySem.W.Frag} (hK : X.K = K) (hu : X.A.units + 190 < cLine) : OpR X (compareOp .Eq) (rEqW K) := by
  subst hK
  intro pins s σ H x y v u Q I rx ry h
  obtain ⟨d, e, hd, he, sd, se, dp, q⟩ := h
  obtain ⟨as, r1⟩ := Dp.reads I d x v hd rx
  obtain ⟨bs, r2⟩ := Dp.reads I e y u he ry
  exact SeqAt.eq_plain r1 r2 sd se (by have := Nat.min_le_left d.depth e.depth; omega) ⟨.bl _, H, I, rfl, q⟩
end
theorem u190 {k : Nat} {A : Around} (r : Room k A) : A.units + 190 < cLine := by
  have := r.un
  omega
mutual
theorem plain_N : ∀ d : Nd, PyData.plain (encN d) = true
  | .tx x => by simp only [encN]; rfl
  | .el t as ks => by
    have h1 : PyData.plainAll (as.map pairD) = true := plain_pairs as
    have h2 := plain_S ks
    simp [encN, PyData.plain, PyData.plainAll, h1, h2]
  | .aw n ks => by
    have h2 := plain_S ks
    have h1 : PyData.plain (nV n) = true := by cases n <;> rfl
    simp [encN, PyData.plain, PyData.plainAll, h1, h2]
theorem plain_S : ∀ ks : List Nd, PyData.plainAll (encS ks) = true
  | [] => by simp only [encS]; rfl
  | d :: r => by simp only [encS, PyData.plainAll, plain_N d, plain_S r]; rfl
end
theorem depth_pairs : ∀ (as : List (List Nat × List Nat)), PyData.depthAll (as.map pairD) ≤ 1
  | [] => by simp [PyData.depthAll]
  | a :: as => by
    have := depth_pairs as
    simp [pairD, PyData.depth, PyData.depthAll]
    omega
mutual
theorem dpt_N : ∀ d : Nd, PyData.depth (encN d) ≤ 2 * dpN d + 4
  | .tx x => by simp [encN, PyData.depth, PyData.depthAll, dpN]
  | .el t as ks => by
    have h1 := depth_pairs as
    have h2 := dpt_S ks
    simp only [encN, PyData.depth, PyData.depthAll, dpN]
    omega
  | .aw n ks => by
    have h2 := dpt_S ks
    have h1 : PyData.depth (nV n) = 0 := by cases n <;> rfl
    simp only [encN, PyData.depth, PyData.depthAll, dpN, h1]
    omega
theorem dpt_S : ∀ ks : List Nd, PyData.depthAll (encS ks) ≤ 2 * dpS ks + 4
  | [] => by simp [encS, PyData.depthAll]
  | d :: r => by
    have h1 := dpt_N d
    have h2 := dpt_S r
    simp only [encS, PyData.depthAll, dpS]
    omega
end
mutual
theorem ok_nuN : ∀ d : Nd, okN d → nuN d
  | .tx _, _ => by simp only [nuN]
  | .el _ _ ks, h => by simp only [nuN]; exact ok_nuS ks (by simp only [okN] at h; exact h.2.2.2)
  | .aw n ks, h => by
    simp only [okN] at h
    simp only [nuN]
    exact ⟨fun i hi => by have := h.1 i hi; omega, ok_nuS ks h.2⟩
theorem ok_nuS : ∀ ks : List Nd, okS ks → nuS ks
  | [], _ => by simp only [nuS]
  | d :: r, h => by
    simp only [okS] at h
    simp only [nuS]
    exact ⟨ok_nuN d h.1, ok_nuS r h.2⟩
end
theorem nL_num : NumF nL := fun i h1 _ => by
  obtain ⟨n, rfl⟩ := Int.eq_ofNat_of_zero_le (show 0 ≤ i by omega)
  exact TL.tl_num n
theorem steps_end {t : List Nat} {ks : List Nd} {s : RS} (h : Steps (s0 t) s) (e1 : s.R = []) (e2 : s.ls = [ks]) (e3 : s.ar = []) : ∃ ns b, Steps (s0 t) ⟨[], [ks], [], ns, b⟩ := by
  obtain ⟨R, ls, ar, ns, b⟩ := s
  cases e1
  cases e2
  cases e3
  exact ⟨ns, b, h⟩
theorem tree_steps {f : Int → List Nat} {g : Nat → List Nat} (hf : NumF f) (hg : Esc g) {ks : List Nd} (ho : okS ks) (hl : dS ks ≤ 40) (hm : ∀ m ∈ nmS ks, 1 ≤ m ∧ m < 10 ^ 9) (hn : (nmS ks).Nodup) : ∃ ns b, Steps (s0 (ctG f g false ks)) ⟨[], [ks], [], ns, b⟩ := by
  have h := readS hf hg ks false [] [] [] [] [] ho (by simpa using hl) (by simpa using hm) (by simpa using hn) (.inl rfl)
  rw [List.append_nil, List.nil_append, List.nil_append] at h
  exact steps_end h rfl rfl rfl
theorem at_last {α : Type} {xs : List α} (h : xs ≠ []) : atI xs ((xs.length : Int) - 1) = atI xs (-1) := by
  have := List.length_pos_iff.mpr h
  unfold atI ixN
  rw [if_pos (by omega), if_pos (by omega), if_neg (by decide), if_pos (by omega)]
  have e : ((xs.length : Int) - 1) = (-1 + (xs.length : Int)) := by omega
  rw [e]
/-- the deep state -/
theorem deep_state {zs : Nat → Int} {i : Nd} (hi : InnerOk i) {j : Nat} (hj : j + 40 ≤ 60) : ∃ c0 Z, ctG nL gT false (chn zs i (j + 40)) = c0 ++ Z ∧ c0 = (os zs j 40).flatMap (opF nL) ∧ ∃ st, Steps (s0 (c0 ++ Z)) st ∧ st.R = Z ∧ 40 < st.ls.length ∧ Deep st.ns Z := by
  obtain ⟨W, e⟩ := ct_chn nL zs i j 40
  refine ⟨_, _, e, rfl, ?_⟩
  obtain ⟨L', ls', ar', ms', b', h, hl, hu⟩ := opens nL_num (zs := zs) (j := j) (Z := ctG nL gT false (chn zs i j) ++ W) 40 [] [] [] [] false (by omega) (by simp) (fun m hm => by cases hm)
  exact ⟨_, h, rfl, by simp only [List.length_cons]; simp at hl; omega, deep_of nL_num hi j (by omega) hu⟩
end VL

set_option Elab.async false
set_option linter.all false
set_option pp.maxSteps 700
set_option maxRecDepth 100000
set_option maxHeartbeats 4000000
namespace VL
open PySem PySem.Spec PyProof.Rows L2 NdefX
def spLaw (K : PySem.W.Frag) : Sp := fun vs H Q _ => ∃ (a : Addr) (ns : List Int), vs = [.ref a] ∧ SqL K H a (ns.map V.int) ∧ ns.length ≤ 63 ∧ ∀ H', Q (.bl true) H'
section
variable {P : Program} {w : World} {K : PySem.W.Frag} {mg : Str → Option Value} {base : Heap} {C : Ad}
theorem sc_law : FnScope ["script", "rows", "inner", "many", "tree", "text", "at", "ahead", "error"] ["script"] (defScope s_law) := ⟨rfl, rfl, rfl, by decide +kernel, rfl, by decide +kernel, by decide +kernel⟩
theorem ok_law {f : Addr} {fd : FuncData} (F : Fun K "law" "law" s_law f fd) (TE : TxtE P K w mg C) : FnOk P w K mg base CX0 50 f fd ["script"] (spLaw K) := by
  have T := TE.t
  have G_law_rows := ok_rows (P := P) (base := base) T
  have G_law_chain := ok_chain (P := P) (base := base) T
  have Gwrite_tree := write_N (P := P) (base := base) T 44
  have G_law_depth := depth_N (P := P) (base := base) T 44
  have Gread_tree := ok_read (P := P) (base := base) T
  have G_law_opened := ok_opened (P := P) (base := base) T
  have Xread_tree := ok_readX (w := w) (base := base) TE
  refine F.ok sc_law (fun vs H Q E h => ?_) (fun cdv A outer s H vs Q E hr h => ?_)
  · obtain ⟨a, ns, rfl, _⟩ := h
    rfl
  · obtain ⟨sa, ns, rfl, hS, hlen, k⟩ := h
    have big : 10000000 < sizeLine := by decide
    have hu := hu_of hr
    refine ⟨_, (pss_cons (ps_set (i := 1) sc_law.nd rfl (Or.inl rfl) (pe_c G_law_rows hr (by decide) (by rfl) (pa_cons (pv 0) (pa_cons pe_int pa_nil)))) (pss_cons (ps_set (i := 2) sc_law.nd rfl (Or.inl rfl) (pe_ix ix_list (pe_lst (pa_cons (pe_tup (pa_cons pe_str (pa_cons pe_str pa_nil))) (pa_cons (pe_tup (pa_cons pe_str (pa_cons pe_str pa_nil))) (pa_cons (pe_tup (pa_cons pe_str (pa_cons pe_str (pa_cons (pe_lst pa_nil) (pa_cons (pe_lst pa_nil) pa_nil))))) (pa_cons (pe_tup (pa_cons pe_str (pa_cons pe_int (pa_cons (pe_lst pa_nil) pa_nil)))) pa_nil))))) (pe_op op_mod (pe_callTy call_int1 (by rfl) T.z_int (by decide +kernel) (pa_cons (pe_ix ix_list (pv 1) pe_int (fun _ _ => rfl)) pa_nil)) pe_int) (fun _ _ => rfl))) (pss_cons (ps_set (i := 3) sc_law.nd rfl (Or.inl rfl) (pe_op op_add pe_int (pe_op op_mod (pe_callTy call_int1 (by rfl) T.z_int (by decide +kernel) (pa_cons (pe_ix ix_list (pv 1) pe_int (fun _ _ => rfl)) pa_nil)) pe_int))) (pss_cons (ps_set (i := 4) sc_law.nd rfl (Or.inl rfl) (pe_c G_law_chain hr (by decide) (by rfl) (pa_cons (pv 1) (pa_cons (pv 3) (pa_cons (pv 2) pa_nil))))) (pss_cons (ps_set (i := 5) sc_law.nd rfl (Or.inl rfl) (pe_c Gwrite_tree hr (by decide) (by rfl) (pa_cons (pv 4) pa_nil))) (pss_cons (ps_if (pt_cmpR op_le (pe_c G_law_depth hr (by decide) (by rfl) (pa_cons (pv 4) pa_nil)) pe_int (nomark _)) (pss_one (ps_ret (pe_cmpR (op_eqW (K := K) rfl (u190 hr)) (pe_c Gread_tree hr (by decide) (by rfl) (pa_cons (pv 5) pa_nil)) (pv 4) (nomark _)))) pss_nil) (pss_cons (ps_set (i := 6) sc_law.nd rfl (Or.inl rfl) (pe_c G_law_opened hr (by decide) (by rfl) (pa_cons (pv 5) (pa_cons pe_int pa_nil)))) (pss_cons (ps_set (i := 7) sc_law.nd rfl (Or.inl rfl) (pe_split (pe_slice sl_str (pv 5) po_none (po_some (pv 6))) pe_str)) (pss_cons (ps_try_as (i := 8) rfl rfl sc_law.nd rfl rfl ⟨rfl, by decide, .inl TE.xi_InvalidDocument.g⟩ takes0 (fun W pn xe tk _ => (pss_one (ps_expr (pe_cXS Xread_tree hr (by decide) (by rfl) (fun σ => passAt tk σ) (pa_cons (pv 5) pa_nil))))) (fun a oe cls d pn hz hf => (pss_one (ps_ret (pe_and (pe_cmpR op_eq (pe_xf TE.xi_InvalidDocument.xf (TE.xi_InvalidDocument.na _ (by simp)) hz hf (pv 8)) (pe_callB (call_len_seqS (K := K) rfl) (by rfl) T.z_len PySem.boot_len (pa_cons (pv 7) pa_nil)) (nomark _)) (pe_one (pe_cmpR op_eq (pe_xf TE.xi_InvalidDocument.xf (TE.xi_InvalidDocument.na _ (by simp)) hz hf (pv 8)) (pe_op op_add (pe_callB call_len_str (by rfl) T.z_len PySem.boot_len (pa_cons (pe_ix (ix_listS (K := K) rfl) (pv 7) (pe_op op_sub (pe_callB (call_len_seqS (K := K) rfl) (by rfl) T.z_len PySem.boot_len (pa_cons (pv 7) pa_nil)) pe_int) (fun _ _ => rfl)) pa_nil)) pe_int) (nomark _)))))))) (pss_one (ps_ret pe_bl))))))))))), ?_⟩
    refine ⟨_, rfl, sa, ns, 60, rfl, hS, hlen, by decide, fun rl zs H1 s1 hrl hr1 zl => ?_⟩
    obtain ⟨z0, hz0⟩ := map_int_atR (ns := zs) (j := 0) (by decide) (by omega)
    obtain ⟨z1, hz1⟩ := map_int_atR (ns := zs) (j := 1) (by decide) (by omega)
    have m0 : 0 ≤ z0 % 4 := Int.emod_nonneg _ (by decide)
    have m1 : z0 % 4 < 4 := Int.emod_lt_of_pos z0 (by decide)
    have n0 : 0 ≤ z1 % 8 := Int.emod_nonneg _ (by decide)
    have n1 : z1 % 8 < 8 := Int.emod_lt_of_pos z1 (by decide)
    refine ⟨by show 2 ≤ sizeLine; decide, fun t1 h1 => ⟨by show 2 ≤ sizeLine; decide, fun t2 h2 => ⟨by show 0 ≤ sizeLine; decide, fun l1 h3 => ⟨by show 0 ≤ sizeLine; decide, fun l2 h4 => ⟨by show 4 ≤ sizeLine; decide, fun t3 h5 => ⟨by show 0 ≤ sizeLine; decide, fun l3 h6 => ⟨by show 3 ≤ sizeLine; decide, fun t4 h7 => ⟨by show 4 ≤ sizeLine; decide, fun lp h8 => ?_⟩⟩⟩⟩⟩⟩⟩⟩
    have b8 := Sm.new (o := .lst [V.ref t1, .ref t2, .ref t3, .ref t4]) h8
    have b7 := Same.trans (Sm.new (o := .tup [.str "await", .int 77, .ref l3]) h7) b8
    have b6 := Same.trans (Sm.new (o := .lst []) h6) b7
    have b5 := Same.trans (Sm.new (o := .tup [.str "element", .str "q", .ref l1, .ref l2]) h5) b6
    have b4 := Same.trans (Sm.new (o := .lst []) h4) b5
    have b3 := Same.trans (Sm.new (o := .lst []) h3) b4
    have b2 := Same.trans (Sm.new (o := .tup [.str "text", .str ""]) h2) b3
    have b1 := Same.trans s1 (Same.trans (Sm.new (o := .tup [.str "text", .str "x"]) h1) b2)
    have f1 := b2 _ _ upd_same
    have f2 := b3 _ _ upd_same
    have fl1 := b4 _ _ upd_same
    have fl2 := b5 _ _ upd_same
    have f3 := b6 _ _ upd_same
    have fl3 := b7 _ _ upd_same
    have f4 := b8 _ _ upd_same
    have r8 := Same.trans (Sm.new (o := .tup [.str "text", .str "x"]) h1) b2 _ _ hr1
    have flp : (upd _ lp (.lst [V.ref t1, .ref t2, .ref t3, .ref t4])) lp = some (.lst [V.ref t1, .ref t2, .ref t3, .ref t4]) := upd_same (H := upd (upd (upd (upd (upd (upd (upd H1 t1 (.tup [.str "text", .str "x"])) t2 (.tup [.str "text", .str ""])) l1 (.lst [])) l2 (.lst [])) t3 (.tup [.str "element", .str "q", .ref l1, .ref l2])) l3 (.lst [])) t4 (.tup [.str "await", .int 77, .ref l3]))
    clear b2 b3 b4 b5 b6 b7 b8
    generalize upd (upd _ t4 _) lp _ = HF at b1 f1 f2 fl1 fl2 f3 fl3 f4 r8 flp ⊢
    refine ⟨_, rfl, rl, _, 0, _, rfl, rfl, SqL.of r8, hz0, .inl ⟨_, rfl, _, _, rfl, rfl, (by show (0 : Int) < 4; decide), ?_⟩⟩
    obtain ⟨v, i, hv, hi, dv⟩ : ∃ v i, atI [V.ref t1, .ref t2, .ref t3, .ref t4] (z0 % 4) = some v ∧ InnerOk i ∧ Dq HF v (encN i) := by
      rcases (show z0 % 4 = 0 ∨ z0 % 4 = 1 ∨ z0 % 4 = 2 ∨ z0 % 4 = 3 by omega) with e | e | e | e
      · rw [e]
        exact ⟨_, .tx [120], rfl, .inl rfl, by simp only [encN]; exact .tup f1 (.cons (.str _) (.cons (.str _) .nil))⟩
      · rw [e]
        exact ⟨_, .tx [], rfl, .inr (.inl rfl), by simp only [encN]; exact .tup f2 (.cons (.str _) (.cons (.str _) .nil))⟩
      · rw [e]
        exact ⟨_, .el [113] [] [], rfl, .inr (.inr (.inl rfl)), by simp only [encN, encS]; exact .tup f3 (.cons (.str _) (.cons (.str _) (.cons (.lst fl1 .nil) (.cons (.lst fl2 .nil) .nil))))⟩
      · rw [e]
        exact ⟨_, .aw (some 77) [], rfl, .inr (.inr (.inr rfl)), by simp only [encN, encS, nV]; exact .tup f4 (.cons (.str _) (.cons (.int _) (.cons (.lst fl3 .nil) .nil)))⟩
    refine ⟨lp, _, _, v, rfl, rfl, SqL.of flp, hv, ?_⟩
    obtain ⟨m, hm, mlo, mhi⟩ : ∃ m : Nat, (36 : Int) + z1 % 8 = (m : Int) ∧ 36 ≤ m ∧ m ≤ 43 := ⟨(36 + z1 % 8).toNat, by omega, by omega, by omega⟩
    refine ⟨_, rfl, rl, _, 1, _, rfl, rfl, SqL.of r8, hz1, .inl ⟨_, rfl, _, _, rfl, rfl, (by show (0 : Int) < 8; decide), _, _, rfl, rfl, ?_⟩⟩
    refine ⟨_, rfl, _, rfl, _, rfl, rl, zs, m, v, i, (by show [V.ref rl, V.int (36 + z1 % 8), v] = _; rw [hm]), r8, zl, by omega, dv, fun p H2 s2 tr => ?_⟩
    have dp := Nat.le_trans (chn_dp (zs := zf zs) hi m) (show m + 1 ≤ 44 by omega)
    have wt := Nat.le_trans (chn_w (zs := zf zs) hi m) (show 1000 * m + 1000 ≤ 8000000 by omega)
    have ok := chn_ok (zs := zf zs) hi m (by omega)
    have nu := ok_nuS _ ok
    have dd := chn_d (zs := zf zs) hi m
    have wl := catW_len nL nL_len false (chn (zf zs) i m) nu
    have wt2 := chn_w (zs := zf zs) hi m
    have e0 := ctG_W nL false (chn (zf zs) i m)
    obtain ⟨nm1, nm2⟩ := chn_nm (zs := zf zs) hi m (by omega)
    refine ⟨_, rfl, p, chn (zf zs) i m, rfl, tr, dp, wt, nu, fun H3 s3 => ?_⟩
    obtain ⟨t, ht⟩ : ∃ t, t = catW nL false (chn (zf zs) i m) := ⟨_, rfl⟩
    rw [← ht] at wl e0 ⊢
    refine ⟨_, rfl, p, chn (zf zs) i m, rfl, tr.same s3, dp, _, _, rfl, rfl, _, rfl, ite2 (fun c => ?_) (fun c => ?_)⟩
    · have c := of_decide_eq_true c
      rw [dd] at c
      have nm : ∀ x ∈ nmS (chn (zf zs) i m), 1 ≤ x ∧ x < 10 ^ 9 := fun x hx => by
        rcases nm1 x hx with h | h <;> omega
      obtain ⟨ns1, b1', st1⟩ := tree_steps nL_num esc_T ok (by rw [dd]; omega) nm nm2
      rw [e0] at st1
      refine ⟨_, rfl, t, _, ns1, b1', rfl, by omega, st1, fun bk H4 s4 tb => ?_⟩
      have pl : PyData.plain (.list (encS (chn (zf zs) i m))) = true := plain_S _
      have dpp : PyData.depth (.list (encS (chn (zf zs) i m))) ≤ 180 := by
        have := dpt_S (chn (zf zs) i m)
        simp only [PyData.depth]
        omega
      refine ⟨_, rfl, _, _, tb.dp pl, (tr.same (Same.trans s3 s4)).dp pl, pl, pl, dpp, ?_⟩
      rw [PySem.SeqAt.eqv_refl_plain _ pl]
      exact k _
    · have c : ¬ ((dS (chn (zf zs) i m) : Nat) : Int) ≤ 40 := fun z => c (decide_eq_true z)
      rw [dd] at c
      obtain ⟨j, rfl⟩ : ∃ j, m = j + 40 := ⟨m - 40, by omega⟩
      obtain ⟨c0, Z, eT, ec, st, hst, hR, h41, hdp⟩ := deep_state (zs := zf zs) hi (show j + 40 ≤ 60 by omega)
      have eT : t = c0 ++ Z := e0.symm.trans eT
      clear ht e0
      subst eT
      have fl := os_flen nL_num (zs := zf zs) (j := j) 40 (by omega)
      have hl : (c0 ++ Z).length ≤ 900000 := by omega
      refine ⟨_, rfl, os (zf zs) j 40, Z, (by rw [ec, os_len]; rfl), os_ok nL_num 40 (by omega), by omega, by rw [← ec]; omega, ?_⟩
      rw [← ec]
      have zT : (TX (c0 ++ Z)).length ≤ sizeLine := by rw [TX_len]; omega
      refine ⟨_, rfl, _, rfl, _, rfl, _, rfl, zT, ?_⟩
      rw [cut_pre]
      have cl0 : c0.length ≤ 900000 := by rw [List.length_append] at hl; omega
      refine ⟨⟨_, rfl⟩, _, _, rfl, rfl, by decide +kernel, by rw [TX_len]; omega, fun ap hap => ?_⟩
      have sR : Txt.split (TX c0) "\n" = (rws [] c0).map TX := split_rows c0
      rw [sR]
      have s4 := Sm.new (o := .lst (((rws [] c0).map TX).map V.str)) hap
      have hap4 : (upd H3 ap (.lst (((rws [] c0).map TX).map V.str))) ap = some (.lst (((rws [] c0).map TX).map V.str)) := upd_same
      generalize upd H3 ap _ = H4 at s4 hap4 ⊢
      refine ⟨_, rfl, c0, Z, st, rfl, hl, hst, hR, h41, hdp, fun d H5 s5 hd => ?_⟩
      refine ⟨true, TE.xi_InvalidDocument.exm, fun _ a' ha => ?_, fun q => nomatch q⟩
      have hap5 := s5 _ _ hap4
      have el : (((((rws [] c0).map TX).map V.str).length : Nat) : Int) = ((lnOf c0 : Nat) : Int) := by rw [List.length_map, List.length_map]; rfl
      refine ⟨_, rfl, rfl, rfl, d, fsD (lnOf c0) (clOf c0 + 1), _, rfl, hd, by rfl, _, rfl, ap, _, rfl, .inl (SqL.of hap5), rfl, ?_⟩
      refine ⟨true, congrArg V.bl (decide_eq_true (by rw [el])), iteT ?_⟩
      obtain ⟨la, hla, lal⟩ := rows_last c0
      have em : ((rws [] c0).map TX).map V.str = (rws [] c0).map fun r => V.str (TX r) := by rw [List.map_map]; rfl
      have ne0 : ((rws [] c0).map TX).map V.str ≠ [] := fun z => rws_ne c0 [] (List.map_eq_nil_iff.mp (List.map_eq_nil_iff.mp z))
      have ei := at_last ne0
      rw [em] at ei
      rw [hla, ← em] at ei
      have lac := cl_le c0
      refine ⟨_, rfl, rfl, rfl, d, fsD (lnOf c0) (clOf c0 + 1), _, rfl, hd, by rfl, _, rfl, _, rfl, ap, _, rfl, .inl (SqL.of hap5), _, _, rfl, rfl, ap, _, _, _, rfl, rfl, SqL.of hap5, ei, _, rfl, by rw [TX_len]; omega, _, _, rfl, rfl, rfl, ?_⟩
      have ef : decide (V.int ((clOf c0 + 1 : Nat) : Int) = V.int (((TX la).length : Int) + 1)) = true := decide_eq_true (by rw [TX_len, lal]; rfl)
      show Q (.bl (decide (V.int ((clOf c0 + 1 : Nat) : Int) = V.int (((TX la).length : Int) + 1)))) _
      rw [ef]
      exact k _
end
end VL

set_option Elab.async false
set_option linter.all false
set_option maxRecDepth 100000
set_option maxHeartbeats 4000000
namespace VL
open PySem PySem.Spec PyProof.Rows L2
theorem all_mk {l : PySem.W.OpenLaw} {w : World} {K : PySem.W.Frag} {h : Heap} {mg : Str → Option Value} {fa aTreeReader t_ESCAPES t_ESCAPES_0 t_ESCAPES_1 t_ESCAPES_2 t_ESCAPES_3 aInvalidDocument fI_InvalidDocument cc_InvalidDocument cda_InvalidDocument ND_InvalidDocument f1 f2 f3 f4 f5 f6 f7 f8 f9 f10 f11 f12 f13 f14 f15 f16 f17 f18 f19 f20 f21 f22 f23 f24 f25 f26 f27 f28 f29 f30 : Addr} (X : K.In h) (G : h.Ns mainGlobals mg) (hfa : mg "law" = some (.ref fa))
    {odI_InvalidDocument anI_InvalidDocument odC_InvalidDocument odD_InvalidDocument ddD_InvalidDocument od1 an1 od2 an2 od3 an3 od4 an4 od5 an5 od6 an6 od7 an7 od8 an8 od9 an9 od10 an10 od11 an11 od12 an12 od13 an13 od14 an14 od15 an15 od16 an16 od17 an17 od18 an18 od19 an19 od20 an20 od21 an21 od22 an22 od23 an23 od24 an24 od25 an25 od26 an26 od27 an27 od28 an28 od29 an29 od30 an30 : Option Addr} {ts_ESCAPES ts_ESCAPES_0 ts_ESCAPES_1 ts_ESCAPES_2 ts_ESCAPES_3 slI_InvalidDocument slC_InvalidDocument slD_InvalidDocument sl1 sl2 sl3 sl4 sl5 sl6 sl7 sl8 sl9 sl10 sl11 sl12 sl13 sl14 sl15 sl16 sl17 sl18 sl19 sl20 sl21 sl22 sl23 sl24 sl25 sl26 sl27 sl28 sl29 sl30 : Array (Option Value)} {v_LOWEST_LEVEL v_MOST_DIGITS v_EMPTY_TEXT_reading v_BETWEEN_TEXTS_reading v_AWAIT_BEGIN v_AWAIT_END_reading v_WAITING_BEGIN v_COMMENT_END v_VALUE_BEGIN v_EMPTY_TEXT_writing v_BETWEEN_TEXTS_writing v_AWAIT_END_writing ocI_InvalidDocument kVI_InvalidDocument dcI_InvalidDocument pmI_InvalidDocument ctI_InvalidDocument ocC_InvalidDocument ocD_InvalidDocument oc1 kV1 dc1 pm1 cd1 ct1 oc2 kV2 dc2 pm2 cd2 ct2 oc3 kV3 dc3 pm3 cd3 ct3 oc4 kV4 dc4 pm4 cd4 ct4 oc5 kV5 dc5 pm5 cd5 ct5 oc6 kV6 dc6 pm6 cd6 ct6 oc7 kV7 dc7 pm7 cd7 ct7 oc8 kV8 dc8 pm8 cd8 ct8 oc9 kV9 dc9 pm9 cd9 ct9 oc10 kV10 dc10 pm10 cd10 ct10 oc11 kV11 dc11 pm11 cd11 ct11 oc12 kV12 dc12 pm12 cd12 ct12 oc13 kV13 dc13 pm13 cd13 ct13 oc14 kV14 dc14 pm14 cd14 ct14 oc15 kV15 dc15 pm15 cd15 ct15 oc16 kV16 dc16 pm16 cd16 ct16 oc17 kV17 dc17 pm17 cd17 ct17 oc18 kV18 dc18 pm18 cd18 ct18 oc19 kV19 dc19 pm19 cd19 ct19 oc20 kV20 dc20 pm20 cd20 ct20 oc21 kV21 dc21 pm21 cd21 ct21 oc22 kV22 dc22 pm22 cd22 ct22 oc23 kV23 dc23 pm23 cd23 ct23 oc24 kV24 dc24 pm24 cd24 ct24 oc25 kV25 dc25 pm25 cd25 ct25 oc26 kV26 dc26 pm26 cd26 ct26 oc27 kV27 dc27 pm27 cd27 ct27 oc28 kV28 dc28 pm28 cd28 ct28 oc29 kV29 dc29 pm29 cd29 ct29 oc30 kV30 dc30 pm30 cd30 ct30 : Value} {ti_ESCAPES ti_ESCAPES_0 ti_ESCAPES_1 ti_ESCAPES_2 ti_ESCAPES_3 vsD_InvalidDocument : Array Value} {tn_ESCAPES tn_ESCAPES_0 tn_ESCAPES_1 tn_ESCAPES_2 tn_ESCAPES_3 : Nat} {bsD_InvalidDocument bmD_InvalidDocument subD_InvalidDocument : List Value} {file_InvalidDocument nmD_InvalidDocument qD_InvalidDocument : Str} {tf_InvalidDocument : Tok} {cdD_InvalidDocument : ClassData} {snD_InvalidDocument : List Str} {abD_InvalidDocument : Bool} {colD_InvalidDocument : Option Bool} {e0_InvalidDocument e1_InvalidDocument e2_InvalidDocument e3_InvalidDocument e5_InvalidDocument : Option Value}
    (q_TreeReader : PySem.W.nsIn K mainGlobals "TreeReader" = some (some (.ref aTreeReader)))
    (pg_TreeReader : PySem.W.plainGet K aTreeReader Str.empty = true)
    (hd_TreeReader : PySem.W.hasDictIn K aTreeReader = true)
    (po_TreeReader : PySem.W.plainOver K aTreeReader = true)
    (sa_TreeReader : PySem.W.findIn K (.ref aTreeReader) "__setattr__" = some (some (.builtin "object.__setattr__")))
    (mk_TreeReader : PySem.W.makesIn K aTreeReader = true)
    (kc_TreeReader : PySem.W.keepIn K (.ref aTreeReader) = true)
    (n_TreeReader_text : PySem.W.findIn K (.ref aTreeReader) "text" = some none)
    (n_TreeReader_at : PySem.W.findIn K (.ref aTreeReader) "at" = some none)
    (n_TreeReader_lists : PySem.W.findIn K (.ref aTreeReader) "lists" = some none)
    (n_TreeReader_around : PySem.W.findIn K (.ref aTreeReader) "around" = some none)
    (n_TreeReader_numbers : PySem.W.findIn K (.ref aTreeReader) "numbers" = some none)
    (n_TreeReader_is_behind_text : PySem.W.findIn K (.ref aTreeReader) "is_behind_text" = some none)
    (z_int : PySem.W.nsIn K mainGlobals "int" = some none)
    (z_len : PySem.W.nsIn K mainGlobals "len" = some none)
    (z_max : PySem.W.nsIn K mainGlobals "max" = some none)
    (z_range : PySem.W.nsIn K mainGlobals "range" = some none)
    (z_str : PySem.W.nsIn K mainGlobals "str" = some none)
    (g_LOWEST_LEVEL : PySem.W.nsIn K mainGlobals "LOWEST_LEVEL" = some (some v_LOWEST_LEVEL))
    (r_LOWEST_LEVEL : RelV (V.int 40) v_LOWEST_LEVEL)
    (g_MOST_DIGITS : PySem.W.nsIn K mainGlobals "MOST_DIGITS" = some (some v_MOST_DIGITS))
    (r_MOST_DIGITS : RelV (V.int 9) v_MOST_DIGITS)
    (g_ESCAPES : PySem.W.nsIn K mainGlobals "ESCAPES" = some (some (.ref t_ESCAPES)))
    (tl_ESCAPES : K.lookup t_ESCAPES = some ⟨.type "tuple", none, .seq ti_ESCAPES tn_ESCAPES, ts_ESCAPES⟩)
    (tz_ESCAPES : ti_ESCAPES.size ≤ sizeLine)
    (tv_ESCAPES : Vals [V.ref t_ESCAPES_0, V.ref t_ESCAPES_1, V.ref t_ESCAPES_2, V.ref t_ESCAPES_3] ti_ESCAPES.toList)
    (tl_ESCAPES_0 : K.lookup t_ESCAPES_0 = some ⟨.type "tuple", none, .seq ti_ESCAPES_0 tn_ESCAPES_0, ts_ESCAPES_0⟩)
    (tz_ESCAPES_0 : ti_ESCAPES_0.size ≤ sizeLine)
    (tv_ESCAPES_0 : Vals [(V.str "&amp;"), (V.str "&")] ti_ESCAPES_0.toList)
    (tl_ESCAPES_1 : K.lookup t_ESCAPES_1 = some ⟨.type "tuple", none, .seq ti_ESCAPES_1 tn_ESCAPES_1, ts_ESCAPES_1⟩)
    (tz_ESCAPES_1 : ti_ESCAPES_1.size ≤ sizeLine)
    (tv_ESCAPES_1 : Vals [(V.str "&lt;"), (V.str "<")] ti_ESCAPES_1.toList)
    (tl_ESCAPES_2 : K.lookup t_ESCAPES_2 = some ⟨.type "tuple", none, .seq ti_ESCAPES_2 tn_ESCAPES_2, ts_ESCAPES_2⟩)
    (tz_ESCAPES_2 : ti_ESCAPES_2.size ≤ sizeLine)
    (tv_ESCAPES_2 : Vals [(V.str "&gt;"), (V.str ">")] ti_ESCAPES_2.toList)
    (tl_ESCAPES_3 : K.lookup t_ESCAPES_3 = some ⟨.type "tuple", none, .seq ti_ESCAPES_3 tn_ESCAPES_3, ts_ESCAPES_3⟩)
    (tz_ESCAPES_3 : ti_ESCAPES_3.size ≤ sizeLine)
    (tv_ESCAPES_3 : Vals [(V.str "&quot;"), (V.str "\"")] ti_ESCAPES_3.toList)
    (g_EMPTY_TEXT_reading : PySem.W.nsIn K mainGlobals "EMPTY_TEXT_reading" = some (some v_EMPTY_TEXT_reading))
    (r_EMPTY_TEXT_reading : RelV (V.str "<!--e-->") v_EMPTY_TEXT_reading)
    (g_BETWEEN_TEXTS_reading : PySem.W.nsIn K mainGlobals "BETWEEN_TEXTS_reading" = some (some v_BETWEEN_TEXTS_reading))
    (r_BETWEEN_TEXTS_reading : RelV (V.str "<!--t-->") v_BETWEEN_TEXTS_reading)
    (g_AWAIT_BEGIN : PySem.W.nsIn K mainGlobals "AWAIT_BEGIN" = some (some v_AWAIT_BEGIN))
    (r_AWAIT_BEGIN : RelV (V.str "<!--[-->") v_AWAIT_BEGIN)
    (g_AWAIT_END_reading : PySem.W.nsIn K mainGlobals "AWAIT_END_reading" = some (some v_AWAIT_END_reading))
    (r_AWAIT_END_reading : RelV (V.str "<!--]-->") v_AWAIT_END_reading)
    (g_WAITING_BEGIN : PySem.W.nsIn K mainGlobals "WAITING_BEGIN" = some (some v_WAITING_BEGIN))
    (r_WAITING_BEGIN : RelV (V.str "<!--[") v_WAITING_BEGIN)
    (g_COMMENT_END : PySem.W.nsIn K mainGlobals "COMMENT_END" = some (some v_COMMENT_END))
    (r_COMMENT_END : RelV (V.str "-->") v_COMMENT_END)
    (g_VALUE_BEGIN : PySem.W.nsIn K mainGlobals "VALUE_BEGIN" = some (some v_VALUE_BEGIN))
    (r_VALUE_BEGIN : RelV (V.str "=\"") v_VALUE_BEGIN)
    (g_EMPTY_TEXT_writing : PySem.W.nsIn K mainGlobals "EMPTY_TEXT_writing" = some (some v_EMPTY_TEXT_writing))
    (r_EMPTY_TEXT_writing : RelV (V.str "<!--e-->") v_EMPTY_TEXT_writing)
    (g_BETWEEN_TEXTS_writing : PySem.W.nsIn K mainGlobals "BETWEEN_TEXTS_writing" = some (some v_BETWEEN_TEXTS_writing))
    (r_BETWEEN_TEXTS_writing : RelV (V.str "<!--t-->") v_BETWEEN_TEXTS_writing)
    (g_AWAIT_END_writing : PySem.W.nsIn K mainGlobals "AWAIT_END_writing" = some (some v_AWAIT_END_writing))
    (r_AWAIT_END_writing : RelV (V.str "<!--]-->") v_AWAIT_END_writing)
    (z_super : PySem.W.nsIn K mainGlobals "super" = some none)
    (q_InvalidDocument : PySem.W.nsIn K mainGlobals "InvalidDocument" = some (some (.ref aInvalidDocument)))
    (iI_InvalidDocument : PySem.W.findIn K (.ref aInvalidDocument) "__init__" = some (some (.ref fI_InvalidDocument)))
    (tI_InvalidDocument : PySem.W.typeIn K (.ref fI_InvalidDocument) = some (.type "function"))
    (lI_InvalidDocument : K.lookup fI_InvalidDocument = some ⟨ocI_InvalidDocument, odI_InvalidDocument, .func (exFd "InvalidDocument.__init__" s_InvalidDocument___init__ cc_InvalidDocument cda_InvalidDocument kVI_InvalidDocument dcI_InvalidDocument pmI_InvalidDocument anI_InvalidDocument ctI_InvalidDocument), slI_InvalidDocument⟩)
    (cI_InvalidDocument : PySem.W.codeIn K (.ref cda_InvalidDocument) "InvalidDocument.__init__" = true)
    (ceI_InvalidDocument : K.lookup cc_InvalidDocument = some ⟨ocC_InvalidDocument, odC_InvalidDocument, .cell (some (.ref aInvalidDocument)), slC_InvalidDocument⟩)
    (coI_InvalidDocument : K.lookup cda_InvalidDocument = some ⟨ocD_InvalidDocument, odD_InvalidDocument, .fields vsD_InvalidDocument, slD_InvalidDocument⟩)
    (vsI_InvalidDocument : vsD_InvalidDocument[2]? = some (.str file_InvalidDocument tf_InvalidDocument))
    (fiI_InvalidDocument : ((l.prog.main.file : Str) == file_InvalidDocument) = true)
    (clI_InvalidDocument : PySem.W.clsIn K aInvalidDocument = some cdD_InvalidDocument)
    (sbI_InvalidDocument : PySem.W.mroIn K aInvalidDocument (.ref aInvalidDocument) = some true)
    (opI_InvalidDocument : PySem.W.nsIn K cStatics "thirdparty.any" = some none)
    (alI_InvalidDocument : PySem.W.ks_superIn K aInvalidDocument aInvalidDocument "__init__" = some (some (.builtin "ValueError.__init__")))
    (svI_InvalidDocument : PySem.W.subIn K (.ref aInvalidDocument) (.type "ValueError") = some true)
    (tpI_InvalidDocument : (l.prog.main.scope.names.lookup ("super" : Str)).isSome = false)
    (lD_InvalidDocument : K.lookup aInvalidDocument = some (excClassObj nmD_InvalidDocument qD_InvalidDocument aInvalidDocument ND_InvalidDocument bsD_InvalidDocument bmD_InvalidDocument true snD_InvalidDocument subD_InvalidDocument abD_InvalidDocument colD_InvalidDocument ddD_InvalidDocument e0_InvalidDocument e1_InvalidDocument e2_InvalidDocument e3_InvalidDocument e5_InvalidDocument "ValueError.__new__"))
    (bmR_InvalidDocument : PySem.HandSPX.refsVE bmD_InvalidDocument = true)
    (saD_InvalidDocument : PySem.W.findIn K (.ref aInvalidDocument) "__setattr__" = some (some (.builtin "object.__setattr__")))
    (exD_InvalidDocument : PySem.W.subIn K (.ref aInvalidDocument) (.type "BaseException") = some true)
    (tyD_InvalidDocument : PySem.W.typeIn K (.ref aInvalidDocument) = some (.type "type"))
    (kD_InvalidDocument : PySem.W.keepIn K (.ref aInvalidDocument) = true)
    (m_InvalidDocument_line : PySem.W.findIn K (.ref aInvalidDocument) "line" = some none)
    (m_InvalidDocument_column : PySem.W.findIn K (.ref aInvalidDocument) "column" = some none)
    (ssD_InvalidDocument : PySem.W.subIn K (.ref aInvalidDocument) (.ref aInvalidDocument) = some true)
    (gaD_InvalidDocument : PySem.W.findIn K (.ref aInvalidDocument) "__getattribute__" = some (some (.builtin "BaseException.__getattribute__")))
    (ggD_InvalidDocument : PySem.W.findIn K (.ref aInvalidDocument) "__getattr__" = some none)
    (hdD_InvalidDocument : PySem.W.hasDictIn K aInvalidDocument = true)
    (caD_InvalidDocument : PySem.W.findIn K (.ref aInvalidDocument) "__class__" = some (some (.builtin "object.__class__")))
    (spD_InvalidDocument : PySem.W.specialIn K (.builtin "object.__class__") "__get__" = some (some (.builtin "getset_descriptor.__get__")))
    (tkD_InvalidDocument : PySem.W.takesIn K (.builtin "object.__class__") = some true)
    (mrD_InvalidDocument : PySem.W.mroIn K aInvalidDocument (.type "object") = some true)
    (a1 : PySem.W.nsIn K mainGlobals "is_digit" = some (some (.ref f1)))
    (l1 : K.lookup f1 = some ⟨oc1, od1, .func (PySem.W.fnOf "is_digit" "is_digit" (defArgs s_is_digit) (defBody s_is_digit) (defScope s_is_digit) .none kV1 dc1 pm1 an1 cd1 ct1), sl1⟩)
    (c1 : PySem.W.codeIn K cd1 "is_digit" = true)
    (k1 : PySem.W.keepIn K (.ref f1) = true)
    (a2 : PySem.W.nsIn K mainGlobals "read_tree" = some (some (.ref f2)))
    (l2 : K.lookup f2 = some ⟨oc2, od2, .func (PySem.W.fnOf "read_tree" "read_tree" (defArgs s_read_tree) (defBody s_read_tree) (defScope s_read_tree) .none kV2 dc2 pm2 an2 cd2 ct2), sl2⟩)
    (c2 : PySem.W.codeIn K cd2 "read_tree" = true)
    (k2 : PySem.W.keepIn K (.ref f2) = true)
    (a3 : PySem.W.nsIn K mainGlobals "is_small_letter" = some (some (.ref f3)))
    (l3 : K.lookup f3 = some ⟨oc3, od3, .func (PySem.W.fnOf "is_small_letter" "is_small_letter" (defArgs s_is_small_letter) (defBody s_is_small_letter) (defScope s_is_small_letter) .none kV3 dc3 pm3 an3 cd3 ct3), sl3⟩)
    (c3 : PySem.W.codeIn K cd3 "is_small_letter" = true)
    (k3 : PySem.W.keepIn K (.ref f3) = true)
    (a4 : PySem.W.nsIn K mainGlobals "is_word_sign" = some (some (.ref f4)))
    (l4 : K.lookup f4 = some ⟨oc4, od4, .func (PySem.W.fnOf "is_word_sign" "is_word_sign" (defArgs s_is_word_sign) (defBody s_is_word_sign) (defScope s_is_word_sign) .none kV4 dc4 pm4 an4 cd4 ct4), sl4⟩)
    (c4 : PySem.W.codeIn K cd4 "is_word_sign" = true)
    (k4 : PySem.W.keepIn K (.ref f4) = true)
    (a5 : PySem.W.findIn K (.ref aTreeReader) "__init__" = some (some (.ref f5)))
    (i5 : PySem.W.isFn K (.ref f5) = true)
    (l5 : K.lookup f5 = some ⟨oc5, od5, .func (PySem.W.fnOf "__init__" "TreeReader.__init__" (defArgs s_TreeReader___init__) (defBody s_TreeReader___init__) (defScope s_TreeReader___init__) .none kV5 dc5 pm5 an5 cd5 ct5), sl5⟩)
    (c5 : PySem.W.codeIn K cd5 "TreeReader.__init__" = true)
    (k5 : PySem.W.keepIn K (.ref f5) = true)
    (a6 : PySem.W.findIn K (.ref aTreeReader) "fail" = some (some (.ref f6)))
    (i6 : PySem.W.isFn K (.ref f6) = true)
    (l6 : K.lookup f6 = some ⟨oc6, od6, .func (PySem.W.fnOf "fail" "TreeReader.fail" (defArgs s_TreeReader_fail) (defBody s_TreeReader_fail) (defScope s_TreeReader_fail) .none kV6 dc6 pm6 an6 cd6 ct6), sl6⟩)
    (c6 : PySem.W.codeIn K cd6 "TreeReader.fail" = true)
    (k6 : PySem.W.keepIn K (.ref f6) = true)
    (a7 : PySem.W.findIn K (.ref aTreeReader) "sign_at" = some (some (.ref f7)))
    (i7 : PySem.W.isFn K (.ref f7) = true)
    (l7 : K.lookup f7 = some ⟨oc7, od7, .func (PySem.W.fnOf "sign_at" "TreeReader.sign_at" (defArgs s_TreeReader_sign_at) (defBody s_TreeReader_sign_at) (defScope s_TreeReader_sign_at) .none kV7 dc7 pm7 an7 cd7 ct7), sl7⟩)
    (c7 : PySem.W.codeIn K cd7 "TreeReader.sign_at" = true)
    (k7 : PySem.W.keepIn K (.ref f7) = true)
    (a8 : PySem.W.findIn K (.ref aTreeReader) "stands" = some (some (.ref f8)))
    (i8 : PySem.W.isFn K (.ref f8) = true)
    (l8 : K.lookup f8 = some ⟨oc8, od8, .func (PySem.W.fnOf "stands" "TreeReader.stands" (defArgs s_TreeReader_stands) (defBody s_TreeReader_stands) (defScope s_TreeReader_stands) .none kV8 dc8 pm8 an8 cd8 ct8), sl8⟩)
    (c8 : PySem.W.codeIn K cd8 "TreeReader.stands" = true)
    (k8 : PySem.W.keepIn K (.ref f8) = true)
    (a9 : PySem.W.findIn K (.ref aTreeReader) "check_level" = some (some (.ref f9)))
    (i9 : PySem.W.isFn K (.ref f9) = true)
    (l9 : K.lookup f9 = some ⟨oc9, od9, .func (PySem.W.fnOf "check_level" "TreeReader.check_level" (defArgs s_TreeReader_check_level) (defBody s_TreeReader_check_level) (defScope s_TreeReader_check_level) .none kV9 dc9 pm9 an9 cd9 ct9), sl9⟩)
    (c9 : PySem.W.codeIn K cd9 "TreeReader.check_level" = true)
    (k9 : PySem.W.keepIn K (.ref f9) = true)
    (a10 : PySem.W.findIn K (.ref aTreeReader) "join_text" = some (some (.ref f10)))
    (i10 : PySem.W.isFn K (.ref f10) = true)
    (l10 : K.lookup f10 = some ⟨oc10, od10, .func (PySem.W.fnOf "join_text" "TreeReader.join_text" (defArgs s_TreeReader_join_text) (defBody s_TreeReader_join_text) (defScope s_TreeReader_join_text) .none kV10 dc10 pm10 an10 cd10 ct10), sl10⟩)
    (c10 : PySem.W.codeIn K cd10 "TreeReader.join_text" = true)
    (k10 : PySem.W.keepIn K (.ref f10) = true)
    (a11 : PySem.W.findIn K (.ref aTreeReader) "begin_node" = some (some (.ref f11)))
    (i11 : PySem.W.isFn K (.ref f11) = true)
    (l11 : K.lookup f11 = some ⟨oc11, od11, .func (PySem.W.fnOf "begin_node" "TreeReader.begin_node" (defArgs s_TreeReader_begin_node) (defBody s_TreeReader_begin_node) (defScope s_TreeReader_begin_node) .none kV11 dc11 pm11 an11 cd11 ct11), sl11⟩)
    (c11 : PySem.W.codeIn K cd11 "TreeReader.begin_node" = true)
    (k11 : PySem.W.keepIn K (.ref f11) = true)
    (a12 : PySem.W.findIn K (.ref aTreeReader) "end_node" = some (some (.ref f12)))
    (i12 : PySem.W.isFn K (.ref f12) = true)
    (l12 : K.lookup f12 = some ⟨oc12, od12, .func (PySem.W.fnOf "end_node" "TreeReader.end_node" (defArgs s_TreeReader_end_node) (defBody s_TreeReader_end_node) (defScope s_TreeReader_end_node) .none kV12 dc12 pm12 an12 cd12 ct12), sl12⟩)
    (c12 : PySem.W.codeIn K cd12 "TreeReader.end_node" = true)
    (k12 : PySem.W.keepIn K (.ref f12) = true)
    (a13 : PySem.W.findIn K (.ref aTreeReader) "read_piece" = some (some (.ref f13)))
    (i13 : PySem.W.isFn K (.ref f13) = true)
    (l13 : K.lookup f13 = some ⟨oc13, od13, .func (PySem.W.fnOf "read_piece" "TreeReader.read_piece" (defArgs s_TreeReader_read_piece) (defBody s_TreeReader_read_piece) (defScope s_TreeReader_read_piece) .none kV13 dc13 pm13 an13 cd13 ct13), sl13⟩)
    (c13 : PySem.W.codeIn K cd13 "TreeReader.read_piece" = true)
    (k13 : PySem.W.keepIn K (.ref f13) = true)
    (a14 : PySem.W.findIn K (.ref aTreeReader) "take_signs" = some (some (.ref f14)))
    (i14 : PySem.W.isFn K (.ref f14) = true)
    (l14 : K.lookup f14 = some ⟨oc14, od14, .func (PySem.W.fnOf "take_signs" "TreeReader.take_signs" (defArgs s_TreeReader_take_signs) (defBody s_TreeReader_take_signs) (defScope s_TreeReader_take_signs) .none kV14 dc14 pm14 an14 cd14 ct14), sl14⟩)
    (c14 : PySem.W.codeIn K cd14 "TreeReader.take_signs" = true)
    (k14 : PySem.W.keepIn K (.ref f14) = true)
    (a15 : PySem.W.findIn K (.ref aTreeReader) "escaped" = some (some (.ref f15)))
    (i15 : PySem.W.isFn K (.ref f15) = true)
    (l15 : K.lookup f15 = some ⟨oc15, od15, .func (PySem.W.fnOf "escaped" "TreeReader.escaped" (defArgs s_TreeReader_escaped) (defBody s_TreeReader_escaped) (defScope s_TreeReader_escaped) .none kV15 dc15 pm15 an15 cd15 ct15), sl15⟩)
    (c15 : PySem.W.codeIn K cd15 "TreeReader.escaped" = true)
    (k15 : PySem.W.keepIn K (.ref f15) = true)
    (a16 : PySem.W.findIn K (.ref aTreeReader) "word_end" = some (some (.ref f16)))
    (i16 : PySem.W.isFn K (.ref f16) = true)
    (l16 : K.lookup f16 = some ⟨oc16, od16, .func (PySem.W.fnOf "word_end" "TreeReader.word_end" (defArgs s_TreeReader_word_end) (defBody s_TreeReader_word_end) (defScope s_TreeReader_word_end) .none kV16 dc16 pm16 an16 cd16 ct16), sl16⟩)
    (c16 : PySem.W.codeIn K cd16 "TreeReader.word_end" = true)
    (k16 : PySem.W.keepIn K (.ref f16) = true)
    (a17 : PySem.W.findIn K (.ref aTreeReader) "read_start" = some (some (.ref f17)))
    (i17 : PySem.W.isFn K (.ref f17) = true)
    (l17 : K.lookup f17 = some ⟨oc17, od17, .func (PySem.W.fnOf "read_start" "TreeReader.read_start" (defArgs s_TreeReader_read_start) (defBody s_TreeReader_read_start) (defScope s_TreeReader_read_start) .none kV17 dc17 pm17 an17 cd17 ct17), sl17⟩)
    (c17 : PySem.W.codeIn K cd17 "TreeReader.read_start" = true)
    (k17 : PySem.W.keepIn K (.ref f17) = true)
    (a18 : PySem.W.findIn K (.ref aTreeReader) "take_attribute" = some (some (.ref f18)))
    (i18 : PySem.W.isFn K (.ref f18) = true)
    (l18 : K.lookup f18 = some ⟨oc18, od18, .func (PySem.W.fnOf "take_attribute" "TreeReader.take_attribute" (defArgs s_TreeReader_take_attribute) (defBody s_TreeReader_take_attribute) (defScope s_TreeReader_take_attribute) .none kV18 dc18 pm18 an18 cd18 ct18), sl18⟩)
    (c18 : PySem.W.codeIn K cd18 "TreeReader.take_attribute" = true)
    (k18 : PySem.W.keepIn K (.ref f18) = true)
    (a19 : PySem.W.findIn K (.ref aTreeReader) "read_end" = some (some (.ref f19)))
    (i19 : PySem.W.isFn K (.ref f19) = true)
    (l19 : K.lookup f19 = some ⟨oc19, od19, .func (PySem.W.fnOf "read_end" "TreeReader.read_end" (defArgs s_TreeReader_read_end) (defBody s_TreeReader_read_end) (defScope s_TreeReader_read_end) .none kV19 dc19 pm19 an19 cd19 ct19), sl19⟩)
    (c19 : PySem.W.codeIn K cd19 "TreeReader.read_end" = true)
    (k19 : PySem.W.keepIn K (.ref f19) = true)
    (a20 : PySem.W.findIn K (.ref aTreeReader) "read_comment" = some (some (.ref f20)))
    (i20 : PySem.W.isFn K (.ref f20) = true)
    (l20 : K.lookup f20 = some ⟨oc20, od20, .func (PySem.W.fnOf "read_comment" "TreeReader.read_comment" (defArgs s_TreeReader_read_comment) (defBody s_TreeReader_read_comment) (defScope s_TreeReader_read_comment) .none kV20 dc20 pm20 an20 cd20 ct20), sl20⟩)
    (c20 : PySem.W.codeIn K cd20 "TreeReader.read_comment" = true)
    (k20 : PySem.W.keepIn K (.ref f20) = true)
    (a21 : PySem.W.findIn K (.ref aTreeReader) "read_waiting" = some (some (.ref f21)))
    (i21 : PySem.W.isFn K (.ref f21) = true)
    (l21 : K.lookup f21 = some ⟨oc21, od21, .func (PySem.W.fnOf "read_waiting" "TreeReader.read_waiting" (defArgs s_TreeReader_read_waiting) (defBody s_TreeReader_read_waiting) (defScope s_TreeReader_read_waiting) .none kV21 dc21 pm21 an21 cd21 ct21), sl21⟩)
    (c21 : PySem.W.codeIn K cd21 "TreeReader.read_waiting" = true)
    (k21 : PySem.W.keepIn K (.ref f21) = true)
    (a22 : PySem.W.nsIn K mainGlobals "write_tree" = some (some (.ref f22)))
    (l22 : K.lookup f22 = some ⟨oc22, od22, .func (PySem.W.fnOf "write_tree" "write_tree" (defArgs s_write_tree) (defBody s_write_tree) (defScope s_write_tree) .none kV22 dc22 pm22 an22 cd22 ct22), sl22⟩)
    (c22 : PySem.W.codeIn K cd22 "write_tree" = true)
    (k22 : PySem.W.keepIn K (.ref f22) = true)
    (a23 : PySem.W.nsIn K mainGlobals "written_text" = some (some (.ref f23)))
    (l23 : K.lookup f23 = some ⟨oc23, od23, .func (PySem.W.fnOf "written_text" "written_text" (defArgs s_written_text) (defBody s_written_text) (defScope s_written_text) .none kV23 dc23 pm23 an23 cd23 ct23), sl23⟩)
    (c23 : PySem.W.codeIn K cd23 "written_text" = true)
    (k23 : PySem.W.keepIn K (.ref f23) = true)
    (a24 : PySem.W.nsIn K mainGlobals "written_value" = some (some (.ref f24)))
    (l24 : K.lookup f24 = some ⟨oc24, od24, .func (PySem.W.fnOf "written_value" "written_value" (defArgs s_written_value) (defBody s_written_value) (defScope s_written_value) .none kV24 dc24 pm24 an24 cd24 ct24), sl24⟩)
    (c24 : PySem.W.codeIn K cd24 "written_value" = true)
    (k24 : PySem.W.keepIn K (.ref f24) = true)
    (a25 : PySem.W.nsIn K mainGlobals "written_element" = some (some (.ref f25)))
    (l25 : K.lookup f25 = some ⟨oc25, od25, .func (PySem.W.fnOf "written_element" "written_element" (defArgs s_written_element) (defBody s_written_element) (defScope s_written_element) .none kV25 dc25 pm25 an25 cd25 ct25), sl25⟩)
    (c25 : PySem.W.codeIn K cd25 "written_element" = true)
    (k25 : PySem.W.keepIn K (.ref f25) = true)
    (a26 : PySem.W.nsIn K mainGlobals "_law_rows" = some (some (.ref f26)))
    (l26 : K.lookup f26 = some ⟨oc26, od26, .func (PySem.W.fnOf "_law_rows" "_law_rows" (defArgs s__law_rows) (defBody s__law_rows) (defScope s__law_rows) .none kV26 dc26 pm26 an26 cd26 ct26), sl26⟩)
    (c26 : PySem.W.codeIn K cd26 "_law_rows" = true)
    (k26 : PySem.W.keepIn K (.ref f26) = true)
    (a27 : PySem.W.nsIn K mainGlobals "_law_chain" = some (some (.ref f27)))
    (l27 : K.lookup f27 = some ⟨oc27, od27, .func (PySem.W.fnOf "_law_chain" "_law_chain" (defArgs s__law_chain) (defBody s__law_chain) (defScope s__law_chain) .none kV27 dc27 pm27 an27 cd27 ct27), sl27⟩)
    (c27 : PySem.W.codeIn K cd27 "_law_chain" = true)
    (k27 : PySem.W.keepIn K (.ref f27) = true)
    (a28 : PySem.W.nsIn K mainGlobals "_law_depth" = some (some (.ref f28)))
    (l28 : K.lookup f28 = some ⟨oc28, od28, .func (PySem.W.fnOf "_law_depth" "_law_depth" (defArgs s__law_depth) (defBody s__law_depth) (defScope s__law_depth) .none kV28 dc28 pm28 an28 cd28 ct28), sl28⟩)
    (c28 : PySem.W.codeIn K cd28 "_law_depth" = true)
    (k28 : PySem.W.keepIn K (.ref f28) = true)
    (a29 : PySem.W.nsIn K mainGlobals "_law_opened" = some (some (.ref f29)))
    (l29 : K.lookup f29 = some ⟨oc29, od29, .func (PySem.W.fnOf "_law_opened" "_law_opened" (defArgs s__law_opened) (defBody s__law_opened) (defScope s__law_opened) .none kV29 dc29 pm29 an29 cd29 ct29), sl29⟩)
    (c29 : PySem.W.codeIn K cd29 "_law_opened" = true)
    (k29 : PySem.W.keepIn K (.ref f29) = true)
    (a30 : PySem.W.nsIn K mainGlobals "law" = some (some (.ref f30)))
    (l30 : K.lookup f30 = some ⟨oc30, od30, .func (PySem.W.fnOf "law" "law" (defArgs s_law) (defBody s_law) (defScope s_law) .none kV30 dc30 pm30 an30 cd30 ct30), sl30⟩)
    (c30 : PySem.W.codeIn K cd30 "law" = true)
    (k30 : PySem.W.keepIn K (.ref f30) = true)
    : ∃ fd : FuncData, (∀ (s : Shared) (v : Value), BindsTo s fd ⟨[v], []⟩ [("script", v)]) ∧ ∀ base : Heap, K.In base → base.Ns mainGlobals mg → FnOk l.prog w K mg base CX0 50 fa fd ["script"] (spLaw K) := by
  have e := hfa.symm.trans (PySem.W.mg_of X G a30)
  cases e
  have F1 := fun_mk (st := s_is_digit) l1 c1 k1
  have b1 := F1.binds (ps := ["sign"]) fun _ _ _ _ _ _ us hl => match us, hl with | [_], _ => rfl
  have F2 := fun_mk (st := s_read_tree) l2 c2 k2
  have b2 := F2.binds (ps := ["text"]) fun _ _ _ _ _ _ us hl => match us, hl with | [_], _ => rfl
  have F3 := fun_mk (st := s_is_small_letter) l3 c3 k3
  have b3 := F3.binds (ps := ["sign"]) fun _ _ _ _ _ _ us hl => match us, hl with | [_], _ => rfl
  have F4 := fun_mk (st := s_is_word_sign) l4 c4 k4
  have b4 := F4.binds (ps := ["sign"]) fun _ _ _ _ _ _ us hl => match us, hl with | [_], _ => rfl
  have F5 := fun_mk (st := s_TreeReader___init__) l5 c5 k5
  have b5 := F5.binds (ps := ["self", "text"]) fun _ _ _ _ _ _ us hl => match us, hl with | [_, _], _ => rfl
  have F6 := fun_mk (st := s_TreeReader_fail) l6 c6 k6
  have b6 := F6.binds (ps := ["self", "at"]) fun _ _ _ _ _ _ us hl => match us, hl with | [_, _], _ => rfl
  have F7 := fun_mk (st := s_TreeReader_sign_at) l7 c7 k7
  have b7 := F7.binds (ps := ["self", "at"]) fun _ _ _ _ _ _ us hl => match us, hl with | [_, _], _ => rfl
  have F8 := fun_mk (st := s_TreeReader_stands) l8 c8 k8
  have b8 := F8.binds (ps := ["self", "mark", "at"]) fun _ _ _ _ _ _ us hl => match us, hl with | [_, _, _], _ => rfl
  have F9 := fun_mk (st := s_TreeReader_check_level) l9 c9 k9
  have b9 := F9.binds (ps := ["self", "at"]) fun _ _ _ _ _ _ us hl => match us, hl with | [_, _], _ => rfl
  have F10 := fun_mk (st := s_TreeReader_join_text) l10 c10 k10
  have b10 := F10.binds (ps := ["self", "text"]) fun _ _ _ _ _ _ us hl => match us, hl with | [_, _], _ => rfl
  have F11 := fun_mk (st := s_TreeReader_begin_node) l11 c11 k11
  have b11 := F11.binds (ps := ["self", "node"]) fun _ _ _ _ _ _ us hl => match us, hl with | [_, _], _ => rfl
  have F12 := fun_mk (st := s_TreeReader_end_node) l12 c12 k12
  have b12 := F12.binds (ps := ["self"]) fun _ _ _ _ _ _ us hl => match us, hl with | [_], _ => rfl
  have F13 := fun_mk (st := s_TreeReader_read_piece) l13 c13 k13
  have b13 := F13.binds (ps := ["self"]) fun _ _ _ _ _ _ us hl => match us, hl with | [_], _ => rfl
  have F14 := fun_mk (st := s_TreeReader_take_signs) l14 c14 k14
  have b14 := F14.binds (ps := ["self", "at", "end"]) fun _ _ _ _ _ _ us hl => match us, hl with | [_, _, _], _ => rfl
  have F15 := fun_mk (st := s_TreeReader_escaped) l15 c15 k15
  have b15 := F15.binds (ps := ["self", "at"]) fun _ _ _ _ _ _ us hl => match us, hl with | [_, _], _ => rfl
  have F16 := fun_mk (st := s_TreeReader_word_end) l16 c16 k16
  have b16 := F16.binds (ps := ["self", "at"]) fun _ _ _ _ _ _ us hl => match us, hl with | [_, _], _ => rfl
  have F17 := fun_mk (st := s_TreeReader_read_start) l17 c17 k17
  have b17 := F17.binds (ps := ["self", "at"]) fun _ _ _ _ _ _ us hl => match us, hl with | [_, _], _ => rfl
  have F18 := fun_mk (st := s_TreeReader_take_attribute) l18 c18 k18
  have b18 := F18.binds (ps := ["self", "names"]) fun _ _ _ _ _ _ us hl => match us, hl with | [_, _], _ => rfl
  have F19 := fun_mk (st := s_TreeReader_read_end) l19 c19 k19
  have b19 := F19.binds (ps := ["self", "at"]) fun _ _ _ _ _ _ us hl => match us, hl with | [_, _], _ => rfl
  have F20 := fun_mk (st := s_TreeReader_read_comment) l20 c20 k20
  have b20 := F20.binds (ps := ["self", "at"]) fun _ _ _ _ _ _ us hl => match us, hl with | [_, _], _ => rfl
  have F21 := fun_mk (st := s_TreeReader_read_waiting) l21 c21 k21
  have b21 := F21.binds (ps := ["self", "at"]) fun _ _ _ _ _ _ us hl => match us, hl with | [_, _], _ => rfl
  have F22 := fun_mk (st := s_write_tree) l22 c22 k22
  have b22 := F22.binds (ps := ["nodes"]) fun _ _ _ _ _ _ us hl => match us, hl with | [_], _ => rfl
  have F23 := fun_mk (st := s_written_text) l23 c23 k23
  have b23 := F23.binds (ps := ["text"]) fun _ _ _ _ _ _ us hl => match us, hl with | [_], _ => rfl
  have F24 := fun_mk (st := s_written_value) l24 c24 k24
  have b24 := F24.binds (ps := ["text"]) fun _ _ _ _ _ _ us hl => match us, hl with | [_], _ => rfl
  have F25 := fun_mk (st := s_written_element) l25 c25 k25
  have b25 := F25.binds (ps := ["node", "inner"]) fun _ _ _ _ _ _ us hl => match us, hl with | [_, _], _ => rfl
  have F26 := fun_mk (st := s__law_rows) l26 c26 k26
  have b26 := F26.binds (ps := ["script", "count"]) fun _ _ _ _ _ _ us hl => match us, hl with | [_, _], _ => rfl
  have F27 := fun_mk (st := s__law_chain) l27 c27 k27
  have b27 := F27.binds (ps := ["rows", "many", "inner"]) fun _ _ _ _ _ _ us hl => match us, hl with | [_, _, _], _ => rfl
  have F28 := fun_mk (st := s__law_depth) l28 c28 k28
  have b28 := F28.binds (ps := ["nodes"]) fun _ _ _ _ _ _ us hl => match us, hl with | [_], _ => rfl
  have F29 := fun_mk (st := s__law_opened) l29 c29 k29
  have b29 := F29.binds (ps := ["text", "count"]) fun _ _ _ _ _ _ us hl => match us, hl with | [_, _], _ => rfl
  have T : Txt K w mg ⟨(), aTreeReader, aInvalidDocument⟩ := {
    g_TreeReader := ⟨_, PySem.W.mg_of X G q_TreeReader, rfl⟩,
    cl_TreeReader := ⟨pg_TreeReader, hd_TreeReader, po_TreeReader, sa_TreeReader⟩,
    n_TreeReader_text := n_TreeReader_text,
    n_TreeReader_at := n_TreeReader_at,
    n_TreeReader_lists := n_TreeReader_lists,
    n_TreeReader_around := n_TreeReader_around,
    n_TreeReader_numbers := n_TreeReader_numbers,
    n_TreeReader_is_behind_text := n_TreeReader_is_behind_text,
    z_int := PySem.W.mg_none_of X G z_int,
    z_len := PySem.W.mg_none_of X G z_len,
    z_max := PySem.W.mg_none_of X G z_max,
    z_range := PySem.W.mg_none_of X G z_range,
    z_str := PySem.W.mg_none_of X G z_str,
    g_LOWEST_LEVEL := ⟨_, PySem.W.mg_of X G g_LOWEST_LEVEL, r_LOWEST_LEVEL⟩,
    g_MOST_DIGITS := ⟨_, PySem.W.mg_of X G g_MOST_DIGITS, r_MOST_DIGITS⟩,
    g_ESCAPES := ⟨_, _, _, _, _, ⟨_, PySem.W.mg_of X G g_ESCAPES, rfl⟩, fun H => .inr ⟨_, _, _, tl_ESCAPES, rfl, rfl, tz_ESCAPES, tv_ESCAPES⟩, fun H => .inr ⟨_, _, _, tl_ESCAPES_0, rfl, rfl, tz_ESCAPES_0, tv_ESCAPES_0⟩, fun H => .inr ⟨_, _, _, tl_ESCAPES_1, rfl, rfl, tz_ESCAPES_1, tv_ESCAPES_1⟩, fun H => .inr ⟨_, _, _, tl_ESCAPES_2, rfl, rfl, tz_ESCAPES_2, tv_ESCAPES_2⟩, fun H => .inr ⟨_, _, _, tl_ESCAPES_3, rfl, rfl, tz_ESCAPES_3, tv_ESCAPES_3⟩⟩,
    g_EMPTY_TEXT_reading := ⟨_, PySem.W.mg_of X G g_EMPTY_TEXT_reading, r_EMPTY_TEXT_reading⟩,
    g_BETWEEN_TEXTS_reading := ⟨_, PySem.W.mg_of X G g_BETWEEN_TEXTS_reading, r_BETWEEN_TEXTS_reading⟩,
    g_AWAIT_BEGIN := ⟨_, PySem.W.mg_of X G g_AWAIT_BEGIN, r_AWAIT_BEGIN⟩,
    g_AWAIT_END_reading := ⟨_, PySem.W.mg_of X G g_AWAIT_END_reading, r_AWAIT_END_reading⟩,
    g_WAITING_BEGIN := ⟨_, PySem.W.mg_of X G g_WAITING_BEGIN, r_WAITING_BEGIN⟩,
    g_COMMENT_END := ⟨_, PySem.W.mg_of X G g_COMMENT_END, r_COMMENT_END⟩,
    g_VALUE_BEGIN := ⟨_, PySem.W.mg_of X G g_VALUE_BEGIN, r_VALUE_BEGIN⟩,
    g_EMPTY_TEXT_writing := ⟨_, PySem.W.mg_of X G g_EMPTY_TEXT_writing, r_EMPTY_TEXT_writing⟩,
    g_BETWEEN_TEXTS_writing := ⟨_, PySem.W.mg_of X G g_BETWEEN_TEXTS_writing, r_BETWEEN_TEXTS_writing⟩,
    g_AWAIT_END_writing := ⟨_, PySem.W.mg_of X G g_AWAIT_END_writing, r_AWAIT_END_writing⟩,
    d_is_digit := ⟨_, _, F1, PySem.W.mg_of X G a1, b1⟩,
    d_read_tree := ⟨_, _, F2, PySem.W.mg_of X G a2, b2⟩,
    d_is_small_letter := ⟨_, _, F3, PySem.W.mg_of X G a3, b3⟩,
    d_is_word_sign := ⟨_, _, F4, PySem.W.mg_of X G a4, b4⟩,
    i_TreeReader := ⟨_, _, F5, ⟨mk_TreeReader, a5, i5, kc_TreeReader⟩, PySem.W.mg_of X G q_TreeReader, b5⟩,
    m_TreeReader_fail := ⟨_, _, F6, ⟨a6, i6, k6⟩, b6⟩,
    m_TreeReader_sign_at := ⟨_, _, F7, ⟨a7, i7, k7⟩, b7⟩,
    m_TreeReader_stands := ⟨_, _, F8, ⟨a8, i8, k8⟩, b8⟩,
    m_TreeReader_check_level := ⟨_, _, F9, ⟨a9, i9, k9⟩, b9⟩,
    m_TreeReader_join_text := ⟨_, _, F10, ⟨a10, i10, k10⟩, b10⟩,
    m_TreeReader_begin_node := ⟨_, _, F11, ⟨a11, i11, k11⟩, b11⟩,
    m_TreeReader_end_node := ⟨_, _, F12, ⟨a12, i12, k12⟩, b12⟩,
    m_TreeReader_read_piece := ⟨_, _, F13, ⟨a13, i13, k13⟩, b13⟩,
    m_TreeReader_take_signs := ⟨_, _, F14, ⟨a14, i14, k14⟩, b14⟩,
    m_TreeReader_escaped := ⟨_, _, F15, ⟨a15, i15, k15⟩, b15⟩,
    m_TreeReader_word_end := ⟨_, _, F16, ⟨a16, i16, k16⟩, b16⟩,
    m_TreeReader_read_start := ⟨_, _, F17, ⟨a17, i17, k17⟩, b17⟩,
    m_TreeReader_take_attribute := ⟨_, _, F18, ⟨a18, i18, k18⟩, b18⟩,
    m_TreeReader_read_end := ⟨_, _, F19, ⟨a19, i19, k19⟩, b19⟩,
    m_TreeReader_read_comment := ⟨_, _, F20, ⟨a20, i20, k20⟩, b20⟩,
    m_TreeReader_read_waiting := ⟨_, _, F21, ⟨a21, i21, k21⟩, b21⟩,
    d_write_tree := ⟨_, _, F22, PySem.W.mg_of X G a22, b22⟩,
    d_written_text := ⟨_, _, F23, PySem.W.mg_of X G a23, b23⟩,
    d_written_value := ⟨_, _, F24, PySem.W.mg_of X G a24, b24⟩,
    d_written_element := ⟨_, _, F25, PySem.W.mg_of X G a25, b25⟩,
    d__law_rows := ⟨_, _, F26, PySem.W.mg_of X G a26, b26⟩,
    d__law_chain := ⟨_, _, F27, PySem.W.mg_of X G a27, b27⟩,
    d__law_depth := ⟨_, _, F28, PySem.W.mg_of X G a28, b28⟩,
    d__law_opened := ⟨_, _, F29, PySem.W.mg_of X G a29, b29⟩ }
  have T : TxtE l.prog K w mg ⟨(), aTreeReader, aInvalidDocument⟩ := { t := T, xi_InvalidDocument := ⟨⟨fI_InvalidDocument, cc_InvalidDocument, cda_InvalidDocument, kVI_InvalidDocument, dcI_InvalidDocument, pmI_InvalidDocument, ctI_InvalidDocument, anI_InvalidDocument, ⟨⟨_, _, _, lI_InvalidDocument⟩, cI_InvalidDocument, ⟨_, _, _, ceI_InvalidDocument⟩, ⟨_, _, _, _, _, _, coI_InvalidDocument, vsI_InvalidDocument, fiI_InvalidDocument⟩, ⟨_, clI_InvalidDocument⟩, sbI_InvalidDocument, PySem.W.mg_none_of X G z_super, opI_InvalidDocument, alI_InvalidDocument, svI_InvalidDocument, tpI_InvalidDocument⟩, iI_InvalidDocument, tI_InvalidDocument, .all fun us hl => match us, hl with | [_, _, _], _ => rfl⟩, ⟨⟨_, _, _, _, _, _, _, _, _, _, _, _, _, _, _, lD_InvalidDocument, bmR_InvalidDocument⟩, saD_InvalidDocument, exD_InvalidDocument, tyD_InvalidDocument, kD_InvalidDocument⟩, List.forall_mem_cons.mpr ⟨m_InvalidDocument_line, List.forall_mem_cons.mpr ⟨m_InvalidDocument_column, fun _ h => nomatch h⟩⟩, PySem.W.mg_of X G q_InvalidDocument, PySem.W.exm_ref exD_InvalidDocument hdD_InvalidDocument tyD_InvalidDocument ssD_InvalidDocument, ⟨gaD_InvalidDocument, ggD_InvalidDocument, exD_InvalidDocument, hdD_InvalidDocument⟩, ⟨gaD_InvalidDocument, ggD_InvalidDocument, exD_InvalidDocument, hdD_InvalidDocument, caD_InvalidDocument, spD_InvalidDocument, tkD_InvalidDocument, mrD_InvalidDocument⟩⟩ }
  exact ⟨_, fun s v => .of_eq rfl, fun base _ _ => ok_law (fun_mk (st := s_law) l30 c30 k30) T⟩
theorem walk {l : PySem.W.OpenLaw} {q : Program} {loose : List Str} {XP : (Str → Option Value) → Heap → Prop} {YP : World → Heap → Prop} {d : DefRec} {K : Params → PySem.W.Frag} (hn : l.most = some 63) (hdf : d.params.defaults = [])
    (hY : ∀ (w : World) (h : Heap), YP w h → (K w.params).In h)
    (F : ∀ (w : World) (mg : Str → Option Value) (fa : Addr) (h : Heap), (K w.params).In h → h.Ns mainGlobals mg → mg d.name = some (.ref fa) →
      ∃ fd : FuncData, (∀ (s : Shared) (u : Value), BindsTo s fd ⟨[u], []⟩ [("script", u)]) ∧ ∀ base : Heap, (K w.params).In base → base.Ns mainGlobals mg → FnOk l.prog w (K w.params) mg base CX0 50 fa fd ["script"] (spLaw (K w.params))) :
    PySem.W.WalkO q loose XP YP l.row.toRowW d [] (fun f vs => PySem.call f vs) :=
  L2.walk_of (n := 63) (k := 50) (x := "script") (CX := fun _ => CX0) (sp := fun w => spLaw (K w.params)) hn (by decide) hdf ⟨rfl, by decide, by decide⟩ hY F (fun _ _ a ns hl _ hS => ⟨a, ns, rfl, hS, hl, fun _ => rfl⟩) fun _ _ _ _ _ z => z
end VL

open PySem PySem.W PyProof.Rows in
set_option maxRecDepth 100000 in
set_option maxHeartbeats 0 in
set_option pp.maxSteps 60 in
theorem PySem.Challenge.cw_viewloom_k71_forty_levels_holds : PySem.Challenge.rw_viewloom_k71_forty_levels.Holds := by
  w_on; o_law; k_head; (case hw => w_witness2)
  k_fill
  refine VL.walk (l := PySem.Challenge.rw_viewloom_k71_forty_levels) rfl rfl (fun w h Y => PySem.W.kIn_of Y) ?F
  case F =>
    intro w mg fa h KX G hmg
    refine' VL.all_mk KX G hmg ?q_TreeReader ?pg_TreeReader ?hd_TreeReader ?po_TreeReader ?sa_TreeReader ?mk_TreeReader ?kc_TreeReader ?n_TreeReader_text ?n_TreeReader_at ?n_TreeReader_lists ?n_TreeReader_around ?n_TreeReader_numbers ?n_TreeReader_is_behind_text ?z_int ?z_len ?z_max ?z_range ?z_str ?g_LOWEST_LEVEL ?r_LOWEST_LEVEL ?g_MOST_DIGITS ?r_MOST_DIGITS ?g_ESCAPES ?tl_ESCAPES ?tz_ESCAPES ?tv_ESCAPES ?tl_ESCAPES_0 ?tz_ESCAPES_0 ?tv_ESCAPES_0 ?tl_ESCAPES_1 ?tz_ESCAPES_1 ?tv_ESCAPES_1 ?tl_ESCAPES_2 ?tz_ESCAPES_2 ?tv_ESCAPES_2 ?tl_ESCAPES_3 ?tz_ESCAPES_3 ?tv_ESCAPES_3 ?g_EMPTY_TEXT_reading ?r_EMPTY_TEXT_reading ?g_BETWEEN_TEXTS_reading ?r_BETWEEN_TEXTS_reading ?g_AWAIT_BEGIN ?r_AWAIT_BEGIN ?g_AWAIT_END_reading ?r_AWAIT_END_reading ?g_WAITING_BEGIN ?r_WAITING_BEGIN ?g_COMMENT_END ?r_COMMENT_END ?g_VALUE_BEGIN ?r_VALUE_BEGIN ?g_EMPTY_TEXT_writing ?r_EMPTY_TEXT_writing ?g_BETWEEN_TEXTS_writing ?r_BETWEEN_TEXTS_writing ?g_AWAIT_END_writing ?r_AWAIT_END_writing ?z_super ?q_InvalidDocument ?iI_InvalidDocument ?tI_InvalidDocument ?lI_InvalidDocument ?cI_InvalidDocument ?ceI_InvalidDocument ?coI_InvalidDocument ?vsI_InvalidDocument ?fiI_InvalidDocument ?clI_InvalidDocument ?sbI_InvalidDocument ?opI_InvalidDocument ?alI_InvalidDocument ?svI_InvalidDocument ?tpI_InvalidDocument ?lD_InvalidDocument ?bmR_InvalidDocument ?saD_InvalidDocument ?exD_InvalidDocument ?tyD_InvalidDocument ?kD_InvalidDocument ?m_InvalidDocument_line ?m_InvalidDocument_column ?ssD_InvalidDocument ?gaD_InvalidDocument ?ggD_InvalidDocument ?hdD_InvalidDocument ?caD_InvalidDocument ?spD_InvalidDocument ?tkD_InvalidDocument ?mrD_InvalidDocument ?a1 ?l1 ?c1 ?k1 ?a2 ?l2 ?c2 ?k2 ?a3 ?l3 ?c3 ?k3 ?a4 ?l4 ?c4 ?k4 ?a5 ?i5 ?l5 ?c5 ?k5 ?a6 ?i6 ?l6 ?c6 ?k6 ?a7 ?i7 ?l7 ?c7 ?k7 ?a8 ?i8 ?l8 ?c8 ?k8 ?a9 ?i9 ?l9 ?c9 ?k9 ?a10 ?i10 ?l10 ?c10 ?k10 ?a11 ?i11 ?l11 ?c11 ?k11 ?a12 ?i12 ?l12 ?c12 ?k12 ?a13 ?i13 ?l13 ?c13 ?k13 ?a14 ?i14 ?l14 ?c14 ?k14 ?a15 ?i15 ?l15 ?c15 ?k15 ?a16 ?i16 ?l16 ?c16 ?k16 ?a17 ?i17 ?l17 ?c17 ?k17 ?a18 ?i18 ?l18 ?c18 ?k18 ?a19 ?i19 ?l19 ?c19 ?k19 ?a20 ?i20 ?l20 ?c20 ?k20 ?a21 ?i21 ?l21 ?c21 ?k21 ?a22 ?l22 ?c22 ?k22 ?a23 ?l23 ?c23 ?k23 ?a24 ?l24 ?c24 ?k24 ?a25 ?l25 ?c25 ?k25 ?a26 ?l26 ?c26 ?k26 ?a27 ?l27 ?c27 ?k27 ?a28 ?l28 ?c28 ?k28 ?a29 ?l29 ?c29 ?k29 ?a30 ?l30 ?c30 ?k30
    (case q_TreeReader => k_is)
    (case pg_TreeReader => k_is)
    (case hd_TreeReader => k_is)
    (case po_TreeReader => k_is)
    (case sa_TreeReader => k_is)
    (case mk_TreeReader => k_is)
    (case kc_TreeReader => k_is)
    (case n_TreeReader_text => k_is)
    (case n_TreeReader_at => k_is)
    (case n_TreeReader_lists => k_is)
    (case n_TreeReader_around => k_is)
    (case n_TreeReader_numbers => k_is)
    (case n_TreeReader_is_behind_text => k_is)
    (case z_int => k_is)
    (case z_len => k_is)
    (case z_max => k_is)
    (case z_range => k_is)
    (case z_str => k_is)
    (case g_LOWEST_LEVEL => k_is)
    (case r_LOWEST_LEVEL => exact ⟨_, rfl⟩)
    (case g_MOST_DIGITS => k_is)
    (case r_MOST_DIGITS => exact ⟨_, rfl⟩)
    (case g_ESCAPES => k_is)
    (case tl_ESCAPES => k_is)
    (case tz_ESCAPES => show 4 ≤ sizeLine; decide)
    (case tv_ESCAPES => exact (.cons rfl (.cons rfl (.cons rfl (.cons rfl .nil)))))
    (case tl_ESCAPES_0 => k_is)
    (case tz_ESCAPES_0 => show 2 ≤ sizeLine; decide)
    (case tv_ESCAPES_0 => exact (.cons ⟨_, rfl⟩ (.cons ⟨_, rfl⟩ .nil)))
    (case tl_ESCAPES_1 => k_is)
    (case tz_ESCAPES_1 => show 2 ≤ sizeLine; decide)
    (case tv_ESCAPES_1 => exact (.cons ⟨_, rfl⟩ (.cons ⟨_, rfl⟩ .nil)))
    (case tl_ESCAPES_2 => k_is)
    (case tz_ESCAPES_2 => show 2 ≤ sizeLine; decide)
    (case tv_ESCAPES_2 => exact (.cons ⟨_, rfl⟩ (.cons ⟨_, rfl⟩ .nil)))
    (case tl_ESCAPES_3 => k_is)
    (case tz_ESCAPES_3 => show 2 ≤ sizeLine; decide)
    (case tv_ESCAPES_3 => exact (.cons ⟨_, rfl⟩ (.cons ⟨_, rfl⟩ .nil)))
    (case g_EMPTY_TEXT_reading => k_is)
    (case r_EMPTY_TEXT_reading => exact ⟨_, rfl⟩)
    (case g_BETWEEN_TEXTS_reading => k_is)
    (case r_BETWEEN_TEXTS_reading => exact ⟨_, rfl⟩)
    (case g_AWAIT_BEGIN => k_is)
    (case r_AWAIT_BEGIN => exact ⟨_, rfl⟩)
    (case g_AWAIT_END_reading => k_is)
    (case r_AWAIT_END_reading => exact ⟨_, rfl⟩)
    (case g_WAITING_BEGIN => k_is)
    (case r_WAITING_BEGIN => exact ⟨_, rfl⟩)
    (case g_COMMENT_END => k_is)
    (case r_COMMENT_END => exact ⟨_, rfl⟩)
    (case g_VALUE_BEGIN => k_is)
    (case r_VALUE_BEGIN => exact ⟨_, rfl⟩)
    (case g_EMPTY_TEXT_writing => k_is)
    (case r_EMPTY_TEXT_writing => exact ⟨_, rfl⟩)
    (case g_BETWEEN_TEXTS_writing => k_is)
    (case r_BETWEEN_TEXTS_writing => exact ⟨_, rfl⟩)
    (case g_AWAIT_END_writing => k_is)
    (case r_AWAIT_END_writing => exact ⟨_, rfl⟩)
    (case z_super => k_is)
    (case q_InvalidDocument => k_is)
    (case iI_InvalidDocument => k_is)
    (case tI_InvalidDocument => k_is)
    (case lI_InvalidDocument => k_is)
    (case cI_InvalidDocument => k_is)
    (case ceI_InvalidDocument => k_is)
    (case coI_InvalidDocument => k_is)
    (case vsI_InvalidDocument => rfl)
    (case fiI_InvalidDocument => first | rfl | decide +kernel)
    (case clI_InvalidDocument => k_is)
    (case sbI_InvalidDocument => k_is)
    (case opI_InvalidDocument => k_is)
    (case alI_InvalidDocument => ks_is)
    (case svI_InvalidDocument => k_is)
    (case tpI_InvalidDocument => first | rfl | decide +kernel)
    (case lD_InvalidDocument => k_is)
    (case bmR_InvalidDocument => first | rfl | decide +kernel)
    (case saD_InvalidDocument => k_is)
    (case exD_InvalidDocument => k_is)
    (case tyD_InvalidDocument => k_is)
    (case kD_InvalidDocument => k_is)
    (case m_InvalidDocument_line => k_is)
    (case m_InvalidDocument_column => k_is)
    (case ssD_InvalidDocument => first | rfl | k_is)
    (case gaD_InvalidDocument => k_is)
    (case ggD_InvalidDocument => k_is)
    (case hdD_InvalidDocument => k_is)
    (case caD_InvalidDocument => k_is)
    (case spD_InvalidDocument => k_is)
    (case tkD_InvalidDocument => k_is)
    (case mrD_InvalidDocument => k_is)
    (case a1 => k_is)
    (case l1 => k_is)
    (case c1 => k_is)
    (case k1 => k_is)
    (case a2 => k_is)
    (case l2 => k_is)
    (case c2 => k_is)
    (case k2 => k_is)
    (case a3 => k_is)
    (case l3 => k_is)
    (case c3 => k_is)
    (case k3 => k_is)
    (case a4 => k_is)
    (case l4 => k_is)
    (case c4 => k_is)
    (case k4 => k_is)
    (case a5 => k_is)
    (case i5 => k_is)
    (case l5 => k_is)
    (case c5 => k_is)
    (case k5 => k_is)
    (case a6 => k_is)
    (case i6 => k_is)
    (case l6 => k_is)
    (case c6 => k_is)
    (case k6 => k_is)
    (case a7 => k_is)
    (case i7 => k_is)
    (case l7 => k_is)
    (case c7 => k_is)
    (case k7 => k_is)
    (case a8 => k_is)
    (case i8 => k_is)
    (case l8 => k_is)
    (case c8 => k_is)
    (case k8 => k_is)
    (case a9 => k_is)
    (case i9 => k_is)
    (case l9 => k_is)
    (case c9 => k_is)
    (case k9 => k_is)
    (case a10 => k_is)
    (case i10 => k_is)
    (case l10 => k_is)
    (case c10 => k_is)
    (case k10 => k_is)
    (case a11 => k_is)
    (case i11 => k_is)
    (case l11 => k_is)
    (case c11 => k_is)
    (case k11 => k_is)
    (case a12 => k_is)
    (case i12 => k_is)
    (case l12 => k_is)
    (case c12 => k_is)
    (case k12 => k_is)
    (case a13 => k_is)
    (case i13 => k_is)
    (case l13 => k_is)
    (case c13 => k_is)
    (case k13 => k_is)
    (case a14 => k_is)
    (case i14 => k_is)
    (case l14 => k_is)
    (case c14 => k_is)
    (case k14 => k_is)
    (case a15 => k_is)
    (case i15 => k_is)
    (case l15 => k_is)
    (case c15 => k_is)
    (case k15 => k_is)
    (case a16 => k_is)
    (case i16 => k_is)
    (case l16 => k_is)
    (case c16 => k_is)
    (case k16 => k_is)
    (case a17 => k_is)
    (case i17 => k_is)
    (case l17 => k_is)
    (case c17 => k_is)
    (case k17 => k_is)
    (case a18 => k_is)
    (case i18 => k_is)
    (case l18 => k_is)
    (case c18 => k_is)
    (case k18 => k_is)
    (case a19 => k_is)
    (case i19 => k_is)
    (case l19 => k_is)
    (case c19 => k_is)
    (case k19 => k_is)
    (case a20 => k_is)
    (case i20 => k_is)
    (case l20 => k_is)
    (case c20 => k_is)
    (case k20 => k_is)
    (case a21 => k_is)
    (case i21 => k_is)
    (case l21 => k_is)
    (case c21 => k_is)
    (case k21 => k_is)
    (case a22 => k_is)
    (case l22 => k_is)
    (case c22 => k_is)
    (case k22 => k_is)
    (case a23 => k_is)
    (case l23 => k_is)
    (case c23 => k_is)
    (case k23 => k_is)
    (case a24 => k_is)
    (case l24 => k_is)
    (case c24 => k_is)
    (case k24 => k_is)
    (case a25 => k_is)
    (case l25 => k_is)
    (case c25 => k_is)
    (case k25 => k_is)
    (case a26 => k_is)
    (case l26 => k_is)
    (case c26 => k_is)
    (case k26 => k_is)
    (case a27 => k_is)
    (case l27 => k_is)
    (case c27 => k_is)
    (case k27 => k_is)
    (case a28 => k_is)
    (case l28 => k_is)
    (case c28 => k_is)
    (case k28 => k_is)
    (case a29 => k_is)
    (case l29 => k_is)
    (case c29 => k_is)
    (case k29 => k_is)
    (case a30 => k_is)
    (case l30 => k_is)
    (case c30 => k_is)
    (case k30 => k_is)
#print axioms PySem.Challenge.cw_viewloom_k71_forty_levels_holds
