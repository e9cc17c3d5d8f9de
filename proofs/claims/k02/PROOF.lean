import PyProof.Rows.All
import Wide.All
import OpenK.AllK
import Wide.FinOn
import HandS.ForMost
import HandS.More
import HandS.StrMore
import HandS.Codes
import HandS.ForExc
import HandS.Nested
import HandS.ExcInit
import KE.KSuper
import KE.KExcSuper
import HandS.ExcIs
import HandS.ExcField
import HandS.FStr
import KE.KExcIs
import HandS.IsInst
import HandS.Steps
import HandS.HotCalls
import HandS.Walk
import PyProof.StrOps2
import KE.RegKSuper
import KE.RegKIsAll
import PySem.Challenge.RW_viewloom_k02_faults_of_tokens
set_option Elab.async false
set_option linter.all false
set_option maxRecDepth 100000
set_option maxHeartbeats 4000000
namespace VL
open PySem PySem.Spec PyProof.Rows L2

/-! ### texts as lists of signs -/
abbrev TX (l : List Nat) : Str := ⟨l.toArray⟩
theorem TX_tl (l : List Nat) : (TX l).cps.toList = l := by simp
theorem TX_len (l : List Nat) : (TX l).length = l.length := by simp [Str.length]
theorem TX_cat (a b : List Nat) : TX a ++ TX b = TX (a ++ b) := SX.S_cat a b
theorem TX_inj {a b : List Nat} (h : TX a = TX b) : a = b := SX.S_inj h
theorem vstr_TX {a b : List Nat} : decide (V.str (TX a) = V.str (TX b)) = decide (a = b) := by
  by_cases e : a = b
  · subst e; simp
  · have : ¬ V.str (TX a) = V.str (TX b) := fun q => e (TX_inj (V.str.inj q))
    rw [decide_eq_false this, decide_eq_false e]
theorem one_eq {c d : Nat} : decide (V.str (TX [c]) = V.str (TX [d])) = decide (c = d) := by
  rw [vstr_TX]
  by_cases e : c = d
  · subst e; simp
  · simp [e]
/-- the sign at a place -/
theorem at_mid {pre r : List Nat} {c : Nat} {i : Int} (hi : i = (pre.length : Int)) : atI (TX (pre ++ c :: r)).cps.toList i = some c := by
  subst hi
  rw [TX_tl]
  unfold atI ixN
  rw [if_pos (by omega), if_pos (by simp; omega)]
  show (pre ++ c :: r)[(pre.length : Int).toNat]? = _
  rw [Int.toNat_natCast]
  simp
theorem getD_TX (l : List Nat) (v : Nat) : (TX l).cps.getD v 0 = l.getD v 0 := by
  simp only [Array.getD, List.getD_eq_getElem?_getD]
  by_cases h : v < l.length
  · rw [dif_pos (by simpa using h)]
    simp [h]
  · rw [dif_neg (by simpa using h), List.getElem?_eq_none (by omega)]
    rfl
theorem lt_one {c d : Nat} : ([c] < [d]) ↔ c < d := by
  constructor
  · intro h
    cases h with
    | rel h => exact h
    | cons h => cases h
  · intro h
    exact .rel h
/-- s.startswith(y, i) -/
theorem starts_at {pre R y : List Nat} {i : Int} (hi : i = (pre.length : Int)) : Txt.startswith3 (TX (pre ++ R)) (TX y) i = (R.take y.length == y) := by
  subst hi
  have e : fromIndex (TX (pre ++ R)).length (pre.length : Int) = pre.length := by
    unfold fromIndex
    rw [if_neg (by omega)]
    omega
  unfold Txt.startswith3
  rw [e, StrLaws.subAt_eq]
  have h1 : (TX (pre ++ R)).cps.toList.drop pre.length = R := by simp
  rw [h1, TX_len, TX_len]
  show (decide (pre.length + y.length ≤ (pre ++ R).length) && (R.take y.length == (TX y).cps.toList)) = _
  rw [TX_tl, List.length_append]
  by_cases h : y.length ≤ R.length
  · rw [decide_eq_true (by omega)]
    rfl
  · rw [decide_eq_false (by omega)]
    have : (R.take y.length == y) = false := by
      refine beq_eq_false_iff_ne.mpr fun q => h ?_
      have := congrArg List.length q
      rw [List.length_take] at this
      omega
    rw [this]
    rfl
/-- s.find("\n", i) -/
theorem find_nl {pre c r : List Nat} {d : Nat} {i : Int} (hi : i = (pre.length : Int)) (hc : d ∉ c) : Txt.find3 (TX (pre ++ (c ++ d :: r))) (TX [d]) i = ((pre.length + c.length : Nat) : Int) := by
  subst hi
  have e : fromIndex (TX (pre ++ (c ++ d :: r))).length (pre.length : Int) = pre.length := by
    unfold fromIndex
    rw [if_neg (by omega)]
    omega
  have hg : ∀ v, v < (pre ++ (c ++ d :: r)).length → (TX (pre ++ (c ++ d :: r))).cps.getD v 0 = (pre ++ (c ++ d :: r)).getD v 0 := fun v _ => getD_TX _ v
  have hat : (pre ++ (c ++ d :: r)).getD (pre.length + c.length) 0 = d := by simp [List.getD_eq_getElem?_getD]
  have hlt : pre.length + c.length < (pre ++ (c ++ d :: r)).length := by rw [List.length_append, List.length_append, List.length_cons]; omega
  rcases StrLaws.find3_spec (TX (pre ++ (c ++ d :: r))) d (pre.length : Int) with ⟨_, h2⟩ | ⟨k, h1, h2, h3, h4, h5⟩
  · rw [e, TX_len] at h2
    exact absurd (by rw [hg _ hlt]; exact hat) (h2 (pre.length + c.length) (by omega) hlt)
  · rw [e] at h2 h5
    rw [TX_len] at h3
    rw [h1]
    have hk : k = pre.length + c.length := by
      rcases Nat.lt_trichotomy k (pre.length + c.length) with q | q | q
      · exfalso
        rw [hg k h3] at h4
        have e3 : (pre ++ (c ++ d :: r)).getD k 0 = c.getD (k - pre.length) 0 := by
          rw [List.getD_eq_getElem?_getD, List.getD_eq_getElem?_getD, List.getElem?_append_right h2, List.getElem?_append_left (by omega)]
        rw [e3] at h4
        apply hc
        have hlt2 : k - pre.length < c.length := by omega
        rw [List.getD_eq_getElem?_getD, List.getElem?_eq_getElem hlt2] at h4
        have h4 : c[k - pre.length] = d := h4
        rw [← h4]
        exact List.getElem_mem hlt2
      · exact q
      · exfalso
        exact h5 (pre.length + c.length) (by omega) q (by rw [hg _ hlt]; exact hat)
    rw [hk]
/-- s[i:j] -/
theorem cut_mid {pre m r : List Nat} {i j : Int} (hi : i = (pre.length : Int)) (hj : j = ((pre.length + m.length : Nat) : Int)) : cutS (TX (pre ++ (m ++ r))) (some i) (some j) = TX m := by
  subst hi hj
  unfold cutS
  rw [TX_len, HT.sIx_nat, HT.sIx_nat, TX_tl]
  have e1 : min pre.length (pre ++ (m ++ r)).length = pre.length := by simp
  have e2 : min (pre.length + m.length) (pre ++ (m ++ r)).length = pre.length + m.length := by simp
  rw [e1, e2]
  refine congrArg TX ?_
  rw [List.drop_left, Nat.add_sub_cancel_left, List.take_left]

/-! ### rows -/
def rws : List Nat → List Nat → List (List Nat)
  | acc, [] => [acc]
  | acc, c :: r => if c = 10 then acc :: rws [] r else rws (acc ++ [c]) r
theorem spl_rws : ∀ (l acc : List Nat), TL.spl [10] 0 acc l = rws acc l
  | [], acc => by rw [TL.spl_nil]; rfl
  | c :: r, acc => by
    unfold rws
    by_cases h : c = 10
    · subst h
      rw [if_pos rfl, TL.spl_hit (by rfl)]
      exact congrArg (acc :: ·) (spl_rws r [])
    · rw [if_neg h, TL.spl_miss (by
        show TL.pre [10] (c :: r) = false
        unfold TL.pre
        simp [h])]
      exact spl_rws r _
theorem rws_ne : ∀ (l acc : List Nat), rws acc l ≠ []
  | [], acc => by unfold rws; simp
  | c :: r, acc => by
    unfold rws
    split
    · simp
    · exact rws_ne r _
def lnOf (l : List Nat) : Nat := (rws [] l).length
def clOf (l : List Nat) : Nat := ((rws [] l).getLast (rws_ne _ _)).length
theorem rws_plain : ∀ (l acc m : List Nat), 10 ∉ m → ∃ fr la, rws acc l = fr ++ [la] ∧ rws acc (l ++ m) = fr ++ [la ++ m]
  | [], acc, m, h => by
    refine ⟨[], acc, rfl, ?_⟩
    show rws acc m = [acc ++ m]
    induction m generalizing acc with
    | nil => rw [List.append_nil]; rfl
    | cons c m ih =>
      have hc : c ≠ 10 := fun e => h (by rw [e]; exact List.mem_cons_self)
      unfold rws
      rw [if_neg hc, ih _ fun e => h (List.mem_cons_of_mem _ e), List.append_assoc]
      rfl
  | c :: r, acc, m, h => by
    rw [List.cons_append]
    unfold rws
    by_cases hc : c = 10
    · rw [if_pos hc, if_pos hc]
      obtain ⟨fr, la, e1, e2⟩ := rws_plain r [] m h
      exact ⟨acc :: fr, la, by rw [e1]; rfl, by rw [e2]; rfl⟩
    · rw [if_neg hc, if_neg hc]
      exact rws_plain r _ m h
theorem rws_nl : ∀ (l acc : List Nat), rws acc (l ++ [10]) = rws acc l ++ [[]]
  | [], acc => by
    show rws acc [10] = [acc] ++ [[]]
    unfold rws
    rw [if_pos rfl]
    rfl
  | c :: r, acc => by
    rw [List.cons_append]
    unfold rws
    split
    · rw [rws_nl r []]; rfl
    · exact rws_nl r _
theorem getLast_of {α : Type} {l fr : List α} {la : α} (h : l ≠ []) (e : l = fr ++ [la]) : l.getLast h = la := by
  subst e
  simp
theorem ln_plain (l m : List Nat) (h : 10 ∉ m) : lnOf (l ++ m) = lnOf l := by
  obtain ⟨fr, la, e1, e2⟩ := rws_plain l [] m h
  unfold lnOf
  rw [e1, e2]
  simp
theorem cl_plain (l m : List Nat) (h : 10 ∉ m) : clOf (l ++ m) = clOf l + m.length := by
  obtain ⟨fr, la, e1, e2⟩ := rws_plain l [] m h
  unfold clOf
  rw [getLast_of _ e1, getLast_of _ e2, List.length_append]
theorem ln_nl (l : List Nat) : lnOf (l ++ [10]) = lnOf l + 1 := by
  unfold lnOf
  rw [rws_nl]
  simp
theorem cl_nl (l : List Nat) : clOf (l ++ [10]) = 0 := by
  unfold clOf
  rw [getLast_of _ (rws_nl l [])]
  rfl
theorem cl_le : ∀ l : List Nat, clOf l ≤ l.length := by
  intro l
  have : ∀ (l acc : List Nat), ((rws acc l).getLast (rws_ne _ _)).length ≤ acc.length + l.length := by
    intro l
    induction l with
    | nil => intro acc; simp [rws]
    | cons c r ih =>
      intro acc
      by_cases hc : c = 10
      · have e : rws acc (c :: r) = acc :: rws [] r := by
          show (if c = 10 then _ else _) = _
          rw [if_pos hc]
        have e2 : (rws acc (c :: r)).getLast (rws_ne _ _) = (rws [] r).getLast (rws_ne _ _) := by
          simp only [e]
          exact List.getLast_cons (rws_ne _ _)
        rw [e2]
        have := ih []
        simp at this ⊢
        omega
      · have e : rws acc (c :: r) = rws (acc ++ [c]) r := by
          show (if c = 10 then _ else _) = _
          rw [if_neg hc]
        have e2 : (rws acc (c :: r)).getLast (rws_ne _ _) = (rws (acc ++ [c]) r).getLast (rws_ne _ _) := by simp only [e]
        rw [e2]
        have := ih (acc ++ [c])
        simp at this ⊢
        omega
  have := this l []
  simpa [clOf] using this
/-- row = source.split("\n"): how many, and the last one's length -/
theorem split_rows (l : List Nat) : Txt.split (TX l) (TX [10]) = (rws [] l).map TX := by
  have := SX.split_S (a := l) (b := [10]) (by simp) (by decide)
  rw [spl_rws] at this
  exact this
theorem rows_last (l : List Nat) : ∃ la : List Nat, atI ((rws [] l).map fun r => V.str (TX r)) (-1) = some (.str (TX la)) ∧ la.length = clOf l := by
  refine ⟨(rws [] l).getLast (rws_ne _ _), ?_, rfl⟩
  have hp : 0 < (rws [] l).length := List.length_pos_iff.mpr (rws_ne _ _)
  unfold atI ixN
  rw [if_neg (by decide), if_pos (by rw [List.length_map]; omega)]
  show ((rws [] l).map fun r => V.str (TX r))[_]? = _
  have e : (-1 + (((rws [] l).map fun r => V.str (TX r)).length : Int)).toNat = (rws [] l).length - 1 := by rw [List.length_map]; omega
  rw [e, List.getElem?_map, List.getElem?_eq_getElem (by omega), List.getLast_eq_getElem]
  rfl

/-! ### signs -/
def isLet (c : Nat) : Bool := (decide (97 ≤ c) && decide (c ≤ 122)) || (decide (65 ≤ c) && decide (c ≤ 90))
def isDig (c : Nat) : Bool := decide (48 ≤ c) && decide (c ≤ 57)
def isWs (c : Nat) : Bool := isLet c || isDig c || decide (c = 95)
end VL

set_option Elab.async false
set_option linter.all false
set_option maxRecDepth 100000
set_option maxHeartbeats 4000000
namespace VL
open PySem PySem.Spec PyProof.Rows L2

/-! ### defs, methods, classes, as callers see them -/
structure Cal (P : Program) (w : World) (K : PySem.W.Frag) (mg : Str → Option Value) (base : Heap) (k : Nat) (x : Str) (sp : Sp) : Prop where
  ex : ∃ (f : Addr) (fd : FuncData) (ps : List Str), FnOk P w K mg base CX0 k f fd ps sp ∧ mg x = some (.ref f) ∧ PySem.W.keepIn K (.ref f) = true ∧ Binds K fd ps []
structure Met (P : Program) (w : World) (K : PySem.W.Frag) (mg : Str → Option Value) (base : Heap) (k : Nat) (C : Addr) (m : Str) (sp : Sp) : Prop where
  ex : ∃ (f : Addr) (fd : FuncData) (ps : List Str), Cls K C ∧ Meth K C m f ∧ FnOk P w K mg base CX0 k f fd ps sp ∧ Binds K fd ps []
structure Mak (P : Program) (w : World) (K : PySem.W.Frag) (mg : Str → Option Value) (base : Heap) (k : Nat) (x : Str) (C : Addr) (sp : Sp) : Prop where
  ex : ∃ (f : Addr) (fd : FuncData) (ps : List Str), Mk K C f ∧ FnOk P w K mg base CX0 k f fd ps sp ∧ mg x = some (.ref C) ∧ Binds K fd ps []
section
variable {X : Cx} {k j : Nat} {C : Addr} {x m : Str} {sp : Sp} {p pos apos : Pos} {e o : Expr} {es : List Expr} {ta : TE} {t : TA}
theorem pe_c (c : Cal X.prog X.w X.K X.mg X.base k x sp) (hr : Room j X.A) (hk : k ≤ j) (hg : Gl X x) (ha : PA X (e :: es) t)
    (hdb : (x == ("__debug__" : Str)) = false := by decide) (he : starEach (e :: es) X.env = (false, eval e X.env) :: starEach es X.env := by rfl) (hpl : (backTo pos (starEach es X.env)).any (·.1) = false := by rfl) :
    PE X (.Call (.Name x p) (e :: es) [] pos) (tCall sp [] E0 t) := by
  obtain ⟨f, fd, ps, F, hm, kp, b⟩ := c.ex
  exact pe_call F (hr.mono hk) hg hm kp b .nil pass0 ha hdb he hpl
theorem pe_mk (c : Mak X.prog X.w X.K X.mg X.base k x C sp) (hr : Room j X.A) (hk : k + 1 ≤ j) (hg : Gl X x) (ha : PA X (e :: es) t)
    (hdb : (x == ("__debug__" : Str)) = false := by decide) (he : starEach (e :: es) X.env = (false, eval e X.env) :: starEach es X.env := by rfl) (hpl : (backTo pos (starEach es X.env)).any (·.1) = false := by rfl) :
    PE X (.Call (.Name x p) (e :: es) [] pos) (tMake C sp [] E0 t) := by
  obtain ⟨f, fd, ps, M, F, hm, b⟩ := c.ex
  exact pe_make M F (hr.mono hk) hg hm b .nil pass0 ha hdb he hpl
theorem pe_mk0 (c : Mak X.prog X.w X.K X.mg X.base k x C sp) (hr : Room j X.A) (hk : k + 1 ≤ j) (hg : Gl X x) (hdb : (x == ("__debug__" : Str)) = false := by decide) :
    PE X (.Call (.Name x p) [] [] pos) (tMake C sp [] E0 tNil) := by
  obtain ⟨f, fd, ps, M, F, hm, b⟩ := c.ex
  exact pe_make0 M F (hr.mono hk) hg hm b .nil pass0 hdb
theorem pe_mt {pl : Sem Bool} (c : Met X.prog X.w X.K X.mg X.base k C m sp) (hr : Room j X.A) (hk : k ≤ j) (he : PE X o ta) (ha : PA X (e :: es) t)
    (hst : starEach (e :: es) X.env = (false, eval e X.env) :: starEach es X.env := by rfl) (hpl : (backTo pos (starEach es X.env)).any (·.1) = false := by rfl)
    (ht : eval (.Call (.Attribute o m apos) (e :: es) [] pos) X.env = (do
      let ov ← eval o X.env
      standAt apos.atName
      let (f, first) ← holding [ov] (getMethod ov m pl)
      callWith pos f first (backTo pos (starEach (e :: es) X.env)) (backToKw pos (keywordEach [] X.env))) := by rfl) :
    PE X (.Call (.Attribute o m apos) (e :: es) [] pos) (tMeth C m sp [] E0 ta t) := by
  obtain ⟨f, fd, ps, hc, hm, F, b⟩ := c.ex
  exact pe_meth (pl := pl) he hc hm F (hr.mono hk) b .nil pass0 ha hst hpl ht
theorem pe_mt0 {pl : Sem Bool} (c : Met X.prog X.w X.K X.mg X.base k C m sp) (hr : Room j X.A) (hk : k ≤ j) (he : PE X o ta)
    (ht : eval (.Call (.Attribute o m apos) [] [] pos) X.env = (do
      let ov ← eval o X.env
      standAt apos.atName
      let (f, first) ← holding [ov] (getMethod ov m pl)
      callWith pos f first (backTo pos (starEach [] X.env)) (backToKw pos (keywordEach [] X.env))) := by rfl) :
    PE X (.Call (.Attribute o m apos) [] [] pos) (tMeth C m sp [] E0 ta tNil) := by
  obtain ⟨f, fd, ps, hc, hm, F, b⟩ := c.ex
  exact pe_meth0 (pl := pl) he hc hm F (hr.mono hk) b .nil pass0 ht
end

/-! ### what the text has -/
def DefE (K : PySem.W.Frag) (mg : Str → Option Value) (x : Str) (st : Stmt) (ps : List Str) : Prop := ∃ (f : Addr) (fd : FuncData), Fun K x x st f fd ∧ mg x = some (.ref f) ∧ Binds K fd ps []
def MethE (K : PySem.W.Frag) (C : Addr) (x qual : Str) (st : Stmt) (ps : List Str) : Prop := ∃ (f : Addr) (fd : FuncData), Fun K x qual st f fd ∧ Meth K C x f ∧ Binds K fd ps []
def InitE (K : PySem.W.Frag) (mg : Str → Option Value) (cn : Str) (C : Addr) (qual : Str) (st : Stmt) (ps : List Str) : Prop := ∃ (f : Addr) (fd : FuncData), Fun K "__init__" qual st f fd ∧ Mk K C f ∧ mg cn = some (.ref C) ∧ Binds K fd ps []
/-- a global name of the module has the value v -/
abbrev GV (mg : Str → Option Value) (x : Str) (v : V) : Prop := ∃ u, mg x = some u ∧ RelV v u
section
variable {P : Program} {w : World} {K : PySem.W.Frag} {mg : Str → Option Value} {base : Heap}
theorem cal_of {x : Str} {st : Stmt} {ps N : List Str} {k : Nat} {sp : Sp} (D : DefE K mg x st ps) (S : FnScope N ps (defScope st)) (len : ∀ vs H Q E, sp vs H Q E → vs.length = ps.length)
    (hbody : ∀ (f : Addr) (cdv : Value) (A : Around) (outer : List Env) (s : Shared) (H : Hp) (vs : List V) (Q : VK) (E : XK), Room k (A.deeper (envOfC x (defScope st) s.heap.objs.size f cdv)) → sp vs H Q E →
      ∃ t, PSs (cxOf CX0 P w K mg base N x (defScope st) f cdv A outer s H E).nox (defBody st) t ∧ t { nx := fun _ H' => Q .non H', rt := Q } (start N vs) H) : Cal P w K mg base (k + 1) x sp := by
  obtain ⟨f, fd, F, hm, b⟩ := D
  exact ⟨f, fd, ps, F.ok S len (hbody f), hm, F.kp, b⟩
theorem met_of {C : Addr} {x qual : Str} {st : Stmt} {ps N : List Str} {k : Nat} {sp : Sp} (D : MethE K C x qual st ps) (c : Cls K C) (S : FnScope N ps (defScope st)) (len : ∀ vs H Q E, sp vs H Q E → vs.length = ps.length)
    (hbody : ∀ (f : Addr) (cdv : Value) (A : Around) (outer : List Env) (s : Shared) (H : Hp) (vs : List V) (Q : VK) (E : XK), Room k (A.deeper (envOfC qual (defScope st) s.heap.objs.size f cdv)) → sp vs H Q E →
      ∃ t, PSs (cxOf CX0 P w K mg base N qual (defScope st) f cdv A outer s H E).nox (defBody st) t ∧ t { nx := fun _ H' => Q .non H', rt := Q } (start N vs) H) : Met P w K mg base (k + 1) C x sp := by
  obtain ⟨f, fd, F, hm, b⟩ := D
  exact ⟨f, fd, ps, c, hm, F.ok S len (hbody f), b⟩
theorem mak_of {C : Addr} {cn qual : Str} {st : Stmt} {ps N : List Str} {k : Nat} {sp : Sp} (D : InitE K mg cn C qual st ps) (S : FnScope N ps (defScope st)) (len : ∀ vs H Q E, sp vs H Q E → vs.length = ps.length)
    (hbody : ∀ (f : Addr) (cdv : Value) (A : Around) (outer : List Env) (s : Shared) (H : Hp) (vs : List V) (Q : VK) (E : XK), Room k (A.deeper (envOfC qual (defScope st) s.heap.objs.size f cdv)) → sp vs H Q E →
      ∃ t, PSs (cxOf CX0 P w K mg base N qual (defScope st) f cdv A outer s H E).nox (defBody st) t ∧ t { nx := fun _ H' => Q .non H', rt := Q } (start N vs) H) : Mak P w K mg base (k + 1) cn C sp := by
  obtain ⟨f, fd, F, M, hm, b⟩ := D
  exact ⟨f, fd, ps, M, F.ok S len (hbody f), hm, b⟩
end
theorem ps_str_loc : True := trivial
end VL

set_option Elab.async false
set_option linter.all false
set_option maxRecDepth 100000
set_option maxHeartbeats 4000000
namespace VL
open PySem PySem.Spec PyProof.Rows L2 NdefX

/-! ### an own exception's __init__ that begins with super().__init__(..), over ValueError -/
abbrev supBody (p0 p1 p2 p3 p4 : Pos) (es : List Expr) (rest : List Stmt) : List Stmt := .Expr (.Call (.Attribute (.Call (.Name "super" p0) [] [] p1) "__init__" p2) es [] p3) p4 :: rest
section
variable {CX : CXT} {P : Program} {w : World} {K : PySem.W.Frag} {mg : Str → Option Value} {base : Heap} {k : Nat} {f D cc cda : Addr} {name qual : Str} {params : Arguments} {es : List Expr} {ar : Arg} {rest : List Stmt} {p0 p1 p2 p3 p4 : Pos} {scope : Scope}
  {dV kV doc pm ct oc cl ccl : Value} {od cld cdd an : Option Addr} {osl csl ccs : Array (Option Value)} {vsC : Array Value} {file : Str} {tf : Tok} {cdD : ClassData} {N ps : List Str} {sp : Sp}
/-- what the written part says of it -/
structure SupK (P : Program) (K : PySem.W.Frag) (mg : Str → Option Value) (f D cc cda : Addr) (fd : FuncData) (qual : Str) : Prop where
  lk : ∃ oc od osl, K.lookup f = some ⟨oc, od, .func fd, osl⟩
  cd : PySem.W.codeIn K (.ref cda) qual = true
  cell : ∃ cl cld csl, K.lookup cc = some ⟨cl, cld, .cell (some (.ref D)), csl⟩
  code : ∃ ccl cdd vsC ccs file tf, K.lookup cda = some ⟨ccl, cdd, .fields vsC, ccs⟩ ∧ vsC[2]? = some (.str file tf) ∧ ((P.main.file : Str) == file) = true
  cls : ∃ cdD, PySem.W.clsIn K D = some cdD
  sub : PySem.W.mroIn K D (.ref D) = some true
  zsuper : mg "super" = none
  ops : PySem.W.nsIn K cStatics "thirdparty.any" = some none
  along : PySem.W.ks_superIn K D D "__init__" = some (some (.builtin "ValueError.__init__"))
  subV : PySem.W.subIn K (.ref D) (.type "ValueError") = some true
  top : (P.main.scope.names.lookup ("super" : Str)).isSome = false
theorem fn_sup {fd : FuncData} (T : SupK P K mg f D cc cda fd qual) (O : OexC K D) (efd : fd = PySem.W.fnX name qual params (supBody p0 p1 p2 p3 p4 es rest) scope [("__class__", cc)] dV kV doc pm an (.ref cda) ct)
    (S : NScope N ps ["__class__"] scope) (har : (params.posonlyargs ++ params.args).head? = some ar) (hps : ps.head? = some ar.arg) (hks : scope.names.lookup ("super" : Str) = some .globalImplicit)
    (hsw : ∀ env : Env, swapsWith (.Call (.Attribute (.Call (.Name "super" p0) [] [] p1) "__init__" p2) es [] p3) none p4.line env = pure false)
    (hst : ∀ env : Env, (backTo p3 (starEach es env)).any (·.1) = false)
    (hee : ∀ env : Env, ∃ x r, backTo p3 (starEach es env) = (false, x) :: r)
    {pl : Sem Bool} (hev : ∀ env : Env, eval (.Call (.Attribute (.Call (.Name "super" p0) [] [] p1) "__init__" p2) es [] p3) env = (do
      let ov ← attributeBase (.Call (.Name "super" p0) [] [] p1) "__init__" env (eval (.Call (.Name "super" p0) [] [] p1) env)
      standAt p2.atName
      let (g, first) ← holding [ov] (getMethod ov "__init__" pl)
      callWith p3 g first (backTo p3 (starEach es env)) []))
    (len : ∀ vs H Q E, sp vs H Q E → vs.length = ps.length)
    (hbody : ∀ (A : Around) (outer : List Env) (s : Shared) (H : Hp) (vs : List V) (Q : VK) (E : XK), Room k (A.deeper (envF ⟨name, qual, params, supBody p0 p1 p2 p3 p4 es rest, scope, [("__class__", cc)], cda⟩ f s.heap.objs.size)) → sp vs H Q E →
      ∃ ta tr, PA (ncx CX P w K mg base N ⟨name, qual, params, supBody p0 p1 p2 p3 p4 es rest, scope, [("__class__", cc)], cda⟩ f A outer s H E) es ta ∧
        PSs (ncx CX P w K mg base N ⟨name, qual, params, supBody p0 p1 p2 p3 p4 es rest, scope, [("__class__", cc)], cda⟩ f A outer s H E) rest tr ∧
        ∃ (a : Addr) (vs' : List V), vs = .ref a :: vs' ∧ H a = some (exo a D none) ∧
          ta (startF N vs [some (.ref D)]) H fun ws H1 => ws.length ≤ 1000 ∧ H1 a = some (exo a D none) ∧ tr { nx := fun _ H' => Q .non H', rt := Q } (startF N vs [some (.ref D)]) H1) :
    FnOk P w K mg base CX (k + 1) f fd ps sp := by
  subst efd
  obtain ⟨oc, od, osl, lk⟩ := T.lk
  obtain ⟨cl, cld, csl, hcell⟩ := T.cell
  obtain ⟨ccl, cdd, vsC, ccs, file, tf, hcode, hvs, hfile⟩ := T.code
  obtain ⟨cdD, hD⟩ := T.cls
  refine ⟨len, fun A outer s H args us vs Q E hr e0 hb r hsp => ?_⟩
  have hl := len _ _ _ _ hsp
  have KX : K.In s.heap := e0.mod.kin.keeps fun b o q => (e0.bs b o q).1
  have lim : s.heap.NoLimit := e0.mod.nolimit.keeps fun b o e => (e0.bs b o e).1
  have C : CellsAt [("__class__", cc)] ["__class__"] [some (.ref D)] s.heap H := by
    have one : ∀ y c, [(("__class__" : Str), cc)].lookup y = some c → y = "__class__" ∧ c = cc := fun y c e => by
      by_cases h : y = ("__class__" : Str)
      · subst h
        have e2 : [(("__class__" : Str), cc)].lookup ("__class__" : Str) = some cc := by simp [List.lookup]
        rw [e2] at e
        exact ⟨rfl, (Option.some.inj e).symm⟩
      · have q : (y == ("__class__" : Str)) = false := by simpa using h
        simp [List.lookup, q] at e
    have hc : ∃ v, s.heap.IsCell cc v := ⟨_, _, KX _ _ hcell, rfl⟩
    have hcH : H cc = none := (e0.bs cc _ (e0.mod.kin _ _ hcell)).2
    refine ⟨rfl, fun y c e => ?_, fun x y c e1 e2 => ?_, fun i y e => ?_⟩
    · obtain ⟨_, rfl⟩ := one y c e
      exact ⟨hcH, hc⟩
    · rw [(one _ _ e1).1, (one _ _ e2).1]
    · cases i with
      | zero =>
        injection e with e
        subst e
        refine ⟨cc, by simp [List.lookup], fun v ev => ?_⟩
        injection ev with ev
        injection ev with ev
        subst ev
        exact ⟨_, rfl, _, KX _ _ hcell, rfl⟩
      | succ i => cases i <;> cases e
  refine PySem.ks_codeAny_call_defAt (body := supBody p0 p1 p2 p3 p4 es rest) hr.depth (KX _ _ lk) rfl lim (PySem.W.codeRec_of KX T.cd) rfl hb S.nocell (fun ⟨n, _⟩ hy => S.par n (List.of_mem_zip hy).1) (fun h₁ hns kp => ?_) S.co S.gen S.kind
  obtain ⟨ta, tr, hA, hR, a, vs', ev, ha0, hq⟩ := hbody A outer s H vs Q E (hr.deeper _) hsp
  generalize hF : (⟨name, qual, params, supBody p0 p1 p2 p3 p4 es rest, scope, [("__class__", cc)], cda⟩ : NF) = F at hA hR
  have I : Inv (ncx CX P w K mg base N F f A outer s H E) [] (startF N vs [some (.ref D)]) H { s with heap := h₁, toks := s.toks + (ps.zip us).length } := by
    subst hF
    exact inv_startN S hr.hd e0 hl r C hns kp
  have eenv : callEnv (PySem.W.fnX name qual params (supBody p0 p1 p2 p3 p4 es rest) scope [("__class__", cc)] dV kV doc pm an (.ref cda) ct) s.heap.objs.size f = envF F f s.heap.objs.size := by
    subst hF
    rfl
  rw [eenv]
  have fin : ∀ {σ' : L2.St} {H' : Hp} {v : V} {u : Value} {s' : Shared}, Inv (ncx CX P w K mg base N F f A outer s H E) [] σ' H' s' → L2.RelV v u → Q v H' → CE outer P w H s Q u s' :=
    fun {σ' H' v u s'} J rv q => ⟨v, H', J.os, J.bare, J.base, J.hok, rv, q⟩
  refine PySem.ks_wpAt_mono (Q := SP (ncx CX P w K mg base N F f A outer s H E) [] { nx := fun _ H' => Q .non H', rt := Q }) (E := (ncx CX P w K mg base N F f A outer s H E).xe) ?go (fun fl s' hs => ?en) (fun _ _ x => x)
  case en =>
    cases fl with
    | ret u =>
      obtain ⟨v, σ', H', J, rv, q⟩ := hs
      exact fin J rv q
    | next =>
      obtain ⟨σ', H', J, q⟩ := hs
      exact fin (v := V.non) (u := Value.none) J rfl q
    | brk =>
      obtain ⟨_, _, _, q⟩ := hs
      exact False.elim q
    | cont =>
      obtain ⟨_, _, _, q⟩ := hs
      exact False.elim q
  have ekind : ∀ x, (envF F f s.heap.objs.size).kindOf x = scope.names.lookup x := by
    subst hF
    intro x
    rfl
  refine PySem.ks_wpAt_execs_cons (PySem.ks_wpAt_Expr_any (PySem.ks_wpAt_MethodCall (pl := pl) ?_ (hev _)) I.quiet (hsw _))
  refine PySem.ks_wpAt_super_base (env := envF F f s.heap.objs.size) ((ekind _).trans hks) ((ekind _).trans (S.frk _ List.mem_cons_self)) rfl rfl (kp _ _ (KX _ _ lk)) rfl har (by subst hF; rfl) (kp _ _ (KX _ _ hcode)) rfl hvs hfile T.top ?_
  have escope : (envF F f s.heap.objs.size).scope = scope := by subst hF; rfl
  have ecells : (envF F f s.heap.objs.size).cells = [(("__class__" : Str), cc)] := by subst hF; rfl
  obtain ⟨mb, b1, b2⟩ := e0.mod.blt
  have kb : ∀ b o, base.get? b = some o → h₁.get? b = some o := fun b o q => kp b o (e0.bs b o q).1
  have X₁ : K.In h₁ := KX.keeps kp
  have hgl := e0.mod.glob.keeps kb
  have hbl := b1.keeps kb
  refine PySem.W.ks_loadName_global (by rw [escope]; exact S.kind) ((ekind _).trans hks) (Calls.loadGlobal_builtin hgl T.zsuper hbl ((b2 _ (by decide +kernel)).trans Boot.«super») ⟨rfl, ?_⟩)
  refine wpAny_loadName_free (by rw [escope]; exact S.kind) ((ekind _).trans (S.frk _ List.mem_cons_self)) (c := cc) (v := .ref D) (by rw [ecells]; simp [List.lookup]) ⟨_, X₁ _ _ hcell, rfl⟩ ?_
  have hself : (ps.zip us).reverse.lookup ar.arg = some (.ref a) := by
    subst ev
    cases ps with
    | nil => cases hps
    | cons p ps' =>
      injection hps with hps
      subst hps
      cases r with
      | @cons _ u0 _ ur ra rw' =>
        obtain rfl : u0 = Value.ref a := ra
        have nd : (ar.arg :: ps').Nodup := by
          have q := S.nd.sublist (List.take_sublist ((ar.arg :: ps').length + [("__class__" : Str)].length) N)
          rw [S.pre] at q
          exact (List.nodup_append.mp q).1
        exact zip_look (i := 0) nd rfl rfl
  have hpar : scope.names.lookup ar.arg = some .local := by
    refine S.par _ ?_
    cases ps with
    | nil => cases hps
    | cons p ps' =>
      injection hps with hps
      subst hps
      exact List.mem_cons_self
  refine wpAny_loadName_local (by rw [escope]; exact S.kind) ((ekind _).trans hpar) hns hself ?_
  obtain ⟨oD, hD1, hD2⟩ : ∃ oD, h₁.get? D = some oD ∧ oD.data = .cls cdD := by
    have z := hD
    unfold PySem.W.clsIn at z
    split at z
    · rename_i ho
      cases z
      exact ⟨_, X₁ _ _ ho, rfl⟩
    · cases z
  refine PySem.ks_wpAny_isType_cls hD1 hD2 ⟨rfl, ?_⟩
  obtain ⟨t1, hoa⟩ := exo_at I.hok ha0
  refine PySem.ks_wpAny_call_super hD1 hD2 hoa rfl (fun c e => by cases e) (PySem.W.looks_mroIn X₁ T.sub) (fun h₂ e2 k2 => ?_)
  have I2 := I.kept (t' := s.toks + (ps.zip us).length) k2
  have X₂ : K.In h₂ := X₁.keeps k2
  have IA : PySem.W.InstAt h₂ a { cls := .ref D, dict := none, data := .fields #[.ref t1, .none, .none, .none, .bool false, .none] } D none := ⟨k2 _ _ hoa, rfl, rfl, trivial⟩
  have hal := T.along
  unfold PySem.W.ks_superIn at hal
  rw [hD] at hal
  have hmro : PySem.W.Looks (model P w) h₂ (mroOf (.ref D)) cdD.mro := fun A Q E s k q => wpAny_bind ((PySem.W.looks_clsIn X₂ hD) A _ E s k (wpAny_pure q))
  refine PySem.W.kxs_getMethod PySem.W.kxs_ValueError e2 (PySem.W.looks_opaque X₂ T.ops) hmro rfl X₂ hal (IA.type.andThen (PySem.W.looks_subIn X₂ T.subV)) (PySem.W.ks_ne X₂ IA hD) rfl ?_
  have kmw : ∀ b o, h₂.get? b = some o → (h₂.push (PySem.W.kxs_mw "ValueError.__init__" a)).get? b = some o := fun b o q => Heap.get?_push_of_some _ q
  have I3 : Inv (ncx CX P w K mg base N F f A outer s H E) [(h₂.objs.size, PySem.W.kxs_mw "ValueError.__init__" a)] (startF N vs [some (.ref D)]) H { s with heap := h₂.push (PySem.W.kxs_mw "ValueError.__init__" a), toks := s.toks + (ps.zip us).length + 1 } := by
    refine (I2.kept (t' := s.toks + (ps.zip us).length + 1) kmw).pins_of fun p hp => ?_
    rw [List.mem_singleton.mp hp]
    exact ⟨Heap.get?_push_at rfl rfl, I2.hok.fresh (Nat.le_refl _), Nat.ne_of_gt I2.lt, I2.nofs (Nat.le_refl _), fun v e => by cases e⟩
  refine PySem.W.kxs_callWith (i := "ValueError.__init__") (x := a) (hst _) ?_
  obtain ⟨x0, r0, hx⟩ := hee (envF F f s.heap.objs.size)
  rw [hx]
  refine Calls.evalArgs_plain ?_
  rw [← hx]
  refine thn (hA.run p3 _ _ _ H _ I3 hq) (fun us1 s4 ⟨ws, H1, I4, r1, hz, ha1, hrest⟩ => ⟨(I4.pin (h₂.objs.size, PySem.W.kxs_mw "ValueError.__init__" a) (List.mem_append_right _ List.mem_cons_self)).1, ?_⟩)
  have hu := (I4.pin (h₂.objs.size, PySem.W.kxs_mw "ValueError.__init__" a) (List.mem_append_right _ List.mem_cons_self)).1
  have I5 : Inv (ncx CX P w K mg base N F f A outer s H E) [] (startF N vs [some (.ref D)]) H1 s4 := I4.pins_of fun p hp => by cases hp
  obtain ⟨nm, q, Nn, bs, bm, sn, sub, ab, col, dd, k0, k1, k2', k3, k5, hC, hbm⟩ := O.cls
  obtain ⟨t2, ho⟩ := exo_at I5.hok ha1
  have hus : us1.length ≤ sizeLine := by
    rw [← Paired.length r1]
    exact Nat.le_trans hz (by decide)
  have kin4 := I5.kIn
  obtain ⟨hp, g, d, tk, os⟩ := s4
  refine wpAny_call (codeAny_of_tree ?_)
  show wpAny _ (A.deeper (envF F f s.heap.objs.size)).in1 (callAny (.ref h₂.objs.size) ⟨us1, []⟩) _ _ _
  simp only [callAny]
  refine wpAny_bind (wpAny_load hu ?_)
  simp only [PySem.W.kxs_mw, show (Value.type "method-wrapper" == Value.type "method" || Value.type "method-wrapper" == Value.type "builtin_function_or_method" || Value.type "method-wrapper" == Value.type "method-wrapper") = true by decide, if_true]
  refine PySem.W.KFB.if_so (by decide) ?_
  refine wpAny_bind (PySem.W.check_bound_init PySem.F.excBase_ValueError.toExcCallFacts (kin4 _ _ hC) ho rfl ?_)
  refine wpAny_bind (wpAny_pure (wpAny_pure ?_))
  refine ⟨plainId_quiet PySem.F.excBase_ValueError.init.plain _, codeAny_builtin PySem.F.excBase_ValueError.initEntry ?_⟩
  refine PySem.W.exc_init_tree (cls := .ref D) (t0 := t2) (dv := none) (c2 := .none) (c3 := .none) (b4 := .bool false) ho hus fun h' kk e' _ => ?_
  have J := I5.write (t' := tk) (x := a) (e := a) (o := exo a D none) (by rw [ha1]; exact True.intro) (.inl rfl) kk ⟨_, e'⟩ (exo_ok e')
  have eu : upd H1 a (exo a D none) = H1 := by
    funext b
    by_cases hb : b = a
    · rw [hb, upd_same, ha1]
    · rw [upd_ne hb]
  rw [eu] at J
  exact wpAt_of_wpAny (hR.run [] _ _ H1 _ J hrest)
end
end VL

set_option Elab.async false
set_option linter.all false
set_option maxRecDepth 100000
set_option maxHeartbeats 4000000
namespace VL
open PySem PySem.Spec PyProof.Rows L2 NdefX

/-! ### isinstance of a caught error that has a dict -/
theorem call_isED {X : Cx} {a D : Addr} {oe : Obj} {cls : Value} {d : Option Addr} {pn : List (Addr × Obj)} (C : ExcC X.K D) (hz : Zc cls d oe) (hf : ∃ vs, oe.data = .fields vs) :
    CallR (X.suite a ((a, oe) :: pn)) (.builtin "isinstance") (fun xs H Q => cls = .ref D ∧ ∃ (dd : Addr) (fs : List (Str × V)) (c : V) (cv : Value) (b : Bool), d = some dd ∧ H dd = some (.xd fs) ∧ xs = [.ref a, c] ∧ (∀ u, RelV c u → u = cv) ∧ PySem.W.kitOne X.K (.ref D) cv = some b ∧ Q (.bl b) H) := by
  intro pins s σ H xs us Q I r h
  obtain ⟨ec, dd, fs, c, cv, b, ed, ea, ex, hcv, e, q⟩ := h
  subst ec ed ex
  cases r with
  | cons rx rr =>
    cases rr with
    | cons rt rr =>
      cases rr
      cases rx
      obtain rfl := hcv _ rt
      have hp := (I.pin (a, oe) (List.mem_append_left _ List.mem_cons_self)).1
      obtain ⟨vs, hv⟩ := hf
      have hx : ObjOk X.prog X.w H s.heap dd (.xd fs) := I.hok dd _ ea
      obtain ⟨mA, hns, _⟩ := hx
      obtain ⟨od, ho, _⟩ := lookIn_ns hns
      have J : PySem.W.InstAt s.heap a oe D (some od) := ⟨hp, hz.1, by unfold PySem.W.notCls; rw [hv] <;> rfl, by rw [hz.2]; exact ho⟩
      have hcl : (PySem.W.clsIn X.K D).isSome = true := by
        obtain ⟨cd, hc, _⟩ := PySem.W.any_some C.hd
        rw [hc]
        rfl
      exact PySem.W.kia_one (PySem.W.kitx_exc (ox := oe) (od := some od) hcl C.hg C.hk C.hs C.ha C.hn C.ht C.hm) I.kIn J e (fun z => nomatch z) fun tk => ⟨.bl b, H, I.kept (t' := tk) fun _ _ z => z, rfl, q⟩
end VL

set_option Elab.async false
set_option linter.all false
set_option maxRecDepth 100000
set_option maxHeartbeats 4000000
namespace VL
open PySem PySem.Spec PyProof.Rows L2

/-! ### defs and methods that may raise -/
structure CalX (P : Program) (w : World) (K : PySem.W.Frag) (mg : Str → Option Value) (base : Heap) (k : Nat) (x : Str) (sp : Sp) : Prop where
  ex : ∃ (f : Addr) (fd : FuncData) (ps : List Str), FnOk P w K mg base (L2.CX P w) k f fd ps sp ∧ mg x = some (.ref f) ∧ PySem.W.keepIn K (.ref f) = true ∧ Binds K fd ps []
structure MetX (P : Program) (w : World) (K : PySem.W.Frag) (mg : Str → Option Value) (base : Heap) (k : Nat) (C : Addr) (m : Str) (sp : Sp) : Prop where
  ex : ∃ (f : Addr) (fd : FuncData) (ps : List Str), Cls K C ∧ Meth K C m f ∧ FnOk P w K mg base (L2.CX P w) k f fd ps sp ∧ Binds K fd ps []
structure MakX (P : Program) (w : World) (K : PySem.W.Frag) (mg : Str → Option Value) (base : Heap) (k : Nat) (x : Str) (C : Addr) (sp : Sp) : Prop where
  ex : ∃ (f : Addr) (fd : FuncData) (ps : List Str), Mk K C f ∧ FnOk P w K mg base (L2.CX P w) k f fd ps sp ∧ mg x = some (.ref C) ∧ Binds K fd ps []
section
variable {X : Cx} {k j : Nat} {C : Addr} {x m : Str} {sp : Sp} {E : XK} {p pos apos : Pos} {e o : Expr} {es : List Expr} {ta : TE} {t : TA}
theorem pe_cX (hx : Passes (L2.CX X.prog X.w) X E) (c : CalX X.prog X.w X.K X.mg X.base k x sp) (hr : Room j X.A) (hk : k ≤ j) (hg : Gl X x) (ha : PA X (e :: es) t)
    (hdb : (x == ("__debug__" : Str)) = false := by decide) (he : starEach (e :: es) X.env = (false, eval e X.env) :: starEach es X.env := by rfl) (hpl : (backTo pos (starEach es X.env)).any (·.1) = false := by rfl) :
    PE X (.Call (.Name x p) (e :: es) [] pos) (tCall sp [] E t) := by
  obtain ⟨f, fd, ps, F, hm, kp, b⟩ := c.ex
  exact pe_call F (hr.mono hk) hg hm kp b .nil hx ha hdb he hpl
theorem pe_mkX (hx : Passes (L2.CX X.prog X.w) X E) (c : MakX X.prog X.w X.K X.mg X.base k x C sp) (hr : Room j X.A) (hk : k + 1 ≤ j) (hg : Gl X x) (ha : PA X (e :: es) t)
    (hdb : (x == ("__debug__" : Str)) = false := by decide) (he : starEach (e :: es) X.env = (false, eval e X.env) :: starEach es X.env := by rfl) (hpl : (backTo pos (starEach es X.env)).any (·.1) = false := by rfl) :
    PE X (.Call (.Name x p) (e :: es) [] pos) (tMake C sp [] E t) := by
  obtain ⟨f, fd, ps, M, F, hm, b⟩ := c.ex
  exact pe_make M F (hr.mono hk) hg hm b .nil hx ha hdb he hpl
theorem pe_mtX {pl : Sem Bool} (hx : Passes (L2.CX X.prog X.w) X E) (c : MetX X.prog X.w X.K X.mg X.base k C m sp) (hr : Room j X.A) (hk : k ≤ j) (he : PE X o ta) (ha : PA X (e :: es) t)
    (hst : starEach (e :: es) X.env = (false, eval e X.env) :: starEach es X.env := by rfl) (hpl : (backTo pos (starEach es X.env)).any (·.1) = false := by rfl)
    (ht : eval (.Call (.Attribute o m apos) (e :: es) [] pos) X.env = (do
      let ov ← eval o X.env
      standAt apos.atName
      let (f, first) ← holding [ov] (getMethod ov m pl)
      callWith pos f first (backTo pos (starEach (e :: es) X.env)) (backToKw pos (keywordEach [] X.env))) := by rfl) :
    PE X (.Call (.Attribute o m apos) (e :: es) [] pos) (tMeth C m sp [] E ta t) := by
  obtain ⟨f, fd, ps, hc, hm, F, b⟩ := c.ex
  exact pe_meth (pl := pl) he hc hm F (hr.mono hk) b .nil hx ha hst hpl ht
theorem pe_mtX0 {pl : Sem Bool} (hx : Passes (L2.CX X.prog X.w) X E) (c : MetX X.prog X.w X.K X.mg X.base k C m sp) (hr : Room j X.A) (hk : k ≤ j) (he : PE X o ta)
    (ht : eval (.Call (.Attribute o m apos) [] [] pos) X.env = (do
      let ov ← eval o X.env
      standAt apos.atName
      let (f, first) ← holding [ov] (getMethod ov m pl)
      callWith pos f first (backTo pos (starEach [] X.env)) (backToKw pos (keywordEach [] X.env))) := by rfl) :
    PE X (.Call (.Attribute o m apos) [] [] pos) (tMeth C m sp [] E ta tNil) := by
  obtain ⟨f, fd, ps, hc, hm, F, b⟩ := c.ex
  exact pe_meth0 (pl := pl) he hc hm F (hr.mono hk) b .nil hx ht
end
section
variable {P : Program} {w : World} {K : PySem.W.Frag} {mg : Str → Option Value} {base : Heap}
theorem okX_of {x qual : Str} {st : Stmt} {ps N : List Str} {f : Addr} {fd : FuncData} {k : Nat} {sp : Sp} (F : Fun K x qual st f fd) (S : FnScope N ps (defScope st)) (len : ∀ vs H Q E, sp vs H Q E → vs.length = ps.length)
    (hbody : ∀ (f : Addr) (cdv : Value) (A : Around) (outer : List Env) (s : Shared) (H : Hp) (vs : List V) (Q : VK) (E : XK), Room k (A.deeper (envOfC qual (defScope st) s.heap.objs.size f cdv)) → sp vs H Q E →
      ∃ t, PSs (cxOf (L2.CX P w) P w K mg base N qual (defScope st) f cdv A outer s H E) (defBody st) t ∧ t { nx := fun _ H' => Q .non H', rt := Q } (start N vs) H) : FnOk P w K mg base (L2.CX P w) (k + 1) f fd ps sp :=
  F.okX S len (hbody f)
theorem calX_of {x : Str} {st : Stmt} {ps N : List Str} {k : Nat} {sp : Sp} (D : DefE K mg x st ps) (S : FnScope N ps (defScope st)) (len : ∀ vs H Q E, sp vs H Q E → vs.length = ps.length)
    (hbody : ∀ (f : Addr) (cdv : Value) (A : Around) (outer : List Env) (s : Shared) (H : Hp) (vs : List V) (Q : VK) (E : XK), Room k (A.deeper (envOfC x (defScope st) s.heap.objs.size f cdv)) → sp vs H Q E →
      ∃ t, PSs (cxOf (L2.CX P w) P w K mg base N x (defScope st) f cdv A outer s H E) (defBody st) t ∧ t { nx := fun _ H' => Q .non H', rt := Q } (start N vs) H) : CalX P w K mg base (k + 1) x sp := by
  obtain ⟨f, fd, F, hm, b⟩ := D
  exact ⟨f, fd, ps, okX_of F S len hbody, hm, F.kp, b⟩
theorem metX_of {C : Addr} {x qual : Str} {st : Stmt} {ps N : List Str} {k : Nat} {sp : Sp} (D : MethE K C x qual st ps) (c : Cls K C) (S : FnScope N ps (defScope st)) (len : ∀ vs H Q E, sp vs H Q E → vs.length = ps.length)
    (hbody : ∀ (f : Addr) (cdv : Value) (A : Around) (outer : List Env) (s : Shared) (H : Hp) (vs : List V) (Q : VK) (E : XK), Room k (A.deeper (envOfC qual (defScope st) s.heap.objs.size f cdv)) → sp vs H Q E →
      ∃ t, PSs (cxOf (L2.CX P w) P w K mg base N qual (defScope st) f cdv A outer s H E) (defBody st) t ∧ t { nx := fun _ H' => Q .non H', rt := Q } (start N vs) H) : MetX P w K mg base (k + 1) C x sp := by
  obtain ⟨f, fd, F, hm, b⟩ := D
  exact ⟨f, fd, ps, c, hm, okX_of F S len hbody, b⟩
theorem makX_of {C : Addr} {cn qual : Str} {st : Stmt} {ps N : List Str} {k : Nat} {sp : Sp} (D : InitE K mg cn C qual st ps) (S : FnScope N ps (defScope st)) (len : ∀ vs H Q E, sp vs H Q E → vs.length = ps.length)
    (hbody : ∀ (f : Addr) (cdv : Value) (A : Around) (outer : List Env) (s : Shared) (H : Hp) (vs : List V) (Q : VK) (E : XK), Room k (A.deeper (envOfC qual (defScope st) s.heap.objs.size f cdv)) → sp vs H Q E →
      ∃ t, PSs (cxOf (L2.CX P w) P w K mg base N qual (defScope st) f cdv A outer s H E) (defBody st) t ∧ t { nx := fun _ H' => Q .non H', rt := Q } (start N vs) H) : MakX P w K mg base (k + 1) cn C sp := by
  obtain ⟨f, fd, F, M, hm, b⟩ := D
  exact ⟨f, fd, ps, M, okX_of F S len hbody, hm, b⟩
end
/-- what leaves a def that may raise -/
abbrev thruX {P : Program} {w : World} {K : PySem.W.Frag} {mg : Str → Option Value} {base : Heap} {N : List Str} {qual : Str} {scope : Scope} {f : Addr} {cdv : Value} {A : Around} {outer : List Env} {s : Shared} {H : Hp} {E : XK} :
    Passes (L2.CX P w) (cxOf (L2.CX P w) P w K mg base N qual scope f cdv A outer s H E) E := passes_call (W := fun cls d _ H => E cls d H) (takes_of rfl rfl rfl rfl) fun _ _ _ _ h => h
abbrev takeX {P : Program} {w : World} {K : PySem.W.Frag} {mg : Str → Option Value} {base : Heap} {N : List Str} {qual : Str} {scope : Scope} {f : Addr} {cdv : Value} {A : Around} {outer : List Env} {s : Shared} {H : Hp} {E : XK} :
    Takes (cxOf (L2.CX P w) P w K mg base N qual scope f cdv A outer s H E) (fun cls d _ H => E cls d H) := takes_of rfl rfl rfl rfl
end VL

set_option Elab.async false
set_option linter.all false
set_option maxRecDepth 100000
set_option maxHeartbeats 4000000
namespace VL
open PySem PySem.Spec PyProof.Rows L2

def top (i : Nat) : Stmt := PySem.Challenge.pw_viewloom_k02_faults_of_tokens.main.body.getD i (.Pass ⟨0, 0, 0, 0⟩)
abbrev s_InvalidSource___init__ : Stmt := inClass (top 2) 0
abbrev s_InvalidProgram___init__ : Stmt := inClass (top 3) 0
abbrev s_is_name : Stmt := top 7
abbrev s_is_capital : Stmt := top 8
abbrev s_is_tag : Stmt := top 9
abbrev s_sign_level : Stmt := top 10
abbrev s_is_letter : Stmt := top 11
abbrev s_is_digit : Stmt := top 12
abbrev s_tokens : Stmt := top 20
abbrev s_is_word_sign : Stmt := top 21
abbrev s_Scanner___init__ : Stmt := inClass (top 22) 0
abbrev s_Scanner_column_of : Stmt := inClass (top 22) 1
abbrev s_Scanner_fail : Stmt := inClass (top 22) 2
abbrev s_Scanner_skip : Stmt := inClass (top 22) 3
abbrev s_Scanner_token : Stmt := inClass (top 22) 4
abbrev s_Scanner_next_sort : Stmt := inClass (top 22) 5
abbrev s_Scanner_take_word : Stmt := inClass (top 22) 6
abbrev s_Scanner_take_until : Stmt := inClass (top 22) 7
abbrev s_Scanner_take_name : Stmt := inClass (top 22) 8
abbrev s_Scanner_take_number : Stmt := inClass (top 22) 9
abbrev s_Scanner_take_sign : Stmt := inClass (top 22) 10
abbrev s_Scanner_take_text : Stmt := inClass (top 22) 11
abbrev s_Scanner_text_end : Stmt := inClass (top 22) 12
abbrev s_Cursor___init__ : Stmt := inClass (top 26) 0
abbrev s_Cursor_sort_here : Stmt := inClass (top 26) 1
abbrev s_Cursor_word_here : Stmt := inClass (top 26) 2
abbrev s_Cursor_place : Stmt := inClass (top 26) 3
abbrev s_Cursor_mark : Stmt := inClass (top 26) 4
abbrev s_Cursor_fail : Stmt := inClass (top 26) 5
abbrev s_Cursor_miss : Stmt := inClass (top 26) 6
abbrev s_Cursor_step : Stmt := inClass (top 26) 7
abbrev s_Cursor_sees : Stmt := inClass (top 26) 8
abbrev s_Cursor_sees_name : Stmt := inClass (top 26) 9
abbrev s_Cursor_sees_capital : Stmt := inClass (top 26) 10
abbrev s_Cursor_sees_tag : Stmt := inClass (top 26) 11
abbrev s_Cursor_take : Stmt := inClass (top 26) 12
abbrev s_Cursor_need : Stmt := inClass (top 26) 13
abbrev s_Cursor_need_tag : Stmt := inClass (top 26) 14
abbrev s_Cursor_down : Stmt := inClass (top 26) 15
abbrev s_Cursor_up : Stmt := inClass (top 26) 16
abbrev s_read_name : Stmt := top 27
abbrev s_read_more : Stmt := top 28
abbrev s_read_row : Stmt := top 29
abbrev s_read_braces : Stmt := top 30
abbrev s_read_constant : Stmt := top 32
abbrev s_read_negative : Stmt := top 33
abbrev s_read_constant_record : Stmt := top 34
abbrev s_read_constant_field : Stmt := top 35
abbrev s_made : Stmt := top 38
abbrev s_plain : Stmt := top 39
abbrev s_read_plain : Stmt := top 40
abbrev s_read_expression : Stmt := top 41
abbrev s_read_below : Stmt := top 42
abbrev s_read_binary : Stmt := top 43
abbrev s_read_unary : Stmt := top 44
abbrev s_read_postfix : Stmt := top 45
abbrev s_read_field : Stmt := top 46
abbrev s_read_path : Stmt := top 47
abbrev s_read_between : Stmt := top 48
abbrev s_read_arguments : Stmt := top 49
abbrev s_read_primary : Stmt := top 50
abbrev s_read_named : Stmt := top 51
abbrev s_read_call : Stmt := top 52
abbrev s_read_pair : Stmt := top 53
abbrev s_read_list : Stmt := top 54
abbrev s_read_gathering : Stmt := top 55
abbrev s_read_nodes : Stmt := top 57
abbrev s_read_node : Stmt := top 58
abbrev s_read_braced : Stmt := top 59
abbrev s_read_if : Stmt := top 60
abbrev s_read_each : Stmt := top 61
abbrev s_read_tagged : Stmt := top 62
abbrev s_read_attribute : Stmt := top 63
abbrev s_read_act : Stmt := top 64
abbrev s_read_kids : Stmt := top 65
abbrev s_read_block : Stmt := top 67
abbrev s_read_statement : Stmt := top 68
abbrev s_read_simple : Stmt := top 69
abbrev s_read_compound : Stmt := top 70
abbrev s_parse_program : Stmt := top 72
abbrev s_read_line : Stmt := top 73
abbrev s_read_component : Stmt := top 74
abbrev s_read_names : Stmt := top 75
abbrev s_read_contexts : Stmt := top 76
abbrev s_read_cells : Stmt := top 77
abbrev s_read_definitions : Stmt := top 78
abbrev s_read_handlers : Stmt := top 79
abbrev s_read_effects : Stmt := top 80
abbrev s__law_cell : Stmt := top 82
abbrev s__law_is_integer : Stmt := top 83
abbrev s__law_start : Stmt := top 84
abbrev s__law_digit : Stmt := top 85
abbrev s__law_head : Stmt := top 86
abbrev s__law_bad : Stmt := top 87
abbrev s__law_refused : Stmt := top 88
abbrev s_law : Stmt := top 89

abbrev pairsL : List (List Nat) := [[61, 61], [33, 61], [60, 61], [62, 61], [38, 38], [124, 124], [47, 62]]
abbrev singlesL : List Nat := [43, 45, 42, 47, 60, 62, 61, 33, 63, 58, 46, 44, 59, 40, 41, 91, 93, 123, 125]
structure Txt (K : PySem.W.Frag) (w : World) (mg : Str → Option Value) (C : Addr) : Prop where
  cl : Cls K C
  n_source : NoAttr K C "source"
  n_end : NoAttr K C "length"
  n_at : NoAttr K C "at"
  n_line : NoAttr K C "line"
  n_line_begin : NoAttr K C "line_begin"
  z_len : mg "len" = none
  z_int : mg "int" = none
  z_str : mg "str" = none
  z_bool : mg "bool" = none
  z_list : mg "list" = none
  z_tuple : mg "tuple" = none
  z_isinstance : mg "isinstance" = none
  z_range : mg "range" = none
  z_min : mg "min" = none
  z_max : mg "max" = none
  g_LONGEST_SOURCE : GV mg "LONGEST_SOURCE" (.int 20000)
  g_LARGEST_NUMBER : GV mg "LARGEST_NUMBER" (.int 1000000000000000000000000000000)
  g_MOST_DIGITS : GV mg "MOST_DIGITS" (.int 31)
  g_SINGLES : GV mg "SINGLES" (.str (TX singlesL))
  t_PAIRS : ∃ a, GV mg "PAIRS" (.ref a) ∧ ∀ H, SqT K H a (pairsL.map fun l => V.str (TX l))
  t_ESCAPES : ∃ a es n, GV mg "ESCAPES" (.ref a) ∧ KDict K w a es n ∧ (∃ u, PySem.W.nsIn K a (TX [34]) = some (some u) ∧ RelV (.str (TX [34])) u) ∧ (∃ u, PySem.W.nsIn K a (TX [92]) = some (some u) ∧ RelV (.str (TX [92])) u) ∧
    ∃ u, PySem.W.nsIn K a (TX [110]) = some (some u) ∧ RelV (.str (TX [10])) u
  d_is_letter : DefE K mg "is_letter" s_is_letter ["sign"]
  d_is_digit : DefE K mg "is_digit" s_is_digit ["sign"]
  d_is_word_sign : DefE K mg "is_word_sign" s_is_word_sign ["sign"]
  d_tokens : DefE K mg "tokens" s_tokens ["source"]
  i_Scanner : InitE K mg "Scanner" C "Scanner.__init__" s_Scanner___init__ ["self", "source"]
  m_column_of : MethE K C "column_of" "Scanner.column_of" s_Scanner_column_of ["self", "at"]
  m_skip : MethE K C "skip" "Scanner.skip" s_Scanner_skip ["self"]
  m_token : MethE K C "token" "Scanner.token" s_Scanner_token ["self"]
  m_next_sort : MethE K C "next_sort" "Scanner.next_sort" s_Scanner_next_sort ["self"]
  m_take_word : MethE K C "take_word" "Scanner.take_word" s_Scanner_take_word ["self", "sort"]
  m_take_until : MethE K C "take_until" "Scanner.take_until" s_Scanner_take_until ["self", "end"]
  m_take_name : MethE K C "take_name" "Scanner.take_name" s_Scanner_take_name ["self"]
  m_take_number : MethE K C "take_number" "Scanner.take_number" s_Scanner_take_number ["self"]
  m_take_sign : MethE K C "take_sign" "Scanner.take_sign" s_Scanner_take_sign ["self"]
  m_take_text : MethE K C "take_text" "Scanner.take_text" s_Scanner_take_text ["self"]
  m_text_end : MethE K C "text_end" "Scanner.text_end" s_Scanner_text_end ["self"]

/-! ### a scanner -/
def fsS (src : List Nat) (e at_ ln lb : Int) : List (Str × V) := [("source", .str (TX src)), ("length", .int e), ("at", .int at_), ("line", .int ln), ("line_begin", .int lb)]
section
variable (src : List Nat) (e at_ ln lb z : Int)
theorem fs_source : (fsS src e at_ ln lb).lookup ("source" : Str) = some (.str (TX src)) := by rfl
theorem fs_end : (fsS src e at_ ln lb).lookup ("length" : Str) = some (.int e) := by rfl
theorem fs_at : (fsS src e at_ ln lb).lookup ("at" : Str) = some (.int at_) := by rfl
theorem fs_line : (fsS src e at_ ln lb).lookup ("line" : Str) = some (.int ln) := by rfl
theorem fs_line_begin : (fsS src e at_ ln lb).lookup ("line_begin" : Str) = some (.int lb) := by rfl
theorem put_at : putF "at" (.int z) (fsS src e at_ ln lb) = fsS src e z ln lb := by rfl
theorem put_line : putF "line" (.int z) (fsS src e at_ ln lb) = fsS src e at_ z lb := by rfl
theorem put_line_begin : putF "line_begin" (.int z) (fsS src e at_ ln lb) = fsS src e at_ ln z := by rfl
end
end VL

set_option Elab.async false
set_option linter.all false
set_option maxRecDepth 100000
set_option maxHeartbeats 4000000
namespace VL
open PySem PySem.Spec PyProof.Rows L2

theorem le_lo {c d : Nat} : (!decide ([c] < [d])) = decide (d ≤ c) := by
  by_cases h : c < d
  · rw [decide_eq_true (lt_one.mpr h), decide_eq_false (by omega)]; rfl
  · rw [decide_eq_false (fun q => h (lt_one.mp q)), decide_eq_true (by omega)]; rfl
abbrev rLeS : R2 := fun x y H Q => ∃ i j, x = .str i ∧ y = .str j ∧ Q (.bl (!decide (j.cps.toList < i.cps.toList))) H
theorem chain_le {lo hi c : Nat} {σ : L2.St} {H : Hp} {Q : VK} {i : Nat} (h0 : σ[i]? = some (some (.str (TX [c])))) (q : Q (.bl (decide (lo ≤ c) && decide (c ≤ hi))) H) :
    tChain rLeS rLeS (tC (.str (TX [lo]))) (tVar i) (tC (.str (TX [hi]))) σ H Q := by
  refine ⟨_, h0, _, _, rfl, rfl, _, rfl, ?_⟩
  show if (!decide ([c] < [lo])) = true then _ else _
  rw [le_lo]
  by_cases h : lo ≤ c
  · rw [if_pos (decide_eq_true h)]
    refine ⟨_, _, rfl, rfl, ?_⟩
    show Q (.bl (!decide ([hi] < [c]))) H
    rw [le_lo]
    rw [decide_eq_true h] at q
    exact q
  · rw [if_neg (by simp [h])]
    rw [decide_eq_false h] at q
    exact q
def spLet : Sp := fun vs H Q _ => ∃ c : Nat, vs = [.str (TX [c])] ∧ Q (.bl (isLet c)) H
def spDig : Sp := fun vs H Q _ => ∃ c : Nat, vs = [.str (TX [c])] ∧ Q (.bl (isDig c)) H
def spWs : Sp := fun vs H Q _ => ∃ c : Nat, vs = [.str (TX [c])] ∧ Q (.bl (isWs c)) H
section
variable {P : Program} {w : World} {K : PySem.W.Frag} {mg : Str → Option Value} {base : Heap} {C : Addr}
theorem sc_is_letter : FnScope ["sign"] ["sign"] (defScope s_is_letter) := ⟨rfl, rfl, rfl, by decide +kernel, rfl, by decide +kernel, by decide +kernel⟩
theorem ok_is_letter (T : Txt K w mg C) : Cal P w K mg base 1 "is_letter" spLet := by
  refine cal_of T.d_is_letter sc_is_letter (fun vs H Q E h => ?_) (fun f cdv A outer s H vs Q E hr h => ?_)
  · obtain ⟨c, rfl, _⟩ := h
    rfl
  · obtain ⟨c, rfl, k⟩ := h
    refine ⟨_, (pss_one (ps_ret (pe_or (pe_chain op_le_str op_le_str pe_str (pv 0) pe_str) (pe_one (pe_chain op_le_str op_le_str pe_str (pv 0) pe_str))))), ?_⟩
    dsimp only [tRet, tOrV]
    refine chain_le (lo := 97) (hi := 122) (c := c) (i := 0) rfl ⟨_, rfl, ?_⟩
    by_cases h : (decide (97 ≤ c) && decide (c ≤ 122)) = true
    · rw [if_pos h]
      have e : isLet c = true := by unfold isLet; rw [h]; rfl
      rw [e] at k
      exact k
    · rw [if_neg h]
      have e : isLet c = (decide (65 ≤ c) && decide (c ≤ 90)) := by
        unfold isLet
        rw [Bool.eq_false_iff.mpr h]
        rfl
      rw [e] at k
      exact chain_le (lo := 65) (hi := 90) (c := c) (i := 0) rfl k
theorem sc_is_digit : FnScope ["sign"] ["sign"] (defScope s_is_digit) := ⟨rfl, rfl, rfl, by decide +kernel, rfl, by decide +kernel, by decide +kernel⟩
theorem ok_is_digit (T : Txt K w mg C) : Cal P w K mg base 1 "is_digit" spDig := by
  refine cal_of T.d_is_digit sc_is_digit (fun vs H Q E h => ?_) (fun f cdv A outer s H vs Q E hr h => ?_)
  · obtain ⟨c, rfl, _⟩ := h
    rfl
  · obtain ⟨c, rfl, k⟩ := h
    refine ⟨_, (pss_one (ps_ret (pe_chain op_le_str op_le_str pe_str (pv 0) pe_str))), ?_⟩
    dsimp only [tRet]
    exact chain_le (lo := 48) (hi := 57) (c := c) (i := 0) rfl k
theorem sc_is_word_sign : FnScope ["sign"] ["sign"] (defScope s_is_word_sign) := ⟨rfl, rfl, rfl, by decide +kernel, rfl, by decide +kernel, by decide +kernel⟩
theorem ok_is_word_sign (T : Txt K w mg C) : Cal P w K mg base 2 "is_word_sign" spWs := by
  have Gis_letter : Cal P w K mg base 1 "is_letter" spLet := ok_is_letter T
  have Gis_digit : Cal P w K mg base 1 "is_digit" spDig := ok_is_digit T
  refine cal_of T.d_is_word_sign sc_is_word_sign (fun vs H Q E h => ?_) (fun f cdv A outer s H vs Q E hr h => ?_)
  · obtain ⟨c, rfl, _⟩ := h
    rfl
  · obtain ⟨c, rfl, k⟩ := h
    refine ⟨_, (pss_one (ps_ret (pe_or (pe_c Gis_letter hr (by decide) (by rfl) (pa_cons (pv 0) pa_nil)) (pe_or (pe_c Gis_digit hr (by decide) (by rfl) (pa_cons (pv 0) pa_nil)) (pe_one (pe_cmpR op_eq (pv 0) pe_str (nomark _))))))), ?_⟩
    refine ⟨_, rfl, c, rfl, _, rfl, ?_⟩
    unfold isWs at k
    cases h1 : isLet c with
    | true => rw [h1] at k; exact k
    | false =>
      rw [h1] at k
      refine ⟨_, rfl, c, rfl, _, rfl, ?_⟩
      cases h2 : isDig c with
      | true => rw [h2] at k; exact k
      | false =>
        rw [h2] at k
        refine ⟨_, rfl, rfl, ?_⟩
        show Q (.bl (decide (V.str (TX [c]) = V.str (TX [95])))) H
        rw [one_eq]
        exact k
end
end VL

set_option Elab.async false
set_option linter.all false
set_option maxRecDepth 100000
set_option maxHeartbeats 4000000
namespace VL
open PySem PySem.Spec PyProof.Rows L2

/-- the scanner stands behind cs -/
def fsAt (src cs : List Nat) : List (Str × V) := fsS src ((src.length : Int) - 1) (cs.length : Int) (lnOf cs : Int) ((cs.length : Int) - (clOf cs : Int))
theorem putA_at {src cs : List Nat} {z : Int} : putF "at" (.int z) (fsAt src cs) = fsS src ((src.length : Int) - 1) z (lnOf cs : Int) ((cs.length : Int) - (clOf cs : Int)) := rfl
theorem putA_line {src cs : List Nat} {z : Int} : putF "line" (.int z) (fsAt src cs) = fsS src ((src.length : Int) - 1) (cs.length : Int) z ((cs.length : Int) - (clOf cs : Int)) := rfl
theorem fsAt_plain {src cs m : List Nat} {z : Int} (h : 10 ∉ m) (hz : z = ((cs ++ m).length : Int)) : fsS src ((src.length : Int) - 1) z (lnOf cs : Int) ((cs.length : Int) - (clOf cs : Int)) = fsAt src (cs ++ m) := by
  unfold fsAt
  rw [ln_plain cs m h, cl_plain cs m h, hz, List.length_append]
  have e : ((cs.length + m.length : Nat) : Int) - ((clOf cs + m.length : Nat) : Int) = (cs.length : Int) - (clOf cs : Int) := by omega
  rw [e]
theorem fsAt_nl {src cs : List Nat} : fsS src ((src.length : Int) - 1) ((cs.length : Int) + 1) ((lnOf cs : Int) + 1) ((cs.length : Int) + 1) = fsAt src (cs ++ [10]) := by
  unfold fsAt
  rw [ln_nl, cl_nl, List.length_append]
  have e : (((cs.length + [10].length : Nat) : Int)) - ((0 : Nat) : Int) = (cs.length : Int) + 1 := by simp
  rw [e]
  rfl
/-- what skip passes: R' is where it ends -/
inductive Skips : List Nat → List Nat → Prop where
  | stop {R} (h : R.length ≤ 1) : Skips R R
  | done {c r} (h1 : c ≠ 10) (h2 : c ≠ 32) (h3 : ((c :: r).take 2 == [47, 47]) = false) : Skips (c :: r) (c :: r)
  | sp {R R'} (h : 1 ≤ R.length) (k : Skips R R') : Skips (32 :: R) R'
  | nl {R R'} (h : 1 ≤ R.length) (k : Skips R R') : Skips (10 :: R) R'
  | com {c R R'} (h : 10 ∉ c) (k : Skips (10 :: R) R') : Skips (47 :: 47 :: (c ++ 10 :: R)) R'
theorem ite_one {c d : Nat} {A B : Prop} (h1 : c = d → A) (h2 : c ≠ d → B) : if decide (V.str (TX [c]) = V.str (TX [d])) = true then A else B := by
  rw [one_eq]
  by_cases e : c = d
  · rw [if_pos (decide_eq_true e)]
    exact h1 e
  · rw [if_neg (by simp [e])]
    exact h2 e
theorem ite_oneN {c d : Nat} {A B : Prop} (h1 : c ≠ d → A) (h2 : c = d → B) : if (!decide (V.str (TX [c]) = V.str (TX [d]))) = true then A else B := by
  rw [one_eq]
  by_cases e : c = d
  · rw [decide_eq_true e, if_neg (by decide)]
    exact h2 e
  · rw [decide_eq_false e, if_pos (by decide)]
    exact h1 e
theorem ite_b {b : Bool} {A B : Prop} (h1 : b = true → A) (h2 : b = false → B) : if b = true then A else B := by
  cases b with
  | true => rw [if_pos rfl]; exact h1 rfl
  | false => rw [if_neg Bool.false_ne_true]; exact h2 rfl
def spSkip (C : Addr) : Sp := fun vs H Q _ => ∃ (p dx : Addr) (src cs R R' : List Nat), vs = [.ref p] ∧ H p = some (.ins C dx (fsAt src cs)) ∧ src = cs ++ R ∧ src.length ≤ 100000 ∧ Skips R R' ∧
  ∀ cs', src = cs' ++ R' → Q .non (upd H p (.ins C dx (fsAt src cs')))
theorem upd_id {H : Hp} {p : Addr} {o : HO} (h : H p = some o) : upd H p o = H := by
  funext b
  by_cases e : b = p
  · rw [e, upd_same, h]
  · rw [upd_ne e]
theorem size5 {n : Nat} (h : n ≤ 100000) : n ≤ sizeLine := Nat.le_trans h (by decide)
section
variable {P : Program} {w : World} {K : PySem.W.Frag} {mg : Str → Option Value} {base : Heap} {C : Addr}
theorem sc_Scanner_skip : FnScope ["self", "sign"] ["self"] (defScope s_Scanner_skip) := ⟨rfl, rfl, rfl, by decide +kernel, rfl, by decide +kernel, by decide +kernel⟩
theorem ok_skip (T : Txt K w mg C) : Met P w K mg base 1 C "skip" (spSkip C) := by
  refine met_of T.m_skip T.cl sc_Scanner_skip (fun vs H Q E h => ?_) (fun f cdv A outer s H vs Q E hr h => ?_)
  · obtain ⟨p, dx, src, cs, R, R', rfl, _⟩ := h
    rfl
  · obtain ⟨p, dx, src, cs, R, R', rfl, h0, hsrc, hlen, hk, k⟩ := h
    refine ⟨_, (pss_one (ps_while PassesOwn.never (pt_cmpR op_lt (pe_fld (pv 0) rfl) (pe_fld (pv 0) rfl) (nomark _)) (pss_cons (ps_set (i := 1) sc_Scanner_skip.nd rfl (Or.inl rfl) (pe_ix ix_str (pe_fld (pv 0) rfl) (pe_fld (pv 0) rfl) (fun _ _ => rfl))) (pss_one (ps_if (pt_cmpR op_eq (pv 1) pe_str (nomark _)) (pss_cons (ps_fldaug (pv 0) pe_int in_add) (pss_cons (ps_fld (pv 0) (pe_op op_add (pe_fld (pv 0) rfl) pe_int) rfl) (pss_one (ps_fldaug (pv 0) pe_int in_add)))) (pss_one (ps_if (pt_cmpR op_eq (pv 1) pe_str (nomark _)) (pss_one (ps_fldaug (pv 0) pe_int in_add)) (pss_one (ps_if (pt_val (pe_bm PySem.F.plainAttrs_str PySem.F.slot_str_startswith PySem.F.type_str_startswith mt_startswith3 (pe_fld (pv 0) rfl) (pa_cons pe_str (pa_cons (pe_fld (pv 0) rfl) pa_nil)))) (pss_one (ps_fld (pv 0) (pe_bm PySem.F.plainAttrs_str PySem.F.slot_str_find PySem.F.type_str_find mt_find3 (pe_fld (pv 0) rfl) (pa_cons pe_str (pa_cons (pe_fld (pv 0) rfl) pa_nil))) rfl)) (pss_one ps_retN)))))))))), ?_⟩
    refine ⟨fun m σ H' => ∃ (cs R : List Nat) (sg : Option V), m = R.length ∧ src = cs ++ R ∧ Skips R R' ∧ σ = [some (.ref p), sg] ∧ H' = upd H p (.ins C dx (fsAt src cs)), ⟨_, cs, R, none, rfl, hsrc, hk, rfl, (upd_id h0).symm⟩, ?_⟩
    rintro m σ H1 ⟨cs, R, sg, rfl, hsrc, hk, rfl, rfl⟩
    have h1 : upd H p (.ins C dx (fsAt src cs)) p = some (.ins C dx (fsAt src cs)) := upd_same
    have hl : src.length = cs.length + R.length := by rw [hsrc, List.length_append]
    refine ⟨_, rfl, p, C, dx, _, _, rfl, h1, T.cl, T.n_at, fs_at _ _ _ _ _, _, rfl, p, C, dx, _, _, rfl, h1, T.cl, T.n_end, fs_end _ _ _ _ _, _, _, rfl, rfl, _, rfl, ?_⟩
    refine ite2 (fun q => ?_) (fun q => ?_)
    · have q := of_decide_eq_true q
      have hR : 2 ≤ R.length := by omega
      have hN : ∀ (cs2 R2 : List Nat) (sg2 : Option V), src = cs2 ++ R2 → R2.length < R.length → Skips R2 R' → ∃ m', m' < R.length ∧ ∃ (cs R : List Nat) (sg : Option V), m' = R.length ∧ src = cs ++ R ∧ Skips R R' ∧ [some (V.ref p), sg2] = [some (.ref p), sg] ∧ upd H p (.ins C dx (fsAt src cs2)) = upd H p (.ins C dx (fsAt src cs)) :=
        fun cs2 R2 sg2 e1 e2 e3 => ⟨_, e2, cs2, R2, sg2, rfl, e1, e3, rfl, rfl⟩
      refine ⟨fun σ' H' => ∃ m', m' < R.length ∧ ∃ (cs R : List Nat) (sg : Option V), m' = R.length ∧ src = cs ++ R ∧ Skips R R' ∧ σ' = [some (.ref p), sg] ∧ H' = upd H p (.ins C dx (fsAt src cs)), fun σ' H' z => z, ?_⟩
      obtain ⟨c, r, rfl⟩ : ∃ c r, R = c :: r := by
        cases R with
        | nil => simp at hR
        | cons c r => exact ⟨c, r, rfl⟩
      refine ⟨_, rfl, p, C, dx, _, _, rfl, h1, T.cl, T.n_source, fs_source _ _ _ _ _, _, rfl, p, C, dx, _, _, rfl, h1, T.cl, T.n_at, fs_at _ _ _ _ _, _, _, c, rfl, rfl, by rw [TX_len]; exact size5 hlen, by rw [hsrc]; exact at_mid rfl, ?_⟩
      refine ⟨_, rfl, rfl, _, rfl, ?_⟩
      refine ite_one (c := c) (d := 10) (fun e => ?_) (fun e => ?_)
      · subst e
        cases hk with
        | stop h => simp at hR; omega
        | done a1 a2 a3 => exact absurd rfl a1
        | nl a1 a2 =>
          refine ⟨_, rfl, p, C, dx, _, _, rfl, h1, T.cl, T.n_line, fs_line _ _ _ _ _, _, _, rfl, rfl, dx, _, h1, (by show 5 < 1000; decide), ?_⟩
          rw [putA_line, upd_upd]
          have h2 : ∀ o, upd H p o p = some o := fun o => upd_same
          refine ⟨_, rfl, p, C, dx, _, _, rfl, (h2 _), T.cl, T.n_at, fs_at _ _ _ _ _, _, _, rfl, rfl, _, rfl, p, C, dx, _, rfl, (h2 _), T.cl, T.n_line_begin, (by show 5 < 1000; decide), ?_⟩
          rw [put_line_begin, upd_upd]
          refine ⟨_, rfl, p, C, dx, _, _, rfl, (h2 _), T.cl, T.n_at, fs_at _ _ _ _ _, _, _, rfl, rfl, dx, _, (h2 _), (by show 5 < 1000; decide), ?_⟩
          rw [put_at, upd_upd]
          have e3 := fsAt_nl (src := src) (cs := cs)
          have := hN (cs ++ [10]) r (some (.str (TX [10]))) (by rw [hsrc]; simp) (by simp) a2
          rw [← e3] at this
          exact this
      · refine ⟨_, rfl, rfl, _, rfl, ?_⟩
        refine ite_one (c := c) (d := 32) (fun e => ?_) (fun e2 => ?_)
        · subst e
          cases hk with
          | stop h => simp at hR; omega
          | done a1 a2 a3 => exact absurd rfl a2
          | sp a1 a2 =>
            refine ⟨_, rfl, p, C, dx, _, _, rfl, h1, T.cl, T.n_at, fs_at _ _ _ _ _, _, _, rfl, rfl, dx, _, h1, (by show 5 < 1000; decide), ?_⟩
            rw [putA_at, upd_upd]
            have := hN (cs ++ [32]) r (some (.str (TX [32]))) (by rw [hsrc]; simp) (by simp) a2
            rw [← fsAt_plain (m := [32]) (z := (cs.length : Int) + 1) (by decide) (by simp)] at this
            exact this
        · refine ⟨_, rfl, p, C, dx, _, _, rfl, h1, T.cl, T.n_source, fs_source _ _ _ _ _, rfl, _, rfl, p, C, dx, _, _, rfl, h1, T.cl, T.n_at, fs_at _ _ _ _ _, _, _, _, rfl, rfl, _, rfl, ?_⟩
          have est : Txt.startswith3 (TX src) (TX [47, 47]) (cs.length : Int) = ((c :: r).take 2 == [47, 47]) := by rw [hsrc]; exact starts_at rfl
          refine ite_b (b := Txt.startswith3 (TX src) (TX [47, 47]) (cs.length : Int)) (fun q3 => ?_) (fun q3 => ?_)
          · rw [est] at q3
            cases hk with
            | stop h => simp at hR; omega
            | done a1 a2 a3 => rw [q3] at a3; cases a3
            | sp a1 a2 => exact absurd rfl e2
            | nl a1 a2 => exact absurd rfl e
            | @com c2 R2 R3 a1 a2 =>
              refine ⟨_, rfl, p, C, dx, _, _, rfl, h1, T.cl, T.n_source, fs_source _ _ _ _ _, rfl, _, rfl, p, C, dx, _, _, rfl, h1, T.cl, T.n_at, fs_at _ _ _ _ _, _, _, _, rfl, rfl, _, rfl, p, C, dx, _, rfl, h1, T.cl, T.n_at, (by show 5 < 1000; decide), ?_⟩
              have ef : Txt.find3 (TX src) (TX [10]) (cs.length : Int) = ((cs.length + (47 :: 47 :: c2).length : Nat) : Int) := by
                rw [hsrc]
                exact find_nl (c := 47 :: 47 :: c2) (r := R2) rfl (by simp [a1])
              rw [putA_at, upd_upd]
              have := hN (cs ++ 47 :: 47 :: c2) (10 :: R2) (some (.str (TX [47]))) (by rw [hsrc]; simp) (by simp; omega) a2
              rw [← fsAt_plain (m := 47 :: 47 :: c2) (z := Txt.find3 (TX src) (TX [10]) (cs.length : Int)) (by simp [a1]) (by rw [ef, List.length_append])] at this
              exact this
          · rw [est] at q3
            cases hk with
            | stop h => simp at hR; omega
            | done a1 a2 a3 => exact k cs hsrc
            | sp a1 a2 => exact absurd rfl e2
            | nl a1 a2 => exact absurd rfl e
            | @com c2 R2 R3 a1 a2 => simp at q3
    · have q : ¬ ((cs.length : Int) < (src.length : Int) - 1) := fun z => q (decide_eq_true z)
      cases hk with
      | stop h => exact k cs hsrc
      | done a1 a2 a3 => exact k cs hsrc
      | sp a1 a2 => simp at hl; omega
      | nl a1 a2 => simp at hl; omega
      | com a1 a2 => simp at hl; omega
end
end VL

set_option Elab.async false
set_option linter.all false
set_option maxRecDepth 100000
set_option maxHeartbeats 4000000
namespace VL
open PySem PySem.Spec PyProof.Rows L2

def spColumn (C : Addr) : Sp := fun vs H Q _ => ∃ (p dx : Addr) (src cs : List Nat), vs = [.ref p, .int (cs.length : Int)] ∧ H p = some (.ins C dx (fsAt src cs)) ∧ Q (.int ((clOf cs : Int) + 1)) H
def spUntil (C : Addr) : Sp := fun vs H Q _ => ∃ (p dx : Addr) (src cs m r : List Nat), vs = [.ref p, .int ((cs.length + m.length : Nat) : Int)] ∧ H p = some (.ins C dx (fsAt src cs)) ∧ src = cs ++ (m ++ r) ∧ src.length ≤ 100000 ∧ 10 ∉ m ∧
  Q (.str (TX m)) (upd H p (.ins C dx (fsAt src (cs ++ m))))
def spName (C : Addr) : Sp := fun vs H Q _ => ∃ (p dx : Addr) (src cs m r : List Nat) (d : Nat), vs = [.ref p] ∧ H p = some (.ins C dx (fsAt src cs)) ∧ src = cs ++ (m ++ d :: r) ∧ src.length ≤ 100000 ∧ (∀ c ∈ m, isWs c = true) ∧ isWs d = false ∧
  Q (.str (TX m)) (upd H p (.ins C dx (fsAt src (cs ++ m))))
def spNumber (C : Addr) : Sp := fun vs H Q _ => ∃ (p dx : Addr) (src cs r : List Nat) (n d : Nat), vs = [.ref p] ∧ H p = some (.ins C dx (fsAt src cs)) ∧ src = cs ++ (TL.numL n ++ d :: r) ∧ src.length ≤ 100000 ∧ n ≤ 10 ^ 30 ∧ isWs d = false ∧
  Q (.str (TX (TL.numL n))) (upd H p (.ins C dx (fsAt src (cs ++ TL.numL n))))
theorem ws_nl {c : Nat} (h : isWs c = true) : c ≠ 10 := fun e => by subst e; revert h; decide
theorem at_app {cs m r : List Nat} {i : Nat} {c : Nat} {z : Int} (hz : z = ((cs.length + i : Nat) : Int)) (h : (m ++ r)[i]? = some c) : atI (TX (cs ++ (m ++ r))).cps.toList z = some c := by
  subst hz
  rw [TX_tl]
  have hi : i < (m ++ r).length := (List.getElem?_eq_some_iff.mp h).1
  unfold atI ixN
  rw [if_pos (by omega), if_pos (by rw [List.length_append]; omega)]
  show (cs ++ (m ++ r))[((cs.length + i : Nat) : Int).toNat]? = _
  rw [Int.toNat_natCast, List.getElem?_append_right (by omega), Nat.add_sub_cancel_left]
  exact h
theorem digits_ws {n : Nat} : ∀ c ∈ TL.numL n, isDig c = true := fun c hc => by
  have := TL.numL_digits n c hc
  unfold isDig
  rw [Bool.and_eq_true]
  exact ⟨decide_eq_true this.1, decide_eq_true this.2⟩
theorem dig_nl {c : Nat} (h : isDig c = true) : c ≠ 10 := fun e => by subst e; revert h; decide
theorem num_head : ∀ {n : Nat} {c : Nat} {r : List Nat}, TL.numL n = c :: r → c = 48 → n = 0 := by
  intro n
  induction n using Nat.strongRecOn with
  | _ n ih =>
    intro c r h hc
    by_cases h9 : n < 10
    · rw [TL.numL_lt h9] at h
      injection h with h _
      omega
    · rw [TL.numL_step (by omega)] at h
      cases e : TL.numL (n / 10) with
      | nil => exact absurd e (TL.numL_ne _)
      | cons c2 r2 =>
        rw [e, List.cons_append] at h
        injection h with h _
        have := ih (n / 10) (by omega) e (by omega)
        omega
section
variable {P : Program} {w : World} {K : PySem.W.Frag} {mg : Str → Option Value} {base : Heap} {C : Addr}
theorem sc_Scanner_column_of : FnScope ["self", "at"] ["self", "at"] (defScope s_Scanner_column_of) := ⟨rfl, rfl, rfl, by decide +kernel, rfl, by decide +kernel, by decide +kernel⟩
theorem ok_column_of (T : Txt K w mg C) : Met P w K mg base 1 C "column_of" (spColumn C) := by
  refine met_of T.m_column_of T.cl sc_Scanner_column_of (fun vs H Q E h => ?_) (fun f cdv A outer s H vs Q E hr h => ?_)
  · obtain ⟨p, dx, src, cs, rfl, _⟩ := h
    rfl
  · obtain ⟨p, dx, src, cs, rfl, h1, k⟩ := h
    refine ⟨_, (pss_one (ps_ret (pe_op op_add (pe_op op_sub (pv 1) (pe_fld (pv 0) rfl)) pe_int))), ?_⟩
    refine ⟨_, rfl, _, rfl, p, C, dx, _, _, rfl, h1, T.cl, T.n_line_begin, fs_line_begin _ _ _ _ _, _, _, rfl, rfl, _, _, rfl, rfl, ?_⟩
    have e : (cs.length : Int) - ((cs.length : Int) - (clOf cs : Int)) + 1 = (clOf cs : Int) + 1 := by omega
    show Q (.int ((cs.length : Int) - ((cs.length : Int) - (clOf cs : Int)) + 1)) H
    rw [e]
    exact k
theorem sc_Scanner_take_until : FnScope ["self", "end", "word"] ["self", "end"] (defScope s_Scanner_take_until) := ⟨rfl, rfl, rfl, by decide +kernel, rfl, by decide +kernel, by decide +kernel⟩
theorem ok_take_until (T : Txt K w mg C) : Met P w K mg base 1 C "take_until" (spUntil C) := by
  refine met_of T.m_take_until T.cl sc_Scanner_take_until (fun vs H Q E h => ?_) (fun f cdv A outer s H vs Q E hr h => ?_)
  · obtain ⟨p, dx, src, cs, m, r, rfl, _⟩ := h
    rfl
  · obtain ⟨p, dx, src, cs, m, r, rfl, h1, hsrc, hlen, hm, k⟩ := h
    refine ⟨_, (pss_cons (ps_set (i := 2) sc_Scanner_take_until.nd rfl (Or.inl rfl) (pe_slice sl_str (pe_fld (pv 0) rfl) (po_some (pe_fld (pv 0) rfl)) (po_some (pv 1)))) (pss_cons (ps_fld (pv 0) (pv 1) rfl) (pss_one (ps_ret (pv 2))))), ?_⟩
    refine ⟨_, rfl, p, C, dx, _, _, rfl, h1, T.cl, T.n_source, fs_source _ _ _ _ _, _, rfl, p, C, dx, _, _, rfl, h1, T.cl, T.n_at, fs_at _ _ _ _ _, _, rfl, _, rfl, _, rfl, _, rfl, (by rw [TX_len]; exact size5 hlen), ?_⟩
    have ec : cutS (TX src) (some (cs.length : Int)) (some ((cs.length + m.length : Nat) : Int)) = TX m := by rw [hsrc]; exact cut_mid rfl rfl
    rw [ec]
    refine ⟨_, rfl, _, rfl, p, C, dx, _, rfl, h1, T.cl, T.n_at, (by show 5 < 1000; decide), ?_⟩
    rw [putA_at, fsAt_plain (m := m) hm (by rw [List.length_append])]
    exact ⟨_, rfl, k⟩
theorem sc_Scanner_take_name : FnScope ["self", "end"] ["self"] (defScope s_Scanner_take_name) := ⟨rfl, rfl, rfl, by decide +kernel, rfl, by decide +kernel, by decide +kernel⟩
theorem ok_take_name (T : Txt K w mg C) : Met P w K mg base 3 C "take_name" (spName C) := by
  have Gis_word_sign : Cal P w K mg base 2 "is_word_sign" spWs := ok_is_word_sign T
  have Mtake_until : Met P w K mg base 1 C "take_until" (spUntil C) := ok_take_until T
  refine met_of T.m_take_name T.cl sc_Scanner_take_name (fun vs H Q E h => ?_) (fun f cdv A outer s H vs Q E hr h => ?_)
  · obtain ⟨p, dx, src, cs, m, r, d, rfl, _⟩ := h
    rfl
  · obtain ⟨p, dx, src, cs, m, r, d, rfl, h1, hsrc, hlen, hm, hd, k⟩ := h
    refine ⟨_, (pss_cons (ps_set (i := 1) sc_Scanner_take_name.nd rfl (Or.inl rfl) (pe_fld (pv 0) rfl)) (pss_cons (ps_while PassesOwn.never (pt_val (pe_c Gis_word_sign hr (by decide) (by rfl) (pa_cons (pe_ix ix_str (pe_fld (pv 0) rfl) (pv 1) (fun _ _ => rfl)) pa_nil))) (pss_one (ps_aug (i := 1) sc_Scanner_take_name.nd rfl (Or.inl rfl) pe_int ip_add))) (pss_one (ps_ret (pe_mt Mtake_until hr (by decide) (pv 0) (pa_cons (pv 1) pa_nil)))))), ?_⟩
    refine ⟨_, rfl, p, C, dx, _, _, rfl, h1, T.cl, T.n_at, fs_at _ _ _ _ _, ?_⟩
    refine ⟨fun n σ H' => ∃ i, n = m.length - i ∧ i ≤ m.length ∧ σ = [some (.ref p), some (.int ((cs.length + i : Nat) : Int))] ∧ H' = H, ⟨_, 0, rfl, Nat.zero_le _, rfl, rfl⟩, ?_⟩
    rintro n σ H1 ⟨i, rfl, hi, rfl, rfl⟩
    by_cases hlt : i < m.length
    · have hat : (m ++ d :: r)[i]? = some m[i] := by rw [List.getElem?_append_left hlt, List.getElem?_eq_getElem hlt]
      refine ⟨_, rfl, p, C, dx, _, _, rfl, h1, T.cl, T.n_source, fs_source _ _ _ _ _, _, rfl, _, _, m[i], rfl, rfl, (by rw [TX_len]; exact size5 hlen), (by rw [hsrc]; exact at_app rfl hat), ?_⟩
      refine ⟨_, rfl, _, rfl, ?_⟩
      refine ite_b (b := isWs m[i]) (fun _ => ?_) (fun z => absurd (hm _ (List.getElem_mem hlt)) (by rw [z]; decide))
      refine ⟨fun σ' H' => ∃ i', i' = i + 1 ∧ σ' = [some (.ref p), some (.int ((cs.length + i' : Nat) : Int))] ∧ H' = H1, ?_, ?_⟩
      · rintro σ' H' ⟨i', rfl, rfl, rfl⟩
        exact ⟨m.length - (i + 1), by omega, i + 1, rfl, hlt, rfl, rfl⟩
      · refine ⟨_, rfl, _, _, rfl, rfl, i + 1, rfl, ?_, rfl⟩
        have e : ((cs.length + i : Nat) : Int) + 1 = ((cs.length + (i + 1) : Nat) : Int) := by omega
        show [some (V.ref p), some (V.int (((cs.length + i : Nat) : Int) + 1))] = _
        rw [e]
    · have e : i = m.length := by omega
      subst e
      have hat : (m ++ d :: r)[m.length]? = some d := by rw [List.getElem?_append_right (Nat.le_refl _)]; simp
      refine ⟨_, rfl, p, C, dx, _, _, rfl, h1, T.cl, T.n_source, fs_source _ _ _ _ _, _, rfl, _, _, d, rfl, rfl, (by rw [TX_len]; exact size5 hlen), (by rw [hsrc]; exact at_app rfl hat), ?_⟩
      refine ⟨_, rfl, _, rfl, ?_⟩
      refine ite_b (b := isWs d) (fun z => absurd z (by rw [hd]; decide)) (fun _ => ?_)
      exact ⟨_, rfl, p, dx, _, rfl, h1, rfl, _, rfl, p, dx, src, cs, m, d :: r, rfl, h1, hsrc, hlen, fun z => ws_nl (hm _ z) rfl, k⟩
theorem sc_Scanner_take_number : FnScope ["self", "end", "digits"] ["self"] (defScope s_Scanner_take_number) := ⟨rfl, rfl, rfl, by decide +kernel, rfl, by decide +kernel, by decide +kernel⟩
theorem ok_take_number (T : Txt K w mg C) : Met P w K mg base 3 C "take_number" (spNumber C) := by
  have Gis_word_sign : Cal P w K mg base 2 "is_word_sign" spWs := ok_is_word_sign T
  have Gis_digit : Cal P w K mg base 1 "is_digit" spDig := ok_is_digit T
  have Mtake_until : Met P w K mg base 1 C "take_until" (spUntil C) := ok_take_until T
  refine met_of T.m_take_number T.cl sc_Scanner_take_number (fun vs H Q E h => ?_) (fun f cdv A outer s H vs Q E hr h => ?_)
  · obtain ⟨p, dx, src, cs, r, n, d, rfl, _⟩ := h
    rfl
  · obtain ⟨p, dx, src, cs, r, n, d, rfl, h1, hsrc, hlen, hn, hd, k⟩ := h
    have hz := TX_len src
    have hz5 : (TX src).length ≤ sizeLine := by rw [hz]; exact size5 hlen
    have hdd : isDig d = false := by
      unfold isWs at hd
      cases e : isDig d with
      | false => rfl
      | true => rw [e] at hd; simp at hd
    obtain ⟨c0, r0, e0⟩ : ∃ c0 r0, TL.numL n = c0 :: r0 := by
      cases e : TL.numL n with
      | nil => exact absurd e (TL.numL_ne n)
      | cons c r => exact ⟨c, r, rfl⟩
    have hl1 : 1 ≤ (TL.numL n).length := by rw [e0]; simp
    have hl31 : (TL.numL n).length ≤ 31 := TL.numL_len (by decide) (Nat.lt_of_le_of_lt hn (by decide))
    have hat0 : (TL.numL n ++ d :: r)[0]? = some c0 := by rw [e0]; rfl
    have hat0' : atI (TX src).cps.toList (cs.length : Int) = some c0 := by rw [hsrc]; exact at_app (i := 0) rfl hat0
    refine ⟨_, (pss_cons (ps_set (i := 1) sc_Scanner_take_number.nd rfl (Or.inl rfl) (pe_op op_add (pe_fld (pv 0) rfl) pe_int)) (C8.pss_cut (ps_while PassesOwn.never ((pw_and (pt_cmpR op_ne (pe_ix ix_str (pe_fld (pv 0) rfl) (pe_fld (pv 0) rfl) (fun _ _ => rfl)) pe_str (nomark _)) (pw_and1 (pt_val (pe_c Gis_digit hr (by decide) (by rfl) (pa_cons (pe_ix ix_str (pe_fld (pv 0) rfl) (pv 1) (fun _ _ => rfl)) pa_nil)))))).pt (pss_one (ps_aug (i := 1) sc_Scanner_take_number.nd rfl (Or.inl rfl) pe_int ip_add))) (pss_cons (ps_if (pt_val (pe_c Gis_word_sign hr (by decide) (by rfl) (pa_cons (pe_ix ix_str (pe_fld (pv 0) rfl) (pv 1) (fun _ _ => rfl)) pa_nil))) (pss_one ps_never) pss_nil) (pss_cons (ps_set (i := 2) sc_Scanner_take_number.nd rfl (Or.inl rfl) (pe_slice sl_str (pe_fld (pv 0) rfl) (po_some (pe_fld (pv 0) rfl)) (po_some (pv 1)))) (pss_cons (ps_if ((pw_or (pt_cmpR op_gt (pe_callB call_len_str (by rfl) T.z_len PySem.boot_len (pa_cons (pv 2) pa_nil)) (C8.pe_gc (by rfl) T.g_MOST_DIGITS) (nomark _)) (pw_or1 (pt_cmpR op_gt (pe_callTy call_int_str (by rfl) T.z_int (by decide +kernel) (pa_cons (pv 2) pa_nil)) (C8.pe_gc (by rfl) T.g_LARGEST_NUMBER) (nomark _))))).pt (pss_one ps_never) pss_nil) (pss_one (ps_ret (pe_mt Mtake_until hr (by decide) (pv 0) (pa_cons (pv 1) pa_nil))))))))), ?_⟩
    refine ⟨_, rfl, p, C, dx, _, _, rfl, h1, T.cl, T.n_at, fs_at _ _ _ _ _, _, _, rfl, rfl, ?_⟩
    refine ⟨fun σ H' => σ = [some (V.ref p), some (.int ((cs.length + (TL.numL n).length : Nat) : Int)), none] ∧ H' = H, ?_, ?_⟩
    · by_cases h48 : c0 = 48
      · have hn0 := num_head e0 h48
        have hlen1 : (TL.numL n).length = 1 := by rw [hn0]; rfl
        refine ⟨fun m σ H' => m = 0 ∧ σ = [some (.ref p), some (.int ((cs.length : Int) + 1)), none] ∧ H' = H, ⟨0, rfl, rfl, rfl⟩, ?_⟩
        rintro m σ H1 ⟨rfl, rfl, rfl⟩
        refine ⟨_, rfl, p, C, dx, _, _, rfl, h1, T.cl, T.n_source, fs_source _ _ _ _ _, _, rfl, p, C, dx, _, _, rfl, h1, T.cl, T.n_at, fs_at _ _ _ _ _, _, _, c0, rfl, rfl, hz5, hat0', ?_⟩
        refine ⟨rfl, _, rfl, ?_⟩
        refine ite_oneN (c := c0) (d := 48) (fun z => absurd h48 z) (fun _ => ?_)
        refine ite_b (b := false) (fun z => by cases z) (fun _ => ?_)
        exact ⟨by rw [hlen1]; rfl, rfl⟩
      · refine ⟨fun m σ H' => ∃ i, m = (TL.numL n).length - i ∧ 1 ≤ i ∧ i ≤ (TL.numL n).length ∧ σ = [some (.ref p), some (.int ((cs.length + i : Nat) : Int)), none] ∧ H' = H, ⟨_, 1, rfl, Nat.le_refl _, hl1, rfl, rfl⟩, ?_⟩
        rintro m σ H1 ⟨i, rfl, hi1, hi, rfl, rfl⟩
        refine ⟨_, rfl, p, C, dx, _, _, rfl, h1, T.cl, T.n_source, fs_source _ _ _ _ _, _, rfl, p, C, dx, _, _, rfl, h1, T.cl, T.n_at, fs_at _ _ _ _ _, _, _, c0, rfl, rfl, hz5, hat0', ?_⟩
        refine ⟨rfl, _, rfl, ?_⟩
        refine ite_oneN (c := c0) (d := 48) (fun _ => ?_) (fun z => absurd z h48)
        by_cases hlt : i < (TL.numL n).length
        · have hat : (TL.numL n ++ d :: r)[i]? = some (TL.numL n)[i] := by rw [List.getElem?_append_left hlt, List.getElem?_eq_getElem hlt]
          refine ⟨_, rfl, p, C, dx, _, _, rfl, h1, T.cl, T.n_source, fs_source _ _ _ _ _, _, rfl, _, _, (TL.numL n)[i], rfl, rfl, hz5, (by rw [hsrc]; exact at_app rfl hat), ?_⟩
          refine ⟨_, rfl, _, rfl, ?_⟩
          refine ite_b (b := isDig (TL.numL n)[i]) (fun _ => ?_) (fun z => absurd (digits_ws _ (List.getElem_mem hlt)) (by rw [z]; decide))
          refine ⟨fun σ' H' => ∃ i', i' = i + 1 ∧ σ' = [some (.ref p), some (.int ((cs.length + i' : Nat) : Int)), none] ∧ H' = H1, ?_, ?_⟩
          · rintro σ' H' ⟨i', rfl, rfl, rfl⟩
            exact ⟨(TL.numL n).length - (i + 1), by omega, i + 1, rfl, by omega, hlt, rfl, rfl⟩
          · refine ⟨_, rfl, _, _, rfl, rfl, i + 1, rfl, ?_, rfl⟩
            have e : ((cs.length + i : Nat) : Int) + 1 = ((cs.length + (i + 1) : Nat) : Int) := by omega
            show [some (V.ref p), some (V.int (((cs.length + i : Nat) : Int) + 1)), none] = _
            rw [e]
        · have e : i = (TL.numL n).length := by omega
          subst e
          have hatn : (TL.numL n ++ d :: r)[(TL.numL n).length]? = some d := by rw [List.getElem?_append_right (Nat.le_refl _)]; simp
          refine ⟨_, rfl, p, C, dx, _, _, rfl, h1, T.cl, T.n_source, fs_source _ _ _ _ _, _, rfl, _, _, d, rfl, rfl, hz5, (by rw [hsrc]; exact at_app rfl hatn), ?_⟩
          refine ⟨_, rfl, _, rfl, ?_⟩
          refine ite_b (b := isDig d) (fun z => absurd z (by rw [hdd]; decide)) (fun _ => ?_)
          exact ⟨rfl, rfl⟩
    · rintro σ H' ⟨rfl, rfl⟩
      have hatn : (TL.numL n ++ d :: r)[(TL.numL n).length]? = some d := by rw [List.getElem?_append_right (Nat.le_refl _)]; simp
      refine ⟨_, rfl, p, C, dx, _, _, rfl, h1, T.cl, T.n_source, fs_source _ _ _ _ _, _, rfl, _, _, d, rfl, rfl, hz5, (by rw [hsrc]; exact at_app rfl hatn), ?_⟩
      refine ⟨_, rfl, _, rfl, ?_⟩
      refine ite_b (b := isWs d) (fun z => absurd z (by rw [hd]; decide)) (fun _ => ?_)
      refine ⟨_, rfl, p, C, dx, _, _, rfl, h1, T.cl, T.n_source, fs_source _ _ _ _ _, _, rfl, p, C, dx, _, _, rfl, h1, T.cl, T.n_at, fs_at _ _ _ _ _, _, rfl, _, rfl, _, rfl, _, rfl, hz5, ?_⟩
      have ec : cutS (TX src) (some (cs.length : Int)) (some ((cs.length + (TL.numL n).length : Nat) : Int)) = TX (TL.numL n) := by rw [hsrc]; exact cut_mid rfl rfl
      rw [ec]
      have hnl : (TX (TL.numL n)).length = (TL.numL n).length := TX_len _
      refine ⟨_, rfl, _, rfl, (by rw [hnl]; exact Nat.le_trans hl31 (by decide)), _, _, rfl, rfl, _, rfl, ?_⟩
      refine ite_b (fun z => absurd (of_decide_eq_true z) (by rw [hnl]; omega)) (fun _ => ?_)
      refine ⟨_, rfl, _, (n : Int), rfl, ?_, (by rw [hnl]; omega), _, _, rfl, rfl, _, rfl, ?_⟩
      · have := TL.int_num (n := n) (by omega)
        rw [SX.num_S] at this
        exact this
      · refine ite_b (fun z => absurd (of_decide_eq_true z) (by have : n ≤ 1000000000000000000000000000000 := hn; omega)) (fun _ => ?_)
        exact ⟨_, rfl, p, dx, _, rfl, h1, rfl, _, rfl, p, dx, src, cs, TL.numL n, d :: r, rfl, h1, hsrc, hlen, fun z => dig_nl (digits_ws _ z) rfl, k⟩
end
end VL

set_option Elab.async false
set_option linter.all false
set_option maxRecDepth 100000
set_option maxHeartbeats 4000000
namespace VL
open PySem PySem.Spec PyProof.Rows L2

/-- the sign that is read ahead of d -/
inductive Sg : List Nat → Nat → Prop where
  | pair {s d} (h : s ∈ pairsL) : Sg s d
  | single {c d} (h : c ∈ singlesL) (h2 : [c, d] ∉ pairsL) : Sg [c] d
def spSign (C : Addr) : Sp := fun vs H Q _ => ∃ (p dx : Addr) (src cs r s : List Nat) (d : Nat), vs = [.ref p] ∧ H p = some (.ins C dx (fsAt src cs)) ∧ src = cs ++ (s ++ d :: r) ∧ src.length ≤ 100000 ∧ Sg s d ∧
  Q (.str (TX s)) (upd H p (.ins C dx (fsAt src (cs ++ s))))
theorem inV_TX (n : List Nat) : ∀ ns : List (List Nat), inV (.str (TX n)) (ns.map fun l => V.str (TX l)) = decide (n ∈ ns)
  | [] => rfl
  | a :: ns => by
    show (eqV (.str (TX a)) (.str (TX n)) || inV (.str (TX n)) (ns.map fun l => V.str (TX l))) = _
    rw [inV_TX n ns]
    show ((TX a == TX n) || decide (n ∈ ns)) = decide (n ∈ a :: ns)
    by_cases e : a = n
    · subst e
      simp
    · have e2 : n ≠ a := fun q => e q.symm
      have e3 : (TX a == TX n) = false := beq_eq_false_iff_ne.mpr fun q => e (TX_inj q)
      simp [e2, e3]
theorem flat_TX : ∀ ns : List (List Nat), (ns.map fun l => V.str (TX l)).all flatV = true
  | [] => rfl
  | a :: ns => by
    show (true && (ns.map fun l => V.str (TX l)).all flatV) = true
    rw [flat_TX ns]
    rfl
theorem pairs_two {s : List Nat} (h : s ∈ pairsL) : ∃ a b, s = [a, b] ∧ a ≠ 10 ∧ b ≠ 10 := by
  simp at h
  rcases h with rfl | rfl | rfl | rfl | rfl | rfl | rfl <;> exact ⟨_, _, rfl, by decide, by decide⟩
theorem singles_nl {c : Nat} (h : c ∈ singlesL) : c ≠ 10 := by
  intro e
  subst e
  revert h
  decide
section
variable {P : Program} {w : World} {K : PySem.W.Frag} {mg : Str → Option Value} {base : Heap} {C : Addr}
theorem sc_Scanner_take_sign : FnScope ["self"] ["self"] (defScope s_Scanner_take_sign) := ⟨rfl, rfl, rfl, by decide +kernel, rfl, by decide +kernel, by decide +kernel⟩
theorem ok_take_sign (T : Txt K w mg C) : Met P w K mg base 2 C "take_sign" (spSign C) := by
  have Mtake_until : Met P w K mg base 1 C "take_until" (spUntil C) := ok_take_until T
  obtain ⟨aP, gP, sP⟩ := T.t_PAIRS
  refine met_of T.m_take_sign T.cl sc_Scanner_take_sign (fun vs H Q E h => ?_) (fun f cdv A outer s H vs Q E hr h => ?_)
  · obtain ⟨p, dx, src, cs, r, s, d, rfl, _⟩ := h
    rfl
  · obtain ⟨p, dx, src, cs, r, s, d, rfl, h1, hsrc, hlen, hs, k⟩ := h
    have hz5 : (TX src).length ≤ sizeLine := by rw [TX_len]; exact size5 hlen
    refine ⟨_, (pss_cons (ps_if (pt_cmpR op_in_seq (pe_slice sl_str (pe_fld (pv 0) rfl) (po_some (pe_fld (pv 0) rfl)) (po_some (pe_op op_add (pe_fld (pv 0) rfl) pe_int))) (C8.pe_gc (by rfl) gP) rfl) (pss_one (ps_ret (pe_mt Mtake_until hr (by decide) (pv 0) (pa_cons (pe_op op_add (pe_fld (pv 0) rfl) pe_int) pa_nil)))) pss_nil) (pss_cons (ps_if (pt_cmpR op_notIn_sign (pe_ix ix_str (pe_fld (pv 0) rfl) (pe_fld (pv 0) rfl) (fun _ _ => rfl)) (C8.pe_gc (by rfl) T.g_SINGLES) rfl) (pss_one ps_never) pss_nil) (pss_one (ps_ret (pe_mt Mtake_until hr (by decide) (pv 0) (pa_cons (pe_op op_add (pe_fld (pv 0) rfl) pe_int) pa_nil)))))), ?_⟩
    refine ⟨_, rfl, p, C, dx, _, _, rfl, h1, T.cl, T.n_source, fs_source _ _ _ _ _, _, rfl, p, C, dx, _, _, rfl, h1, T.cl, T.n_at, fs_at _ _ _ _ _, _, rfl, _, rfl, p, C, dx, _, _, rfl, h1, T.cl, T.n_at, fs_at _ _ _ _ _, _, _, rfl, rfl, _, rfl, _, rfl, hz5, ?_⟩
    cases hs with
    | pair h =>
      obtain ⟨a, b, rfl, na, nb⟩ := pairs_two h
      have ec : cutS (TX src) (some (cs.length : Int)) (some ((cs.length : Int) + 2)) = TX [a, b] := by rw [hsrc]; exact cut_mid rfl rfl
      refine ⟨aP, _, rfl, .inr (sP H), rfl, flat_TX pairsL, _, rfl, ?_⟩
      refine ite_b (fun _ => ?_) (fun z => ?_)
      · exact ⟨_, rfl, p, dx, _, rfl, h1, rfl, _, rfl, p, C, dx, _, _, rfl, h1, T.cl, T.n_at, fs_at _ _ _ _ _, _, _, rfl, rfl, p, dx, src, cs, [a, b], d :: r, rfl, h1, hsrc, hlen, by simp [Ne.symm na, Ne.symm nb], k⟩
      · exfalso
        revert z
        show ¬ inV (.str (cutS (TX src) (some (cs.length : Int)) (some ((cs.length : Int) + 2)))) (pairsL.map fun l => V.str (TX l)) = false
        rw [ec, inV_TX, decide_eq_true h]
        decide
    | @single c _ h h2 =>
      have ec : cutS (TX src) (some (cs.length : Int)) (some ((cs.length : Int) + 2)) = TX [c, d] := by rw [hsrc]; exact cut_mid (m := [c, d]) rfl rfl
      refine ⟨aP, _, rfl, .inr (sP H), rfl, flat_TX pairsL, _, rfl, ?_⟩
      refine ite_b (fun z => ?_) (fun _ => ?_)
      · exfalso
        revert z
        show ¬ inV (.str (cutS (TX src) (some (cs.length : Int)) (some ((cs.length : Int) + 2)))) (pairsL.map fun l => V.str (TX l)) = true
        rw [ec, inV_TX, decide_eq_false h2]
        decide
      · refine ⟨_, rfl, p, C, dx, _, _, rfl, h1, T.cl, T.n_source, fs_source _ _ _ _ _, _, rfl, p, C, dx, _, _, rfl, h1, T.cl, T.n_at, fs_at _ _ _ _ _, _, _, c, rfl, rfl, hz5, (by rw [hsrc]; exact at_app (i := 0) (m := [c]) rfl rfl), ?_⟩
        refine ⟨c, _, rfl, rfl, _, rfl, ?_⟩
        refine ite_b (fun z => ?_) (fun _ => ?_)
        · exfalso
          revert z
          show ¬ (!decide (c ∈ (TX singlesL).cps.toList)) = true
          rw [TX_tl, decide_eq_true h]
          decide
        · exact ⟨_, rfl, p, dx, _, rfl, h1, rfl, _, rfl, p, C, dx, _, _, rfl, h1, T.cl, T.n_at, fs_at _ _ _ _ _, _, _, rfl, rfl, p, dx, src, cs, [c], d :: r, rfl, h1, hsrc, hlen, by simp [Ne.symm (singles_nl h)], k⟩
end

/-! ### texts -/
def esc1 (c : Nat) : List Nat := if c = 10 then [92, 110] else if c = 34 then [92, 34] else if c = 92 then [92, 92] else [c]
def escL (t : List Nat) : List Nat := t.flatMap esc1
theorem escL_cons (c : Nat) (t : List Nat) : escL (c :: t) = esc1 c ++ escL t := rfl
theorem escL_app (a b : List Nat) : escL (a ++ b) = escL a ++ escL b := by unfold escL; rw [List.flatMap_append]
/-- a sign that stands for itself, or a backslash and what follows it -/
theorem esc1_two (c : Nat) : (esc1 c = [c] ∧ c ≠ 10 ∧ c ≠ 34 ∧ c ≠ 92) ∨ ∃ x, esc1 c = [92, x] ∧ x ≠ 10 ∧ ((x = 110 ∧ c = 10) ∨ (x = 34 ∧ c = 34) ∨ (x = 92 ∧ c = 92)) := by
  unfold esc1
  split
  · exact .inr ⟨110, rfl, by decide, .inl ⟨rfl, by assumption⟩⟩
  · split
    · exact .inr ⟨34, rfl, by decide, .inr (.inl ⟨rfl, by assumption⟩)⟩
    · split
      · exact .inr ⟨92, rfl, by decide, .inr (.inr ⟨rfl, by assumption⟩)⟩
      · exact .inl ⟨rfl, by assumption, by assumption, by assumption⟩
theorem escL_nl : ∀ t : List Nat, 10 ∉ escL t
  | [] => by simp [escL]
  | c :: t => by
    rw [escL_cons, List.mem_append]
    rintro (h | h)
    · rcases esc1_two c with ⟨e, n1, _, _⟩ | ⟨x, e, n1, _⟩
      · rw [e] at h
        exact n1 (List.mem_singleton.mp h).symm
      · rw [e] at h
        simp at h
        exact n1 h.symm
    · exact escL_nl t h
def spTextEnd (C : Addr) : Sp := fun vs H Q _ => ∃ (p dx : Addr) (src cs r t : List Nat), vs = [.ref p] ∧ H p = some (.ins C dx (fsAt src cs)) ∧ src = cs ++ (34 :: (escL t ++ 34 :: r)) ∧ src.length ≤ 100000 ∧
  Q (.int ((cs.length + (1 + (escL t).length) : Nat) : Int)) H
def spTextS (C : Addr) : Sp := fun vs H Q _ => ∃ (p dx : Addr) (src cs r t : List Nat), vs = [.ref p] ∧ H p = some (.ins C dx (fsAt src cs)) ∧ src = cs ++ (34 :: (escL t ++ 34 :: r)) ∧ src.length ≤ 100000 ∧
  ∀ l, H l = none → Q (.str (TX t)) (upd (upd H l (.lst (t.map fun c => V.str (TX [c])))) p (.ins C dx (fsAt src (cs ++ (34 :: (escL t ++ [34]))))))
section
variable {P : Program} {w : World} {K : PySem.W.Frag} {mg : Str → Option Value} {base : Heap} {C : Addr}
theorem sc_Scanner_text_end : FnScope ["self", "at"] ["self"] (defScope s_Scanner_text_end) := ⟨rfl, rfl, rfl, by decide +kernel, rfl, by decide +kernel, by decide +kernel⟩
theorem ok_text_end (T : Txt K w mg C) : Met P w K mg base 1 C "text_end" (spTextEnd C) := by
  refine met_of T.m_text_end T.cl sc_Scanner_text_end (fun vs H Q E h => ?_) (fun f cdv A outer s H vs Q E hr h => ?_)
  · obtain ⟨p, dx, src, cs, r, t, rfl, _⟩ := h
    rfl
  · obtain ⟨p, dx, src, cs, r, t, rfl, h1, hsrc, hlen, k⟩ := h
    have hz5 : (TX src).length ≤ sizeLine := by rw [TX_len]; exact size5 hlen
    refine ⟨_, (pss_cons (ps_set (i := 1) sc_Scanner_text_end.nd rfl (Or.inl rfl) (pe_op op_add (pe_fld (pv 0) rfl) pe_int)) (pss_cons (ps_while PassesOwn.never (pt_cmpR op_ne (pe_ix ix_str (pe_fld (pv 0) rfl) (pv 1) (fun _ _ => rfl)) pe_str (nomark _)) (pss_cons (ps_if ((pw_and (pt_cmpR op_eq (pe_ix ix_str (pe_fld (pv 0) rfl) (pv 1) (fun _ _ => rfl)) pe_str (nomark _)) (pw_and1 (pt_cmpR op_ne (pe_ix ix_str (pe_fld (pv 0) rfl) (pe_op op_add (pv 1) pe_int) (fun _ _ => rfl)) pe_str (nomark _))))).pt (pss_one (ps_aug (i := 1) sc_Scanner_text_end.nd rfl (Or.inl rfl) pe_int ip_add)) (pss_one (ps_if (pt_cmpR op_eq (pe_ix ix_str (pe_fld (pv 0) rfl) (pv 1) (fun _ _ => rfl)) pe_str (nomark _)) (pss_one ps_never) pss_nil))) (pss_one (ps_aug (i := 1) sc_Scanner_text_end.nd rfl (Or.inl rfl) pe_int ip_add)))) (pss_one (ps_ret (pv 1))))), ?_⟩
    refine ⟨_, rfl, p, C, dx, _, _, rfl, h1, T.cl, T.n_at, fs_at _ _ _ _ _, _, _, rfl, rfl, ?_⟩
    refine ⟨fun m σ H' => ∃ t1 t2, m = t2.length ∧ t = t1 ++ t2 ∧ σ = [some (.ref p), some (.int ((cs.length + (1 + (escL t1).length) : Nat) : Int))] ∧ H' = H, ⟨_, [], t, rfl, rfl, rfl, rfl⟩, ?_⟩
    rintro m σ H1 ⟨t1, t2, rfl, rfl, rfl, rfl⟩
    -- what stands at the place
    have hat : ∀ (x : List Nat) (j : Nat) (c : Nat) (z : Int), z = ((cs.length + (1 + (escL t1).length) : Nat) : Int) + (j : Int) → escL t2 ++ 34 :: r = x → x[j]? = some c → atI (TX src).cps.toList z = some c := by
      intro x j c z hz ex hx
      have e2 : src = cs ++ ((34 :: escL t1) ++ x) := by rw [hsrc, escL_app, ← ex]; simp
      rw [e2]
      refine at_app (i := 1 + (escL t1).length + j) (by rw [hz]; omega) ?_
      rw [List.getElem?_append_right (by simp; omega)]
      have e3 : 1 + (escL t1).length + j - (34 :: escL t1).length = j := by simp; omega
      rw [e3]
      exact hx
    cases t2 with
    | nil =>
      refine ⟨_, rfl, p, C, dx, _, _, rfl, h1, T.cl, T.n_source, fs_source _ _ _ _ _, _, rfl, _, _, 34, rfl, rfl, hz5, hat _ 0 34 _ (by omega) rfl rfl, ?_⟩
      refine ⟨rfl, _, rfl, ?_⟩
      refine ite_oneN (c := 34) (d := 34) (fun z => absurd rfl z) (fun _ => ?_)
      rw [List.append_nil] at k
      exact ⟨_, rfl, k⟩
    | cons c t2 =>
      have hgo : ∀ (j : Nat), j = (esc1 c).length → ∃ m', m' < (c :: t2).length ∧ ∃ u1 u2, m' = u2.length ∧ t1 ++ c :: t2 = u1 ++ u2 ∧ [some (V.ref p), some (V.int (((cs.length + (1 + (escL t1).length) : Nat) : Int) + (j : Int)))] = [some (V.ref p), some (.int ((cs.length + (1 + (escL u1).length) : Nat) : Int))] ∧ H1 = H1 := by
        intro j hj
        refine ⟨t2.length, by simp, t1 ++ [c], t2, rfl, by simp, ?_, rfl⟩
        have e : ((cs.length + (1 + (escL t1).length) : Nat) : Int) + (j : Int) = ((cs.length + (1 + (escL (t1 ++ [c])).length) : Nat) : Int) := by
          rw [escL_app, List.length_append, hj]
          have : (escL [c]).length = (esc1 c).length := by unfold escL; simp
          rw [this]
          omega
        rw [e]
      have es : escL (c :: t2) ++ 34 :: r = esc1 c ++ (escL t2 ++ 34 :: r) := by rw [escL_cons, List.append_assoc]
      rcases esc1_two c with ⟨e, n1, n2, n3⟩ | ⟨x, e, n1, _⟩
      · rw [e] at es
        refine ⟨_, rfl, p, C, dx, _, _, rfl, h1, T.cl, T.n_source, fs_source _ _ _ _ _, _, rfl, _, _, c, rfl, rfl, hz5, hat _ 0 c _ (by omega) es rfl, ?_⟩
        refine ⟨rfl, _, rfl, ?_⟩
        refine ite_oneN (c := c) (d := 34) (fun _ => ?_) (fun z => absurd z n2)
        refine ⟨fun σ' H' => ∃ m', m' < (c :: t2).length ∧ ∃ u1 u2, m' = u2.length ∧ t1 ++ c :: t2 = u1 ++ u2 ∧ σ' = [some (V.ref p), some (.int ((cs.length + (1 + (escL u1).length) : Nat) : Int))] ∧ H' = H1, fun σ' H' z => z, ?_⟩
        refine ⟨_, rfl, p, C, dx, _, _, rfl, h1, T.cl, T.n_source, fs_source _ _ _ _ _, _, rfl, _, _, c, rfl, rfl, hz5, hat _ 0 c _ (by omega) es rfl, ?_⟩
        refine ⟨rfl, _, rfl, ?_⟩
        refine ite_one (c := c) (d := 92) (fun z => absurd z n3) (fun _ => ?_)
        refine ite_b (b := false) (fun z => by cases z) (fun _ => ?_)
        refine ⟨_, rfl, p, C, dx, _, _, rfl, h1, T.cl, T.n_source, fs_source _ _ _ _ _, _, rfl, _, _, c, rfl, rfl, hz5, hat _ 0 c _ (by omega) es rfl, ?_⟩
        refine ⟨rfl, _, rfl, ?_⟩
        refine ite_one (c := c) (d := 10) (fun z => absurd z n1) (fun _ => ?_)
        exact ⟨_, rfl, _, _, rfl, rfl, hgo 1 (by rw [e]; rfl)⟩
      · rw [e] at es
        refine ⟨_, rfl, p, C, dx, _, _, rfl, h1, T.cl, T.n_source, fs_source _ _ _ _ _, _, rfl, _, _, 92, rfl, rfl, hz5, hat _ 0 92 _ (by omega) es rfl, ?_⟩
        refine ⟨rfl, _, rfl, ?_⟩
        refine ite_oneN (c := 92) (d := 34) (fun _ => ?_) (fun z => by cases z)
        refine ⟨fun σ' H' => ∃ m', m' < (c :: t2).length ∧ ∃ u1 u2, m' = u2.length ∧ t1 ++ c :: t2 = u1 ++ u2 ∧ σ' = [some (V.ref p), some (.int ((cs.length + (1 + (escL u1).length) : Nat) : Int))] ∧ H' = H1, fun σ' H' z => z, ?_⟩
        refine ⟨_, rfl, p, C, dx, _, _, rfl, h1, T.cl, T.n_source, fs_source _ _ _ _ _, _, rfl, _, _, 92, rfl, rfl, hz5, hat _ 0 92 _ (by omega) es rfl, ?_⟩
        refine ⟨rfl, _, rfl, ?_⟩
        refine ite_one (c := 92) (d := 92) (fun _ => ?_) (fun z => absurd rfl z)
        refine ⟨_, rfl, p, C, dx, _, _, rfl, h1, T.cl, T.n_source, fs_source _ _ _ _ _, _, rfl, _, _, rfl, rfl, _, _, x, rfl, rfl, hz5, hat _ 1 x _ rfl es rfl, ?_⟩
        refine ⟨rfl, _, rfl, ?_⟩
        refine ite_oneN (c := x) (d := 10) (fun _ => ?_) (fun z => absurd z n1)
        refine ⟨_, rfl, _, _, rfl, rfl, _, rfl, _, _, rfl, rfl, ?_⟩
        have := hgo 2 (by rw [e]; rfl)
        have e4 : ((cs.length + (1 + (escL t1).length) : Nat) : Int) + ((2 : Nat) : Int) = ((cs.length + (1 + (escL t1).length) : Nat) : Int) + 1 + 1 := by omega
        rw [e4] at this
        exact this
end
end VL

set_option Elab.async false
set_option linter.all false
set_option maxRecDepth 100000
set_option maxHeartbeats 4000000
namespace VL
open PySem PySem.Spec PyProof.Rows L2

theorem joinL_ones : ∀ t : List Nat, TL.joinL [] (t.map fun c => [c]) = t
  | [] => rfl
  | [c] => rfl
  | c :: d :: r => by
    have := joinL_ones (d :: r)
    show [c] ++ ([] ++ TL.joinL [] ((d :: r).map fun c => [c])) = c :: d :: r
    rw [this]
    rfl
theorem join_ones (t : List Nat) : Txt.join (TX []) (t.map fun c => TX [c]) = TX t := by
  have := SX.join_S [] (t.map fun c => [c])
  rw [joinL_ones, List.map_map] at this
  exact this
theorem ones_sum : ∀ t : List Nat, ((t.map fun c => TX [c]).map (·.length)).sum = t.length
  | [] => rfl
  | c :: t => by
    have := ones_sum t
    simp only [List.map_cons, List.sum_cons, List.length_cons] at this ⊢
    rw [this]
    have e : (TX [c]).length = 1 := rfl
    omega
theorem escL_len : ∀ t : List Nat, t.length ≤ (escL t).length
  | [] => Nat.zero_le _
  | c :: t => by
    rw [escL_cons, List.length_append, List.length_cons]
    have := escL_len t
    rcases esc1_two c with ⟨e, _⟩ | ⟨x, e, _⟩ <;> rw [e] <;> simp <;> omega
section
variable {P : Program} {w : World} {K : PySem.W.Frag} {mg : Str → Option Value} {base : Heap} {C : Addr}
theorem sc_Scanner_take_text : FnScope ["self", "end", "signs", "at", "sign"] ["self"] (defScope s_Scanner_take_text) := ⟨rfl, rfl, rfl, by decide +kernel, rfl, by decide +kernel, by decide +kernel⟩
theorem ok_take_text (T : Txt K w mg C) : Met P w K mg base 2 C "take_text" (spTextS C) := by
  have Mtext_end : Met P w K mg base 1 C "text_end" (spTextEnd C) := ok_text_end T
  obtain ⟨aE, esE, nE, gE, kE, ⟨u34, e34, r34⟩, ⟨u92, e92, r92⟩, ⟨u110, e110, r110⟩⟩ := T.t_ESCAPES
  refine met_of T.m_take_text T.cl sc_Scanner_take_text (fun vs H Q E h => ?_) (fun f cdv A outer s H vs Q E hr h => ?_)
  · obtain ⟨p, dx, src, cs, r, t, rfl, _⟩ := h
    rfl
  · obtain ⟨p, dx, src, cs, r, t, rfl, h1, hsrc, hlen, k⟩ := h
    have hz5 : (TX src).length ≤ sizeLine := by rw [TX_len]; exact size5 hlen
    have ht5 : t.length ≤ 100000 := by
      have h1 := escL_len t
      have h2 : (escL t).length ≤ src.length := by rw [hsrc]; simp; omega
      omega
    refine ⟨_, (pss_cons (ps_set (i := 1) sc_Scanner_take_text.nd rfl (Or.inl rfl) (pe_mt0 Mtext_end hr (by decide) (pv 0))) (pss_cons (ps_set (i := 2) sc_Scanner_take_text.nd rfl (Or.inl rfl) (pe_lst pa_nil)) (pss_cons (ps_set (i := 3) sc_Scanner_take_text.nd rfl (Or.inl rfl) (pe_op op_add (pe_fld (pv 0) rfl) pe_int)) (pss_cons (ps_while PassesOwn.never (pt_cmpR op_lt (pv 3) (pv 1) (nomark _)) (pss_cons (ps_set (i := 4) sc_Scanner_take_text.nd rfl (Or.inl rfl) (pe_ix ix_str (pe_fld (pv 0) rfl) (pv 3) (fun _ _ => rfl))) (pss_cons (ps_if (pt_cmpR op_eq (pv 4) pe_str (nomark _)) (pss_cons (ps_if (pt_cmpR (op_notIn_kd kE) (pe_ix ix_str (pe_fld (pv 0) rfl) (pe_op op_add (pv 3) pe_int) (fun _ _ => rfl)) (C8.pe_gc (by rfl) gE) rfl) (pss_one ps_never) pss_nil) (pss_cons (ps_set (i := 4) sc_Scanner_take_text.nd rfl (Or.inl rfl) (pe_ix ix_kdict (C8.pe_gc (by rfl) gE) (pe_ix ix_str (pe_fld (pv 0) rfl) (pe_op op_add (pv 3) pe_int) (fun _ _ => rfl)) (fun _ _ => rfl))) (pss_one (ps_aug (i := 3) sc_Scanner_take_text.nd rfl (Or.inl rfl) pe_int ip_add)))) pss_nil) (pss_cons (ps_expr (pe_bm PySem.F.plainAttrs_list PySem.F.slot_list_append PySem.F.type_list_append mt_append (pv 2) (pa_cons (pv 4) pa_nil))) (pss_one (ps_aug (i := 3) sc_Scanner_take_text.nd rfl (Or.inl rfl) pe_int ip_add)))))) (pss_cons (ps_fld (pv 0) (pe_op op_add (pv 1) pe_int) rfl) (pss_one (ps_ret (pe_join pe_str (pv 2))))))))), ?_⟩
    refine ⟨_, rfl, p, dx, _, rfl, h1, rfl, p, dx, src, cs, r, t, rfl, h1, hsrc, hlen, ?_⟩
    refine ⟨Nat.zero_le _, fun l hl => ?_⟩
    have npl : p ≠ l := ne_of_none h1 hl
    have hp : ∀ o, upd H l o p = some (.ins C dx (fsAt src cs)) := fun o => by rw [upd_ne npl]; exact h1
    refine ⟨_, rfl, p, C, dx, _, _, rfl, (hp _), T.cl, T.n_at, fs_at _ _ _ _ _, _, _, rfl, rfl, ?_⟩
    refine ⟨fun m σ H' => ∃ t1 t2 sg, m = t2.length ∧ t = t1 ++ t2 ∧ σ = [some (.ref p), some (.int ((cs.length + (1 + (escL t).length) : Nat) : Int)), some (.ref l), some (.int ((cs.length + (1 + (escL t1).length) : Nat) : Int)), sg] ∧ H' = upd H l (.lst (t1.map fun c => V.str (TX [c]))),
      ⟨_, [], t, none, rfl, rfl, rfl, rfl⟩, ?_⟩
    rintro m σ H1 ⟨t1, t2, sg, rfl, et, rfl, rfl⟩
    have hat : ∀ (x : List Nat) (j : Nat) (c : Nat) (z : Int), z = ((cs.length + (1 + (escL t1).length) : Nat) : Int) + (j : Int) → escL t2 ++ 34 :: r = x → x[j]? = some c → atI (TX src).cps.toList z = some c := by
      intro x j c z hz ex hx
      have e2 : src = cs ++ ((34 :: escL t1) ++ x) := by rw [hsrc, et, escL_app, ← ex]; simp
      rw [e2]
      refine at_app (i := 1 + (escL t1).length + j) (by rw [hz]; omega) ?_
      rw [List.getElem?_append_right (by simp; omega)]
      have e3 : 1 + (escL t1).length + j - (34 :: escL t1).length = j := by simp; omega
      rw [e3]
      exact hx
    refine ⟨_, rfl, _, rfl, _, _, rfl, rfl, _, rfl, ?_⟩
    refine ite2 (fun q => ?_) (fun q => ?_)
    · have q := of_decide_eq_true q
      cases t2 with
      | nil =>
        rw [List.append_nil] at et
        rw [et] at q
        omega
      | cons c t2 =>
        have hgo : ∀ (j : Nat) (sg : Option V), j = (esc1 c).length → ∃ m', m' < (c :: t2).length ∧ ∃ u1 u2 sg2, m' = u2.length ∧ t = u1 ++ u2 ∧ [some (V.ref p), some (.int ((cs.length + (1 + (escL t).length) : Nat) : Int)), some (V.ref l), some (V.int (((cs.length + (1 + (escL t1).length) : Nat) : Int) + (j : Int))), sg] = [some (V.ref p), some (.int ((cs.length + (1 + (escL t).length) : Nat) : Int)), some (.ref l), some (.int ((cs.length + (1 + (escL u1).length) : Nat) : Int)), sg2] ∧
            upd (upd H l (.lst (t1.map fun c => V.str (TX [c])))) l (.lst ((t1.map fun c => V.str (TX [c])) ++ [V.str (TX [c])])) = upd H l (.lst (u1.map fun c => V.str (TX [c]))) := by
          intro j sg hj
          refine ⟨t2.length, by simp, t1 ++ [c], t2, sg, rfl, by rw [et]; simp, ?_, by rw [upd_upd, List.map_append]; rfl⟩
          have e : ((cs.length + (1 + (escL t1).length) : Nat) : Int) + (j : Int) = ((cs.length + (1 + (escL (t1 ++ [c])).length) : Nat) : Int) := by
            rw [escL_app, List.length_append, hj]
            have : (escL [c]).length = (esc1 c).length := by unfold escL; simp
            rw [this]
            omega
          rw [e]
        have es : escL (c :: t2) ++ 34 :: r = esc1 c ++ (escL t2 ++ 34 :: r) := by rw [escL_cons, List.append_assoc]
        have hl1 : upd H l (.lst (t1.map fun c => V.str (TX [c]))) l = some (.lst (t1.map fun c => V.str (TX [c]))) := upd_same
        have hlt : (t1.map fun c => V.str (TX [c])).length < sizeLine := by
          rw [List.length_map]
          have : t1.length ≤ 100000 := by
            have := congrArg List.length et
            rw [List.length_append] at this
            omega
          exact Nat.lt_of_le_of_lt this (by decide)
        refine ⟨fun σ' H' => ∃ m', m' < (c :: t2).length ∧ ∃ u1 u2 sg2, m' = u2.length ∧ t = u1 ++ u2 ∧ σ' = [some (V.ref p), some (.int ((cs.length + (1 + (escL t).length) : Nat) : Int)), some (.ref l), some (.int ((cs.length + (1 + (escL u1).length) : Nat) : Int)), sg2] ∧ H' = upd H l (.lst (u1.map fun c => V.str (TX [c]))), fun σ' H' z => z, ?_⟩
        rcases esc1_two c with ⟨e, n1, n2, n3⟩ | ⟨x, e, n1, hx⟩
        · rw [e] at es
          refine ⟨_, rfl, p, C, dx, _, _, rfl, (hp _), T.cl, T.n_source, fs_source _ _ _ _ _, _, rfl, _, _, c, rfl, rfl, hz5, hat _ 0 c _ (by omega) es rfl, ?_⟩
          refine ⟨_, rfl, rfl, _, rfl, ?_⟩
          refine ite_one (c := c) (d := 92) (fun z => absurd z n3) (fun _ => ?_)
          refine ⟨_, rfl, .inl ⟨rfl, _, SqL.of hl1⟩, _, rfl, l, _, _, rfl, rfl, hl1, hlt, ?_⟩
          exact ⟨_, rfl, _, _, rfl, rfl, hgo 1 _ (by rw [e]; rfl)⟩
        · rw [e] at es
          refine ⟨_, rfl, p, C, dx, _, _, rfl, (hp _), T.cl, T.n_source, fs_source _ _ _ _ _, _, rfl, _, _, 92, rfl, rfl, hz5, hat _ 0 92 _ (by omega) es rfl, ?_⟩
          refine ⟨_, rfl, rfl, _, rfl, ?_⟩
          refine ite_one (c := 92) (d := 92) (fun _ => ?_) (fun z => absurd rfl z)
          have hk : ∃ u, PySem.W.nsIn K aE (TX [x]) = some (some u) ∧ RelV (.str (TX [c])) u := by
            rcases hx with ⟨rfl, rfl⟩ | ⟨rfl, rfl⟩ | ⟨rfl, rfl⟩
            · exact ⟨u110, e110, r110⟩
            · exact ⟨u34, e34, r34⟩
            · exact ⟨u92, e92, r92⟩
          obtain ⟨ux, ex, rx⟩ := hk
          refine ⟨_, rfl, p, C, dx, _, _, rfl, (hp _), T.cl, T.n_source, fs_source _ _ _ _ _, _, rfl, _, _, rfl, rfl, _, _, x, rfl, rfl, hz5, hat _ 1 x _ rfl es rfl, ?_⟩
          refine ⟨_, _, rfl, rfl, ex, _, rfl, ?_⟩
          refine ite_b (b := !(some ux).isSome) (fun z => by cases z) (fun _ => ?_)
          refine ⟨_, rfl, p, C, dx, _, _, rfl, (hp _), T.cl, T.n_source, fs_source _ _ _ _ _, _, rfl, _, _, rfl, rfl, _, _, x, rfl, rfl, hz5, hat _ 1 x _ rfl es rfl, ?_⟩
          refine ⟨aE, _, .str (TX [c]), rfl, rfl, ⟨esE, nE, ux, kE.at_, kE.lit, ex, rx⟩, ?_⟩
          refine ⟨_, rfl, _, _, rfl, rfl, ?_⟩
          refine ⟨_, rfl, .inl ⟨rfl, _, SqL.of hl1⟩, _, rfl, l, _, _, rfl, rfl, hl1, hlt, ?_⟩
          refine ⟨_, rfl, _, _, rfl, rfl, ?_⟩
          have := hgo 2 (some (.str (TX [c]))) (by rw [e]; rfl)
          have e4 : ((cs.length + (1 + (escL t1).length) : Nat) : Int) + ((2 : Nat) : Int) = ((cs.length + (1 + (escL t1).length) : Nat) : Int) + 1 + 1 := by omega
          rw [e4] at this
          exact this
    · have q : ¬ (((cs.length + (1 + (escL t1).length) : Nat) : Int) < ((cs.length + (1 + (escL t).length) : Nat) : Int)) := fun z => q (decide_eq_true z)
      have h2 : t2 = [] := by
        cases t2 with
        | nil => rfl
        | cons c t2 =>
          exfalso
          apply q
          rw [et, escL_app, List.length_append, escL_cons, List.length_append]
          have : 1 ≤ (esc1 c).length := by rcases esc1_two c with ⟨e, _⟩ | ⟨x, e, _⟩ <;> rw [e] <;> simp
          omega
      subst h2
      rw [List.append_nil] at et
      subst et
      refine ⟨_, rfl, _, _, rfl, rfl, _, rfl, p, C, dx, _, rfl, (hp _), T.cl, T.n_at, (by show 5 < 1000; decide), ?_⟩
      rw [putA_at, fsAt_plain (m := 34 :: (escL t ++ [34])) (by simp [escL_nl]) (by simp; omega)]
      have hl2 : upd (upd H l (.lst (t.map fun c => V.str (TX [c])))) p (.ins C dx (fsAt src (cs ++ (34 :: (escL t ++ [34]))))) l = some (.lst (t.map fun c => V.str (TX [c]))) := by rw [upd_ne npl.symm, upd_same]
      refine ⟨⟨_, rfl⟩, _, rfl, TX [], l, t.map fun c => TX [c], rfl, rfl, .inl (SqL.of (by rw [List.map_map]; exact hl2)), ?_, ?_⟩
      · rw [ones_sum]
        have e : (TX []).length = 0 := rfl
        rw [e]
        omega
      · rw [join_ones]
        exact k l hl
end
end VL

set_option Elab.async false
set_option linter.all false
set_option maxRecDepth 100000
set_option maxHeartbeats 4000000
namespace VL
open PySem PySem.Spec PyProof.Rows L2

/-- a token of this sort, with this word, so written, ahead of d -/
inductive Tk : Str → List Nat → List Nat → Nat → Prop where
  | word {c r d} (hc : isLet c = true) (hw : ∀ x ∈ c :: r, isWs x = true) (hd : isWs d = false) : Tk "word" (c :: r) (c :: r) d
  | number {n d} (h : n ≤ 10 ^ 30) (hd : isWs d = false) : Tk "number" (TL.numL n) (TL.numL n) d
  | text {t d} : Tk "text" t (34 :: (escL t ++ [34])) d
  | closing {c r d} (hc : isLet c = true) (hw : ∀ x ∈ c :: r, isWs x = true) (hd : isWs d = false) : Tk "closing" (c :: r) (60 :: 47 :: c :: r) d
  | sign {s d} (h : Sg s d) (h3 : ∀ c, s = [c] → (c = 60 → d ≠ 47) ∧ (c = 47 → d ≠ 47)) : Tk "sign" s s d
theorem sg_head {s : List Nat} {d : Nat} (h : Sg s d) : ∃ c r, s = c :: r ∧ isLet c = false ∧ isDig c = false ∧ c ≠ 34 ∧ c ≠ 10 ∧ c ≠ 32 ∧ 10 ∉ s ∧ (r = [] ∨ ∃ b, r = [b] ∧ b ≠ 47) := by
  cases h with
  | pair h =>
    simp at h
    rcases h with rfl | rfl | rfl | rfl | rfl | rfl | rfl <;> exact ⟨_, _, rfl, by decide, by decide, by decide, by decide, by decide, by decide, .inr ⟨_, rfl, by decide⟩⟩
  | single h _ =>
    have : ∀ c ∈ singlesL, isLet c = false ∧ isDig c = false ∧ c ≠ 34 ∧ c ≠ 10 ∧ c ≠ 32 := by decide
    obtain ⟨h1, h2, h3, h4, h5⟩ := this _ h
    exact ⟨_, [], rfl, h1, h2, h3, h4, h5, by simp [Ne.symm h4], .inl rfl⟩
theorem dig_let {c : Nat} (h : isDig c = true) : isLet c = false := by
  unfold isDig at h
  rw [Bool.and_eq_true, decide_eq_true_eq, decide_eq_true_eq] at h
  unfold isLet
  rw [decide_eq_false (show ¬ 97 ≤ c by omega), decide_eq_false (show ¬ 65 ≤ c by omega)]
  rfl
theorem let_ne {c : Nat} (h : isLet c = true) : c ≠ 10 ∧ c ≠ 32 ∧ c ≠ 47 := by
  refine ⟨fun e => ?_, fun e => ?_, fun e => ?_⟩ <;> subst e <;> revert h <;> decide
theorem dig_ne {c : Nat} (h : isDig c = true) : c ≠ 10 ∧ c ≠ 32 ∧ c ≠ 47 := by
  refine ⟨fun e => ?_, fun e => ?_, fun e => ?_⟩ <;> subst e <;> revert h <;> decide
/-- no token begins with a blank or a comment, none has a newline in it -/
theorem tk_head {so : Str} {wo wr : List Nat} {d : Nat} (h : Tk so wo wr d) : 10 ∉ wr ∧ ∀ r, ∃ c q, wr ++ d :: r = c :: q ∧ wr ≠ [] ∧ c ≠ 10 ∧ c ≠ 32 ∧ ((c :: q).take 2 == [47, 47]) = false := by
  cases h with
  | word hc hw hd =>
    obtain ⟨n1, n2, n3⟩ := let_ne hc
    exact ⟨fun z => ws_nl (hw _ z) rfl, fun r => ⟨_, _, rfl, by simp, n1, n2, by
      refine beq_eq_false_iff_ne.mpr fun e => n3 ?_
      injection e⟩⟩
  | number h hd =>
    rename_i n
    refine ⟨fun z => dig_nl (digits_ws _ z) rfl, fun r => ?_⟩
    cases e : TL.numL n with
    | nil => exact absurd e (TL.numL_ne _)
    | cons c q =>
      obtain ⟨n1, n2, n3⟩ := dig_ne (digits_ws (n := n) c (by rw [e]; exact List.mem_cons_self))
      exact ⟨c, q ++ d :: r, rfl, by simp, n1, n2, by
        refine beq_eq_false_iff_ne.mpr fun e => n3 ?_
        injection e⟩
  | text =>
    exact ⟨by simp [escL_nl], fun r => ⟨34, _, rfl, by simp, by decide, by decide, by
      refine beq_eq_false_iff_ne.mpr fun e => ?_
      injection e with e
      cases e⟩⟩
  | closing hc hw hd =>
    rename_i c q
    refine ⟨?_, fun r => ⟨60, 47 :: ((c :: q) ++ d :: r), rfl, by simp, by decide, by decide, rfl⟩⟩
    intro z
    rcases List.mem_cons.mp z with z | z
    · cases z
    · rcases List.mem_cons.mp z with z | z
      · cases z
      · exact ws_nl (hw _ z) rfl
  | sign h h3 =>
    obtain ⟨c, q, rfl, _, _, _, n1, n2, n10, hq⟩ := sg_head h
    refine ⟨n10, fun r => ⟨c, q ++ d :: r, rfl, by simp, n1, n2, ?_⟩⟩
    refine beq_eq_false_iff_ne.mpr fun e => ?_
    rcases hq with rfl | ⟨b, rfl, hb⟩
    · injection e with e1 e2
      injection e2 with e2
      exact (h3 c rfl).2 e1 e2
    · injection e with e1 e2
      injection e2 with e2
      exact hb e2
def spSort (C : Addr) : Sp := fun vs H Q _ => ∃ (p dx : Addr) (src cs : List Nat), vs = [.ref p] ∧ H p = some (.ins C dx (fsAt src cs)) ∧ src.length ≤ 100000 ∧
  ((∃ so wo wr d r, src = cs ++ (wr ++ d :: r) ∧ Tk so wo wr d ∧ Q (.str so) H) ∨ (src = cs ++ [10] ∧ Q (.str "end") H))
def spWord (C : Addr) : Sp := fun vs H Q _ => ∃ (p dx : Addr) (src cs : List Nat) (so : Str), vs = [.ref p, .str so] ∧ H p = some (.ins C dx (fsAt src cs)) ∧ src.length ≤ 100000 ∧
  ((∃ wo wr d r, src = cs ++ (wr ++ d :: r) ∧ Tk so wo wr d ∧ ∀ H', H' p = some (.ins C dx (fsAt src (cs ++ wr))) → (∀ b o, H b = some o → b ≠ p → H' b = some o) → Q (.str (TX wo)) H') ∨ (so = "end" ∧ Q (.str (TX [])) H))
def spToken (C : Addr) : Sp := fun vs H Q _ => ∃ (p dx : Addr) (src cs R : List Nat), vs = [.ref p] ∧ H p = some (.ins C dx (fsAt src cs)) ∧ src.length ≤ 100000 ∧ src = cs ++ R ∧
  ((∃ so wo wr d r, Skips R (wr ++ d :: r) ∧ Tk so wo wr d ∧ ∀ cs1 t H', src = cs1 ++ (wr ++ d :: r) → H' p = some (.ins C dx (fsAt src (cs1 ++ wr))) → H t = none → H' t = some (.tup [.str so, .str (TX wo), .int (lnOf cs1 : Int), .int ((clOf cs1 : Int) + 1)]) →
      (∀ b o, H b = some o → b ≠ p → H' b = some o) → Q (.ref t) H') ∨
    (Skips R [10] ∧ ∀ cs1 t H', src = cs1 ++ [10] → H' p = some (.ins C dx (fsAt src cs1)) → H t = none → H' t = some (.tup [.str "end", .str (TX []), .int (lnOf cs1 : Int), .int ((clOf cs1 : Int) + 1)]) →
      (∀ b o, H b = some o → b ≠ p → H' b = some o) → Q (.ref t) H'))
section
variable {P : Program} {w : World} {K : PySem.W.Frag} {mg : Str → Option Value} {base : Heap} {C : Addr}
theorem sc_Scanner_next_sort : FnScope ["self", "sign"] ["self"] (defScope s_Scanner_next_sort) := ⟨rfl, rfl, rfl, by decide +kernel, rfl, by decide +kernel, by decide +kernel⟩
theorem ok_next_sort (T : Txt K w mg C) : Met P w K mg base 2 C "next_sort" (spSort C) := by
  have Gis_letter : Cal P w K mg base 1 "is_letter" spLet := ok_is_letter T
  have Gis_digit : Cal P w K mg base 1 "is_digit" spDig := ok_is_digit T
  refine met_of T.m_next_sort T.cl sc_Scanner_next_sort (fun vs H Q E h => ?_) (fun f cdv A outer s H vs Q E hr h => ?_)
  · obtain ⟨p, dx, src, cs, rfl, _⟩ := h
    rfl
  · obtain ⟨p, dx, src, cs, rfl, h1, hlen, k⟩ := h
    have hz5 : (TX src).length ≤ sizeLine := by rw [TX_len]; exact size5 hlen
    refine ⟨_, (pss_cons (ps_set (i := 1) sc_Scanner_next_sort.nd rfl (Or.inl rfl) (pe_ix ix_str (pe_fld (pv 0) rfl) (pe_fld (pv 0) rfl) (fun _ _ => rfl))) (pss_cons (ps_if (pt_cmpR op_eq (pe_fld (pv 0) rfl) (pe_fld (pv 0) rfl) (nomark _)) (pss_one (ps_ret pe_str)) pss_nil) (pss_cons (ps_if (pt_val (pe_c Gis_letter hr (by decide) (by rfl) (pa_cons (pv 1) pa_nil))) (pss_one (ps_ret pe_str)) pss_nil) (pss_cons (ps_if (pt_val (pe_c Gis_digit hr (by decide) (by rfl) (pa_cons (pv 1) pa_nil))) (pss_one (ps_ret pe_str)) pss_nil) (pss_cons (ps_if (pt_cmpR op_eq (pv 1) pe_str (nomark _)) (pss_one (ps_ret pe_str)) pss_nil) (pss_cons (ps_if ((pw_and (pt_val (pe_bm PySem.F.plainAttrs_str PySem.F.slot_str_startswith PySem.F.type_str_startswith mt_startswith3 (pe_fld (pv 0) rfl) (pa_cons pe_str (pa_cons (pe_fld (pv 0) rfl) pa_nil)))) (pw_and1 (pt_val (pe_c Gis_letter hr (by decide) (by rfl) (pa_cons (pe_ix ix_str (pe_fld (pv 0) rfl) (pe_op op_add (pe_fld (pv 0) rfl) pe_int) (fun _ _ => rfl)) pa_nil)))))).pt (pss_one (ps_ret pe_str)) pss_nil) (pss_one (ps_ret pe_str)))))))), ?_⟩
    rcases k with ⟨so, wo, wr, d, r, hsrc, tk, k⟩ | ⟨hsrc, k⟩
    · obtain ⟨h10, hh⟩ := tk_head tk
      obtain ⟨c, q, ec, nw, n1, n2, n3⟩ := hh r
      have hl : cs.length + 2 ≤ src.length := by
        have : 1 ≤ wr.length := List.length_pos_iff.mpr nw
        rw [hsrc, List.length_append, List.length_append, List.length_cons]
        omega
      have hat : atI (TX src).cps.toList (cs.length : Int) = some c := by rw [hsrc, ec]; exact at_mid rfl
      refine ⟨_, rfl, p, C, dx, _, _, rfl, h1, T.cl, T.n_source, fs_source _ _ _ _ _, _, rfl, p, C, dx, _, _, rfl, h1, T.cl, T.n_at, fs_at _ _ _ _ _, _, _, c, rfl, rfl, hz5, hat, ?_⟩
      refine ⟨_, rfl, p, C, dx, _, _, rfl, h1, T.cl, T.n_at, fs_at _ _ _ _ _, _, rfl, p, C, dx, _, _, rfl, h1, T.cl, T.n_end, fs_end _ _ _ _ _, rfl, _, rfl, ?_⟩
      refine ite_b (fun z => ?_) (fun _ => ?_)
      · have z := of_decide_eq_true z
        injection z with z
        omega
      refine ⟨_, rfl, c, rfl, _, rfl, ?_⟩
      refine ite_b (b := isLet c) (fun z => ?_) (fun z => ?_)
      · cases tk with
        | word hc hw hd => exact k
        | number h hd =>
          rename_i n
          have : isDig c = true := by
            cases e : TL.numL n with
            | nil => exact absurd e (TL.numL_ne _)
            | cons c2 r2 =>
              rw [e] at ec
              injection ec with ec
              exact digits_ws (n := n) c (by rw [e, ec]; exact List.mem_cons_self)
          rw [dig_let this] at z
          cases z
        | text =>
          injection ec with ec
          exfalso
          rw [← ec] at z
          revert z
          decide
        | closing hc hw hd =>
          injection ec with ec
          exfalso
          rw [← ec] at z
          revert z
          decide
        | sign h h3 =>
          obtain ⟨c2, q2, rfl, m1, _⟩ := sg_head h
          injection ec with ec
          rw [← ec, m1] at z
          cases z
      refine ⟨_, rfl, c, rfl, _, rfl, ?_⟩
      refine ite_b (b := isDig c) (fun z2 => ?_) (fun z2 => ?_)
      · cases tk with
        | word hc hw hd =>
          injection ec with ec
          rw [ec, z] at hc
          cases hc
        | number h hd => exact k
        | text =>
          injection ec with ec
          exfalso
          rw [← ec] at z2
          revert z2
          decide
        | closing hc hw hd =>
          injection ec with ec
          exfalso
          rw [← ec] at z2
          revert z2
          decide
        | sign h h3 =>
          obtain ⟨c2, q2, rfl, _, m1, _⟩ := sg_head h
          injection ec with ec
          rw [← ec, m1] at z2
          cases z2
      refine ⟨_, rfl, rfl, _, rfl, ?_⟩
      refine ite_one (c := c) (d := 34) (fun z3 => ?_) (fun z3 => ?_)
      · cases tk with
        | word hc hw hd =>
          injection ec with ec
          rw [ec, z] at hc
          cases hc
        | number h hd =>
          rename_i n
          have : isDig c = true := by
            cases e : TL.numL n with
            | nil => exact absurd e (TL.numL_ne _)
            | cons c2 r2 =>
              rw [e] at ec
              injection ec with ec
              exact digits_ws (n := n) c (by rw [e, ec]; exact List.mem_cons_self)
          rw [z2] at this
          cases this
        | text => exact k
        | closing hc hw hd =>
          injection ec with ec
          rw [← ec] at z3
          cases z3
        | sign h h3 =>
          obtain ⟨c2, q2, rfl, _, _, m1, _⟩ := sg_head h
          injection ec with ec
          exact absurd (ec.trans z3) m1
      have est : Txt.startswith3 (TX src) (TX [60, 47]) (cs.length : Int) = ((wr ++ d :: r).take 2 == [60, 47]) := by rw [hsrc]; exact starts_at rfl
      refine ⟨_, rfl, p, C, dx, _, _, rfl, h1, T.cl, T.n_source, fs_source _ _ _ _ _, rfl, _, rfl, p, C, dx, _, _, rfl, h1, T.cl, T.n_at, fs_at _ _ _ _ _, _, _, _, rfl, rfl, _, rfl, ?_⟩
      refine ite_b (b := Txt.startswith3 (TX src) (TX [60, 47]) (cs.length : Int)) (fun z4 => ?_) (fun z4 => ?_)
      · rw [est] at z4
        replace z4 := eq_of_beq z4
        cases tk with
        | word hc hw hd =>
          injection ec with ec
          rw [ec, z] at hc
          cases hc
        | number h hd =>
          rename_i n
          have : isDig c = true := by
            cases e : TL.numL n with
            | nil => exact absurd e (TL.numL_ne _)
            | cons c2 r2 =>
              rw [e] at ec
              injection ec with ec
              exact digits_ws (n := n) c (by rw [e, ec]; exact List.mem_cons_self)
          rw [z2] at this
          cases this
        | text =>
          injection z4 with z4
          cases z4
        | closing hc hw hd =>
          rename_i c3 r3
          refine ⟨_, rfl, p, C, dx, _, _, rfl, h1, T.cl, T.n_source, fs_source _ _ _ _ _, _, rfl, p, C, dx, _, _, rfl, h1, T.cl, T.n_at, fs_at _ _ _ _ _, _, _, rfl, rfl, _, _, c3, rfl, rfl, hz5, (by rw [hsrc]; exact at_app (m := 60 :: 47 :: c3 :: r3) (i := 2) rfl rfl), ?_⟩
          refine ⟨c3, rfl, _, rfl, ?_⟩
          refine ite_b (b := isLet c3) (fun _ => k) (fun z5 => absurd hc (by rw [z5]; decide))
        | sign h h3 =>
          obtain ⟨c2, q2, rfl, _, _, _, _, _, _, hq⟩ := sg_head h
          exfalso
          rcases hq with rfl | ⟨b, rfl, hb⟩
          · injection z4 with e1 e2
            injection e2 with e2
            exact (h3 c2 rfl).1 e1 e2
          · injection z4 with e1 e2
            injection e2 with e2
            exact hb e2
      · rw [est] at z4
        refine ite_b (b := false) (fun z => by cases z) (fun _ => ?_)
        cases tk with
        | word hc hw hd =>
          injection ec with ec
          rw [ec, z] at hc
          cases hc
        | number h hd =>
          rename_i n
          have : isDig c = true := by
            cases e : TL.numL n with
            | nil => exact absurd e (TL.numL_ne _)
            | cons c2 r2 =>
              rw [e] at ec
              injection ec with ec
              exact digits_ws (n := n) c (by rw [e, ec]; exact List.mem_cons_self)
          rw [z2] at this
          cases this
        | text =>
          injection ec with ec
          exact absurd ec.symm z3
        | closing hc hw hd => cases z4
        | sign h h3 => exact k
    · have hat : atI (TX src).cps.toList (cs.length : Int) = some 10 := by rw [hsrc]; exact at_mid rfl
      refine ⟨_, rfl, p, C, dx, _, _, rfl, h1, T.cl, T.n_source, fs_source _ _ _ _ _, _, rfl, p, C, dx, _, _, rfl, h1, T.cl, T.n_at, fs_at _ _ _ _ _, _, _, 10, rfl, rfl, hz5, hat, ?_⟩
      refine ⟨_, rfl, p, C, dx, _, _, rfl, h1, T.cl, T.n_at, fs_at _ _ _ _ _, _, rfl, p, C, dx, _, _, rfl, h1, T.cl, T.n_end, fs_end _ _ _ _ _, rfl, _, rfl, ?_⟩
      refine ite_b (fun _ => k) (fun z => ?_)
      exfalso
      have z := of_decide_eq_false z
      apply z
      rw [hsrc]
      simp
end
end VL

set_option Elab.async false
set_option linter.all false
set_option maxRecDepth 100000
set_option maxHeartbeats 4000000
namespace VL
open PySem PySem.Spec PyProof.Rows L2
theorem skips_suf : ∀ {R R' : List Nat}, Skips R R' → ∃ g, R = g ++ R' := by
  intro R R' h
  induction h with
  | stop h => exact ⟨[], rfl⟩
  | done h1 h2 h3 => exact ⟨[], rfl⟩
  | sp h k ih => obtain ⟨g, e⟩ := ih; exact ⟨32 :: g, by rw [e]; rfl⟩
  | nl h k ih => obtain ⟨g, e⟩ := ih; exact ⟨10 :: g, by rw [e]; rfl⟩
  | @com c R R' h k ih => obtain ⟨g, e⟩ := ih; exact ⟨47 :: 47 :: (c ++ g), by rw [e]; simp⟩
theorem ite_lit {a b : Str} {A B : Prop} (h : A) (e : a = b) : if decide (V.str a = V.str b) = true then A else B := by
  subst e
  rw [if_pos (by simp)]
  exact h
theorem ite_litN {a b : Str} {A B : Prop} (h : B) (e : a ≠ b) : if decide (V.str a = V.str b) = true then A else B := by
  rw [if_neg (by simp [e])]
  exact h
section
variable {P : Program} {w : World} {K : PySem.W.Frag} {mg : Str → Option Value} {base : Heap} {C : Addr}
theorem sc_Scanner_take_word : FnScope ["self", "sort"] ["self", "sort"] (defScope s_Scanner_take_word) := ⟨rfl, rfl, rfl, by decide +kernel, rfl, by decide +kernel, by decide +kernel⟩
theorem ok_take_word (T : Txt K w mg C) : Met P w K mg base 4 C "take_word" (spWord C) := by
  have Mtake_name : Met P w K mg base 3 C "take_name" (spName C) := ok_take_name T
  have Mtake_number : Met P w K mg base 3 C "take_number" (spNumber C) := ok_take_number T
  have Mtake_text : Met P w K mg base 2 C "take_text" (spTextS C) := ok_take_text T
  have Mtake_sign : Met P w K mg base 2 C "take_sign" (spSign C) := ok_take_sign T
  refine met_of T.m_take_word T.cl sc_Scanner_take_word (fun vs H Q E h => ?_) (fun f cdv A outer s H vs Q E hr h => ?_)
  · obtain ⟨p, dx, src, cs, so, rfl, _⟩ := h
    rfl
  · obtain ⟨p, dx, src, cs, so, rfl, h1, hlen, k⟩ := h
    refine ⟨_, (pss_cons (ps_if (pt_cmpR op_eq (pv 1) pe_str (nomark _)) (pss_one (ps_ret pe_str)) pss_nil) (pss_cons (ps_if (pt_cmpR op_eq (pv 1) pe_str (nomark _)) (pss_one (ps_ret (pe_mt0 Mtake_number hr (by decide) (pv 0)))) pss_nil) (pss_cons (ps_if (pt_cmpR op_eq (pv 1) pe_str (nomark _)) (pss_one (ps_ret (pe_mt0 Mtake_text hr (by decide) (pv 0)))) pss_nil) (pss_cons (ps_if (pt_cmpR op_eq (pv 1) pe_str (nomark _)) (pss_one (ps_ret (pe_mt0 Mtake_sign hr (by decide) (pv 0)))) pss_nil) (pss_cons (ps_if (pt_cmpR op_eq (pv 1) pe_str (nomark _)) (pss_one (ps_fldaug (pv 0) (pe_callB call_len_str (by rfl) T.z_len PySem.boot_len (pa_cons pe_str pa_nil)) in_add)) pss_nil) (pss_one (ps_ret (pe_mt0 Mtake_name hr (by decide) (pv 0))))))))), ?_⟩
    rcases k with ⟨wo, wr, d, r, hsrc, tk, k⟩ | ⟨rfl, k⟩
    · have kp : ∀ o, (∀ b u, H b = some u → b ≠ p → upd H p o b = some u) := fun o b u e n => by rw [upd_ne n]; exact e
      cases tk with
      | word hc hw hd =>
        refine ⟨_, rfl, rfl, _, rfl, ite_litN ?_ (by decide +kernel)⟩
        refine ⟨_, rfl, rfl, _, rfl, ite_litN ?_ (by decide +kernel)⟩
        refine ⟨_, rfl, rfl, _, rfl, ite_litN ?_ (by decide +kernel)⟩
        refine ⟨_, rfl, rfl, _, rfl, ite_litN ?_ (by decide +kernel)⟩
        refine ⟨_, rfl, rfl, _, rfl, ite_litN ?_ (by decide +kernel)⟩
        exact ⟨_, rfl, p, dx, _, rfl, h1, rfl, p, dx, src, cs, _, r, d, rfl, h1, hsrc, hlen, hw, hd, k _ upd_same (kp _)⟩
      | number h hd =>
        refine ⟨_, rfl, rfl, _, rfl, ite_litN ?_ (by decide +kernel)⟩
        refine ⟨_, rfl, rfl, _, rfl, ite_lit ?_ rfl⟩
        exact ⟨_, rfl, p, dx, _, rfl, h1, rfl, p, dx, src, cs, r, _, d, rfl, h1, hsrc, hlen, h, hd, k _ upd_same (kp _)⟩
      | text =>
        refine ⟨_, rfl, rfl, _, rfl, ite_litN ?_ (by decide +kernel)⟩
        refine ⟨_, rfl, rfl, _, rfl, ite_litN ?_ (by decide +kernel)⟩
        refine ⟨_, rfl, rfl, _, rfl, ite_lit ?_ rfl⟩
        refine ⟨_, rfl, p, dx, _, rfl, h1, rfl, p, dx, src, cs, d :: r, wo, rfl, h1, (by rw [hsrc]; simp), hlen, fun l hl => ?_⟩
        refine k _ upd_same fun b u e n => ?_
        rw [upd_ne n, upd_ne (ne_of_none e hl)]
        exact e
      | closing hc hw hd =>
        rename_i c q
        refine ⟨_, rfl, rfl, _, rfl, ite_litN ?_ (by decide +kernel)⟩
        refine ⟨_, rfl, rfl, _, rfl, ite_litN ?_ (by decide +kernel)⟩
        refine ⟨_, rfl, rfl, _, rfl, ite_litN ?_ (by decide +kernel)⟩
        refine ⟨_, rfl, rfl, _, rfl, ite_litN ?_ (by decide +kernel)⟩
        refine ⟨_, rfl, rfl, _, rfl, ite_lit ?_ rfl⟩
        refine ⟨_, rfl, p, C, dx, _, _, rfl, h1, T.cl, T.n_at, fs_at _ _ _ _ _, _, rfl, (by decide), _, _, rfl, rfl, dx, _, h1, (by show 5 < 1000; decide), ?_⟩
        rw [putA_at, fsAt_plain (m := [60, 47]) (by decide) (by simp; rfl)]
        have h2 : upd H p (.ins C dx (fsAt src (cs ++ [60, 47]))) p = some (.ins C dx (fsAt src (cs ++ [60, 47]))) := upd_same
        refine ⟨_, rfl, p, dx, _, rfl, h2, rfl, p, dx, src, cs ++ [60, 47], c :: q, r, d, rfl, h2, (by rw [hsrc]; simp), hlen, hw, hd, ?_⟩
        rw [upd_upd]
        have e : cs ++ [60, 47] ++ c :: q = cs ++ 60 :: 47 :: c :: q := by simp
        rw [e]
        exact k _ upd_same (kp _)
      | sign h h3 =>
        refine ⟨_, rfl, rfl, _, rfl, ite_litN ?_ (by decide +kernel)⟩
        refine ⟨_, rfl, rfl, _, rfl, ite_litN ?_ (by decide +kernel)⟩
        refine ⟨_, rfl, rfl, _, rfl, ite_litN ?_ (by decide +kernel)⟩
        refine ⟨_, rfl, rfl, _, rfl, ite_lit ?_ rfl⟩
        exact ⟨_, rfl, p, dx, _, rfl, h1, rfl, p, dx, src, cs, r, _, d, rfl, h1, hsrc, hlen, h, k _ upd_same (kp _)⟩
    · refine ⟨_, rfl, rfl, _, rfl, ite_lit ?_ rfl⟩
      exact k
theorem sc_Scanner_token : FnScope ["self", "column", "sort"] ["self"] (defScope s_Scanner_token) := ⟨rfl, rfl, rfl, by decide +kernel, rfl, by decide +kernel, by decide +kernel⟩
theorem ok_token (T : Txt K w mg C) : Met P w K mg base 5 C "token" (spToken C) := by
  have Mskip : Met P w K mg base 1 C "skip" (spSkip C) := ok_skip T
  have Mcolumn_of : Met P w K mg base 1 C "column_of" (spColumn C) := ok_column_of T
  have Mnext_sort : Met P w K mg base 2 C "next_sort" (spSort C) := ok_next_sort T
  have Mtake_word : Met P w K mg base 4 C "take_word" (spWord C) := ok_take_word T
  refine met_of T.m_token T.cl sc_Scanner_token (fun vs H Q E h => ?_) (fun f cdv A outer s H vs Q E hr h => ?_)
  · obtain ⟨p, dx, src, cs, R, rfl, _⟩ := h
    rfl
  · obtain ⟨p, dx, src, cs, R, rfl, h0, hlen, hsrc, k⟩ := h
    refine ⟨_, (pss_cons (ps_expr (pe_mt0 Mskip hr (by decide) (pv 0))) (pss_cons (ps_set (i := 1) sc_Scanner_token.nd rfl (Or.inl rfl) (pe_mt Mcolumn_of hr (by decide) (pv 0) (pa_cons (pe_fld (pv 0) rfl) pa_nil))) (pss_cons (ps_set (i := 2) sc_Scanner_token.nd rfl (Or.inl rfl) (pe_mt0 Mnext_sort hr (by decide) (pv 0))) (pss_one (ps_ret (pe_tup (pa_cons (pv 2) (pa_cons (pe_mt Mtake_word hr (by decide) (pv 0) (pa_cons (pv 2) pa_nil)) (pa_cons (pe_fld (pv 0) rfl) (pa_cons (pv 1) pa_nil)))))))))), ?_⟩
    rcases k with ⟨so, wo, wr, d, r, sk, tk, k⟩ | ⟨sk, k⟩
    · refine ⟨_, rfl, p, dx, _, rfl, h0, rfl, p, dx, src, cs, R, _, rfl, h0, hsrc, hlen, sk, fun cs1 e1 => ?_⟩
      have h1 : upd H p (.ins C dx (fsAt src cs1)) p = some (.ins C dx (fsAt src cs1)) := upd_same
      have kp1 : ∀ b u, H b = some u → b ≠ p → upd H p (.ins C dx (fsAt src cs1)) b = some u := fun b u e n => by rw [upd_ne n]; exact e
      refine ⟨_, rfl, p, dx, _, rfl, h1, rfl, _, rfl, p, C, dx, _, _, rfl, h1, T.cl, T.n_at, fs_at _ _ _ _ _, p, dx, src, cs1, rfl, h1, ?_⟩
      refine ⟨_, rfl, p, dx, _, rfl, h1, rfl, p, dx, src, cs1, rfl, h1, hlen, .inl ⟨so, wo, wr, d, r, e1, tk, ?_⟩⟩
      refine ⟨_, rfl, _, rfl, p, dx, _, rfl, h1, rfl, _, rfl, p, dx, src, cs1, so, rfl, h1, hlen, .inl ⟨wo, wr, d, r, e1, tk, fun H' h2 kp2 => ?_⟩⟩
      refine ⟨_, rfl, p, C, dx, _, _, rfl, h2, T.cl, T.n_line, fs_line _ _ _ _ _, _, rfl, (by show 4 ≤ sizeLine; decide), fun t ht => ?_⟩
      have npt : p ≠ t := ne_of_none h2 ht
      have htn : H t = none := by
        cases q : H t with
        | none => rfl
        | some u =>
          have := kp2 t u (kp1 t u q npt.symm) npt.symm
          rw [ht] at this
          cases this
      have e10 := (tk_head tk).1
      refine k cs1 t _ e1 (by rw [upd_ne npt]; exact h2) htn ?_ fun b u e n => ?_
      · rw [upd_same]
        have e2 : lnOf (cs1 ++ wr) = lnOf cs1 := ln_plain _ _ e10
        rw [e2]
      · have := kp2 b u (kp1 b u e n) n
        rw [upd_ne (ne_of_none this ht)]
        exact this
    · refine ⟨_, rfl, p, dx, _, rfl, h0, rfl, p, dx, src, cs, R, _, rfl, h0, hsrc, hlen, sk, fun cs1 e1 => ?_⟩
      have h1 : upd H p (.ins C dx (fsAt src cs1)) p = some (.ins C dx (fsAt src cs1)) := upd_same
      have kp1 : ∀ b u, H b = some u → b ≠ p → upd H p (.ins C dx (fsAt src cs1)) b = some u := fun b u e n => by rw [upd_ne n]; exact e
      refine ⟨_, rfl, p, dx, _, rfl, h1, rfl, _, rfl, p, C, dx, _, _, rfl, h1, T.cl, T.n_at, fs_at _ _ _ _ _, p, dx, src, cs1, rfl, h1, ?_⟩
      refine ⟨_, rfl, p, dx, _, rfl, h1, rfl, p, dx, src, cs1, rfl, h1, hlen, .inr ⟨e1, ?_⟩⟩
      refine ⟨_, rfl, _, rfl, p, dx, _, rfl, h1, rfl, _, rfl, p, dx, src, cs1, _, rfl, h1, hlen, .inr ⟨rfl, ?_⟩⟩
      refine ⟨_, rfl, p, C, dx, _, _, rfl, h1, T.cl, T.n_line, fs_line _ _ _ _ _, _, rfl, (by show 4 ≤ sizeLine; decide), fun t ht => ?_⟩
      have npt : p ≠ t := ne_of_none h1 ht
      have htn : H t = none := by rw [upd_ne npt.symm] at ht; exact ht
      refine k cs1 t _ e1 (by rw [upd_ne npt]; exact h1) htn upd_same fun b u e n => ?_
      have := kp1 b u e n
      rw [upd_ne (ne_of_none this ht)]
      exact this
end
end VL

set_option Elab.async false
set_option linter.all false
set_option maxRecDepth 100000
set_option maxHeartbeats 4000000
namespace VL
open PySem PySem.Spec PyProof.Rows L2

abbrev Tok4 := Str × List Nat × Nat × Nat
def vTok (t : Tok4) : List V := [.str t.1, .str (TX t.2.1), .int (t.2.2.1 : Int), .int ((t.2.2.2 : Int) + 1)]
/-- from behind cs on, where R is left, these tokens are read -/
inductive Lx : List Nat → List Nat → List Tok4 → Prop where
  | done {cs R cs1} (sk : Skips R [10]) (e : cs ++ R = cs1 ++ [10]) : Lx cs R [("end", [], lnOf cs1, clOf cs1)]
  | tok {cs R cs1 so wo wr d r l} (sk : Skips R (wr ++ d :: r)) (tk : Tk so wo wr d) (e : cs ++ R = cs1 ++ (wr ++ d :: r)) (rest : Lx (cs1 ++ wr) (d :: r) l) : Lx cs R ((so, wo, lnOf cs1, clOf cs1) :: l)
theorem tk_ne_end {so : Str} {wo wr : List Nat} {d : Nat} (h : Tk so wo wr d) : so ≠ "end" := by
  cases h <;> decide +kernel
theorem suffix_inj {α : Type} {a b c : List α} (h : a ++ c = b ++ c) : a = b := List.append_cancel_right h
theorem paired_snoc {α β : Type} {G : α → β → Prop} {a : α} {b : β} (h : G a b) : ∀ {l₁ : List α} {l₂ : List β}, Paired G l₁ l₂ → Paired G (l₁ ++ [a]) (l₂ ++ [b])
  | _, _, .nil => .cons h .nil
  | _, _, .cons r t => .cons r (paired_snoc h t)
theorem paired_mono {α β : Type} {F G : α → β → Prop} (f : ∀ a b, F a b → G a b) : ∀ {l₁ : List α} {l₂ : List β}, Paired F l₁ l₂ → Paired G l₁ l₂
  | _, _, .nil => .nil
  | _, _, .cons r t => .cons (f _ _ r) (paired_mono f t)
/-- one token more -/
theorem lx_token {C p dx : Addr} {src cs R : List Nat} {tk : Tok4} {l : List Tok4} {H : Hp} {Q : VK} {E : XK} (L : Lx cs R (tk :: l)) (hsrc : src = cs ++ R) (hlen : src.length ≤ 100000) (h : H p = some (.ins C dx (fsAt src cs)))
    (k : ∀ t H', H t = none → H' t = some (.tup (vTok tk)) → (∀ b o, H b = some o → b ≠ p → H' b = some o) → ((l = [] ∧ tk.1 = "end") ∨ (tk.1 ≠ "end" ∧ ∃ cs' R', src = cs' ++ R' ∧ H' p = some (.ins C dx (fsAt src cs')) ∧ Lx cs' R' l)) → Q (.ref t) H') :
    spToken C [.ref p] H Q E := by
  refine ⟨p, dx, src, cs, R, rfl, h, hlen, hsrc, ?_⟩
  cases L with
  | @done _ _ cs1 sk e =>
    refine .inr ⟨sk, fun cs2 t H' e2 hp ht h2 kp => ?_⟩
    have ec : cs2 = cs1 := suffix_inj (c := [10]) (by rw [← e2, ← e, hsrc])
    subst ec
    exact k t H' ht h2 kp (.inl ⟨rfl, rfl⟩)
  | @tok _ _ cs1 so wo wr d r _ sk tk e rest =>
    refine .inl ⟨so, wo, wr, d, r, sk, tk, fun cs2 t H' e2 hp ht h2 kp => ?_⟩
    have ec : cs2 = cs1 := suffix_inj (c := wr ++ d :: r) (by rw [← e2, ← e, hsrc])
    subst ec
    exact k t H' ht h2 kp (.inr ⟨tk_ne_end tk, cs2 ++ wr, d :: r, by rw [e2, List.append_assoc], hp, rest⟩)
def spInitS (C : Addr) : Sp := fun vs H Q _ => ∃ (p dx : Addr) (s : List Nat), vs = [.ref p, .str (TX s)] ∧ H p = some (.ins C dx []) ∧ s.length ≤ 100000 ∧ Q .non (upd H p (.ins C dx (fsAt (s ++ [10]) [])))
def spTokens : Sp := fun vs H Q _ => ∃ (s : List Nat) (due : List Tok4), vs = [.str (TX s)] ∧ s.length ≤ 20000 ∧ due.length ≤ 100 ∧ Lx [] (s ++ [10]) due ∧
  ∀ H' l ts, Same H H' → H' l = some (.lst (ts.map V.ref)) → Paired (fun t tk => H' t = some (.tup (vTok tk))) ts due → Q (.ref l) H'
theorem lx_ne {cs R : List Nat} {due : List Tok4} (h : Lx cs R due) : ∃ tk l, due = tk :: l := by
  cases h with
  | done _ _ => exact ⟨_, _, rfl⟩
  | tok _ _ _ _ => exact ⟨_, _, rfl⟩
theorem meth0 {sp : Sp} {x : V} {σ : L2.St} {H : Hp} {Q : VK} {E : XK} (h : sp [x] H Q E) : tNil σ H fun vs H2 => sp (x :: (vs ++ [])) H2 Q E := h
theorem last_at {α : Type} {xs : List α} {x : α} : atI (xs ++ [x]) (-1) = some x := by
  unfold atI ixN
  rw [if_neg (by decide), if_pos (by rw [List.length_append]; simp; omega)]
  show (xs ++ [x])[_]? = _
  have e : (-1 + ((xs ++ [x]).length : Int)).toNat = xs.length := by rw [List.length_append]; simp; omega
  rw [e]
  simp
section
variable {P : Program} {w : World} {K : PySem.W.Frag} {mg : Str → Option Value} {base : Heap} {C : Addr}
theorem sc_Scanner___init__ : FnScope ["self", "source"] ["self", "source"] (defScope s_Scanner___init__) := ⟨rfl, rfl, rfl, by decide +kernel, rfl, by decide +kernel, by decide +kernel⟩
theorem ok_init (T : Txt K w mg C) : Mak P w K mg base 1 "Scanner" C (spInitS C) := by
  refine mak_of T.i_Scanner sc_Scanner___init__ (fun vs H Q E h => ?_) (fun f cdv A outer s H vs Q E hr h => ?_)
  · obtain ⟨p, dx, s, rfl, _⟩ := h
    rfl
  · obtain ⟨p, dx, z, rfl, h1, hlen, k⟩ := h
    refine ⟨_, (pss_cons (ps_fld (pv 0) (pe_op op_add_str (pv 1) pe_str) rfl) (pss_cons (ps_fld (pv 0) (pe_callB call_len_str (by rfl) T.z_len PySem.boot_len (pa_cons (pv 1) pa_nil)) rfl) (pss_cons (ps_fld (pv 0) pe_int rfl) (pss_cons (ps_fld (pv 0) pe_int rfl) (pss_one (ps_fld (pv 0) pe_int rfl)))))), ?_⟩
    refine ⟨_, rfl, _, _, rfl, rfl, (by rw [TX_len]; show z.length + 1 ≤ sizeLine; exact Nat.le_trans (Nat.succ_le_succ hlen) (by decide)), ?_⟩
    refine ⟨_, rfl, p, C, dx, _, rfl, h1, T.cl, T.n_source, (by show 0 < 1000; decide), ?_⟩
    refine ⟨_, rfl, _, rfl, (by rw [TX_len]; exact size5 hlen), ?_⟩
    refine ⟨_, rfl, p, C, dx, _, rfl, (by exact upd_same), T.cl, T.n_end, (by show 1 < 1000; decide), ?_⟩
    refine ⟨_, rfl, p, C, dx, _, rfl, (by exact upd_same), T.cl, T.n_at, (by show 2 < 1000; decide), ?_⟩
    refine ⟨_, rfl, p, C, dx, _, rfl, (by exact upd_same), T.cl, T.n_line, (by show 3 < 1000; decide), ?_⟩
    refine ⟨_, rfl, p, C, dx, _, rfl, (by exact upd_same), T.cl, T.n_line_begin, (by show 4 < 1000; decide), ?_⟩
    rw [upd_upd, upd_upd, upd_upd, upd_upd]
    have e : fsAt (z ++ [10]) [] = fsS (z ++ [10]) (z.length : Int) 0 1 0 := by
      unfold fsAt
      have e1 : (((z ++ [10]).length : Nat) : Int) - 1 = (z.length : Int) := by simp
      rw [e1]
      rfl
    rw [e] at k
    have ec : (TX z ++ (Str.ofString "\n")) = TX (z ++ [10]) := TX_cat z [10]
    have el : ((TX z).length : Int) = (z.length : Int) := by rw [TX_len]
    have k2 : Q .non (upd H p (.ins C dx [("source", .str (TX z ++ Str.ofString "\n")), ("length", .int ((TX z).length : Int)), ("at", .int 0), ("line", .int 1), ("line_begin", .int 0)])) := by
      rw [ec, el]
      exact k
    exact k2
theorem sc_tokens : FnScope ["source", "scanner", "found"] ["source"] (defScope s_tokens) := ⟨rfl, rfl, rfl, by decide +kernel, rfl, by decide +kernel, by decide +kernel⟩
theorem ok_tokens (T : Txt K w mg C) : Cal P w K mg base 6 "tokens" spTokens := by
  have KScanner : Mak P w K mg base 1 "Scanner" C (spInitS C) := ok_init T
  have Mtoken : Met P w K mg base 5 C "token" (spToken C) := ok_token T
  refine cal_of T.d_tokens sc_tokens (fun vs H Q E h => ?_) (fun f cdv A outer s H vs Q E hr h => ?_)
  · obtain ⟨z, due, rfl, _⟩ := h
    rfl
  · obtain ⟨z, due, rfl, hlen, hdl, L, k⟩ := h
    refine ⟨_, (pss_cons (ps_if (pt_cmpR op_gt (pe_callB call_len_str (by rfl) T.z_len PySem.boot_len (pa_cons (pv 0) pa_nil)) (C8.pe_gc (by rfl) T.g_LONGEST_SOURCE) (nomark _)) (pss_one ps_never) pss_nil) (pss_cons (ps_set (i := 1) sc_tokens.nd rfl (Or.inl rfl) (pe_mk KScanner hr (by decide) (by rfl) (pa_cons (pv 0) pa_nil))) (pss_cons (ps_set (i := 2) sc_tokens.nd rfl (Or.inl rfl) (pe_lst (pa_cons (pe_mt0 Mtoken hr (by decide) (pv 1)) pa_nil))) (pss_cons (ps_while PassesOwn.never (pt_cmpR op_ne (pe_ix ix_tup (pe_ix ix_list (pv 2) (pe_un un_neg pe_int) (fun _ _ => rfl)) pe_int (fun _ _ => rfl)) pe_str (nomark _)) (pss_one (ps_expr (pe_bm PySem.F.plainAttrs_list PySem.F.slot_list_append PySem.F.type_list_append mt_append (pv 2) (pa_cons (pe_mt0 Mtoken hr (by decide) (pv 1)) pa_nil))))) (pss_one (ps_ret (pv 2))))))), ?_⟩
    refine ⟨_, rfl, _, rfl, (by rw [TX_len]; exact size5 (by omega)), _, _, rfl, rfl, _, rfl, ?_⟩
    refine ite_b (fun q => absurd (of_decide_eq_true q) (by rw [TX_len]; omega)) (fun _ => ?_)
    refine ⟨_, rfl, fun p dx np ndx ne => ?_⟩
    have s0 : Same H (upd (upd H dx (.own p)) p (.ins C dx [])) := fun b o e => by
      rw [upd_ne (ne_of_none e np), upd_ne (ne_of_none e ndx)]
      exact e
    refine ⟨p, dx, z, rfl, upd_same, by omega, rfl, ?_⟩
    rw [upd_upd]
    have s1 : Same H (upd (upd H dx (.own p)) p (.ins C dx (fsAt (z ++ [10]) []))) := fun b o e => by
      rw [upd_ne (ne_of_none e np), upd_ne (ne_of_none e ndx)]
      exact e
    have hp1 : upd (upd H dx (.own p)) p (.ins C dx (fsAt (z ++ [10]) [])) p = some (.ins C dx (fsAt (z ++ [10]) [])) := upd_same
    generalize upd (upd H dx (.own p)) p (.ins C dx (fsAt (z ++ [10]) [])) = H1 at s1 hp1 ⊢
    have hsl : (z ++ [10]).length ≤ 100000 := by simp; omega
    obtain ⟨tk0, l0, rfl⟩ := lx_ne L
    -- found = [scanner.token()]
    refine ⟨_, rfl, p, dx, _, rfl, hp1, rfl, ?_⟩
    refine meth0 (sp := spToken C) ?_
    refine lx_token L rfl hsl hp1 fun t H2 ht h2 kp st => ?_
    refine ⟨by show 1 ≤ sizeLine; decide, fun l hl => ?_⟩
    have s2 : Same H (upd H2 l (.lst [.ref t])) := fun b o e => by
      have := kp b o (s1 b o e) (ne_of_none e np)
      rw [upd_ne (ne_of_none this hl)]
      exact this
    have htl : t ≠ l := ne_of_none h2 hl
    have nlp : ∀ o, H2 p = some o → p ≠ l := fun o e => ne_of_none e hl
    have nl0 : H l = none := by
      cases q : H l with
      | none => rfl
      | some u =>
        have := s2 l u q
        rw [upd_same] at this
        have h3 := kp l u (s1 l u q) (ne_of_none q np)
        rw [hl] at h3
        cases h3
    refine ⟨fun m σ H' => ∃ (t0 : List Addr) (t : Addr) (d0 : List Tok4) (tk : Tok4) (d2 : List Tok4), m = d2.length ∧ tk0 :: l0 = d0 ++ [tk] ++ d2 ∧ σ = [some (.str (TX z)), some (.ref p), some (.ref l)] ∧ Same H H' ∧ H' l = some (.lst ((t0 ++ [t]).map V.ref)) ∧
        Paired (fun t tk => H' t = some (.tup (vTok tk))) (t0 ++ [t]) (d0 ++ [tk]) ∧ ((d2 = [] ∧ tk.1 = "end") ∨ (tk.1 ≠ "end" ∧ ∃ cs R, z ++ [10] = cs ++ R ∧ H' p = some (.ins C dx (fsAt (z ++ [10]) cs)) ∧ Lx cs R d2)),
      ⟨_, [], t, [], tk0, l0, rfl, rfl, rfl, s2, upd_same, .cons (by rw [upd_ne htl]; exact h2) .nil, ?_⟩, ?_⟩
    · rcases st with st | ⟨ne0, cs', R', e1, e2, e3⟩
      · exact .inl st
      · exact .inr ⟨ne0, cs', R', e1, by rw [upd_ne (nlp _ e2)]; exact e2, e3⟩
    rintro m σ H3 ⟨t0, t1, d0, tk, d2, rfl, ed, rfl, s3, hl3, pr, st3⟩
    have ht1 : H3 t1 = some (.tup (vTok tk)) := by
      have : ∀ {l₁ : List Addr} {l₂ : List Tok4}, Paired (fun t tk => H3 t = some (.tup (vTok tk))) (l₁ ++ [t1]) (l₂ ++ [tk]) → H3 t1 = some (.tup (vTok tk)) := by
        intro l₁
        induction l₁ with
        | nil =>
          intro l₂ h
          cases l₂ with
          | nil => cases h with | cons r _ => exact r
          | cons a b => cases h with | cons r q => cases b <;> cases q
        | cons a l₁ ih =>
          intro l₂ h
          cases l₂ with
          | nil => cases h with | cons r q => cases l₁ <;> cases q
          | cons b l₂ => cases h with | cons r q => exact ih q
      exact this pr
    refine ⟨_, rfl, _, rfl, l, _, -1, .ref t1, rfl, rfl, SqL.of hl3, (by rw [List.map_append]; exact last_at), ?_⟩
    refine ⟨t1, _, 0, _, rfl, rfl, SqT.of ht1, rfl, ?_⟩
    refine ⟨rfl, _, rfl, ?_⟩
    refine ite_b (fun q => ?_) (fun q => ?_)
    · have hne : tk.1 ≠ "end" := fun e => by
        have q2 : (!decide (V.str tk.1 = V.str (Str.ofString "end"))) = true := q
        rw [e] at q2
        simp at q2
      rcases st3 with ⟨_, e⟩ | ⟨_, cs, R, e1, hp3, L3⟩
      · exact absurd e hne
      obtain ⟨tk2, d3, rfl⟩ := lx_ne L3
      refine ⟨fun σ' H' => ∃ m', m' < (tk2 :: d3).length ∧ ∃ (t0 : List Addr) (t : Addr) (d0 : List Tok4) (tk : Tok4) (d2 : List Tok4), m' = d2.length ∧ tk0 :: l0 = d0 ++ [tk] ++ d2 ∧ σ' = [some (.str (TX z)), some (.ref p), some (.ref l)] ∧ Same H H' ∧ H' l = some (.lst ((t0 ++ [t]).map V.ref)) ∧
        Paired (fun t tk => H' t = some (.tup (vTok tk))) (t0 ++ [t]) (d0 ++ [tk]) ∧ ((d2 = [] ∧ tk.1 = "end") ∨ (tk.1 ≠ "end" ∧ ∃ cs R, z ++ [10] = cs ++ R ∧ H' p = some (.ins C dx (fsAt (z ++ [10]) cs)) ∧ Lx cs R d2)), fun σ' H' y => y, ?_⟩
      refine ⟨_, rfl, .inl ⟨rfl, _, SqL.of hl3⟩, ?_⟩
      refine ⟨_, rfl, p, dx, _, rfl, hp3, rfl, ?_⟩
      refine meth0 (sp := spToken C) ?_
      refine lx_token L3 e1 hsl hp3 fun t2 H4 ht2 h4 kp4 st4 => ?_
      have npl : l ≠ p := ne_of hl3 hp3 (by intro e; cases e)
      have hl4 : H4 l = some (.lst ((t0 ++ [t1]).map V.ref)) := kp4 _ _ hl3 npl
      have hlen3 : (t0 ++ [t1]).length = (d0 ++ [tk]).length := Paired.length pr
      refine ⟨l, _, _, rfl, rfl, hl4, ?_, ?_⟩
      · rw [List.length_map]
        rw [ed] at hdl
        rw [hlen3]
        have e5 : (d0 ++ [tk] ++ tk2 :: d3).length = (d0 ++ [tk]).length + (tk2 :: d3).length := List.length_append
        have e6 : 100 < sizeLine := by decide
        omega
      · have ht2l : t2 ≠ l := ne_of h4 hl4 (by intro e; cases e)
        refine ⟨d3.length, by simp, t0 ++ [t1], t2, d0 ++ [tk], tk2, d3, rfl, by rw [ed]; simp, rfl, fun b o e => ?_, by rw [upd_same, List.map_append (l₂ := [t2])]; rfl, ?_, ?_⟩
        · rw [upd_ne (ne_of_none e nl0)]
          exact kp4 b o (s3 b o e) (ne_of_none e np)
        · refine paired_snoc (by rw [upd_ne ht2l]; exact h4) (paired_mono (fun a b e => ?_) pr)
          have ha : a ≠ l := ne_of e hl3 (by intro e; cases e)
          have hap : a ≠ p := ne_of e hp3 (by intro e; cases e)
          rw [upd_ne ha]
          exact kp4 _ _ e hap
        · rcases st4 with st4 | ⟨ne4, cs', R', a1, a2, a3⟩
          · exact .inl st4
          · exact .inr ⟨ne4, cs', R', a1, by rw [upd_ne npl.symm]; exact a2, a3⟩
    · have he : tk.1 = "end" := by
        have q2 : (!decide (V.str tk.1 = V.str (Str.ofString "end"))) = false := q
        simpa using q2
      rcases st3 with ⟨e, _⟩ | ⟨ne, _⟩
      · subst e
        rw [List.append_nil] at ed
        refine ⟨_, rfl, k H3 l _ s3 hl3 ?_⟩
        rw [ed]
        exact pr
      · exact absurd he ne
end
end VL

set_option Elab.async false
set_option linter.all false
set_option maxRecDepth 100000
set_option maxHeartbeats 4000000
namespace VL
open PySem PySem.Spec PyProof.Rows L2 NdefX

abbrev isFd (cc cda : Addr) (kV doc pm : Value) (an : Option Addr) (ct : Value) : FuncData := PySem.W.fnX "__init__" "InvalidSource.__init__" (defArgs s_InvalidSource___init__) (defBody s_InvalidSource___init__) (defScope s_InvalidSource___init__) [("__class__", cc)] .none kV doc pm an (.ref cda) ct
/-- the exception class InvalidSource, at D -/
structure TxtI (P : Program) (K : PySem.W.Frag) (mg : Str → Option Value) (D : Addr) : Prop where
  init : ∃ (fI cc cda : Addr) (kV doc pm ct : Value) (an : Option Addr), SupK P K mg fI D cc cda (isFd cc cda kV doc pm an ct) "InvalidSource.__init__" ∧ PySem.W.findIn K (.ref D) "__init__" = some (some (.ref fI)) ∧ PySem.W.typeIn K (.ref fI) = some (.type "function") ∧
    Binds K (isFd cc cda kV doc pm an ct) ["self", "line", "column", "message"] []
  o : OexC K D
  nl : PySem.W.findIn K (.ref D) "line" = some none
  nc : PySem.W.findIn K (.ref D) "column" = some none
  nm : PySem.W.findIn K (.ref D) "message" = some none
  g : mg "InvalidSource" = some (.ref D)
abbrev fsE (l c : Nat) (m : Str) : List (Str × V) := [("message", .str m), ("column", .int (c : Int)), ("line", .int (l : Int))]
def spISInit (D : Addr) : Sp := fun vs H Q _ => ∃ (a : Addr) (l c : Nat) (m : Str), vs = [.ref a, .int (l : Int), .int (c : Int), .str m] ∧ H a = some (exo a D none) ∧ l ≤ 1000000 ∧ c ≤ 1000000 ∧ m.length ≤ 1000 ∧
  ∀ dx H', H dx = none → dx ≠ a → H' a = some (exo a D (some dx)) → H' dx = some (exd dx (fsE l c m)) → (∀ b o, H b = some o → b ≠ a → H' b = some o) → Q .non H'
theorem len_app (a b : Str) : (a ++ b).length = a.length + b.length := by
  obtain ⟨a⟩ := a
  obtain ⟨b⟩ := b
  show (a ++ b).size = a.size + b.size
  exact Array.size_append
theorem log6 {n : Nat} (h : n ≤ 1000000) : (n : Int).natAbs.log2 < 1920 := by
  rw [Int.natAbs_natCast]
  by_cases e : n = 0
  · rw [e]
    decide
  · exact Nat.lt_of_lt_of_le ((Nat.log2_lt e).mpr (Nat.lt_of_le_of_lt h (by decide : 1000000 < 2 ^ 20))) (by decide)
theorem dec6 {n : Nat} (h : n ≤ 1000000) : (Str.ofString (toString (n : Int))).length ≤ 7 := by
  rw [SX.num_S n]
  show (TX (TL.numL n)).length ≤ 7
  rw [TX_len]
  exact TL.numL_len (by decide) (Nat.lt_of_le_of_lt h (by decide))
section
variable {P : Program} {w : World} {K : PySem.W.Frag} {mg : Str → Option Value} {base : Heap} {C D : Addr}
theorem scIS : NScope ["self", "line", "column", "message", "__class__"] ["self", "line", "column", "message"] ["__class__"] (defScope s_InvalidSource___init__) := nscope_by (by decide +kernel)
theorem ok_ISInit (T : TxtI P K mg D) : ∃ (fI : Addr) (fd : FuncData), FnOk P w K mg base CX0 1 fI fd ["self", "line", "column", "message"] (spISInit D) ∧ PySem.W.findIn K (.ref D) "__init__" = some (some (.ref fI)) ∧ PySem.W.typeIn K (.ref fI) = some (.type "function") ∧ Binds K fd ["self", "line", "column", "message"] [] := by
  obtain ⟨fI, cc, cda, kV, doc, pm, ct, an, S, h1, h2, hb⟩ := T.init
  refine ⟨fI, _, ?_, h1, h2, hb⟩
  refine fn_sup S T.o rfl scIS (by rfl) rfl (by rfl) (fun _ => rfl) (fun _ => rfl) (fun _ => ⟨_, _, rfl⟩) (fun _ => rfl) (fun vs H Q E h => ?_) (fun A outer s H vs Q E hr h => ?_)
  · obtain ⟨a, l, c, m, rfl, _⟩ := h
    rfl
  · obtain ⟨a, l, c, m, rfl, ha, hl, hc, hm, k⟩ := h
    refine ⟨_, _, pa_cons (pe_joined (.cons pe_str (.cons (pe_fmt (pv 1)) (.cons pe_str (.cons (pe_fmt (pv 2)) (.cons pe_str (.cons (pe_fmt (pv 3)) .nil))))))) pa_nil,
      pss_cons (ps_ost (pv 0) (pv 1)) (pss_cons (ps_ost (pv 0) (pv 2)) (pss_one (ps_ost (pv 0) (pv 3)))), a, _, rfl, ha, ?_⟩
    have big : ∀ {n : Nat}, n ≤ 5000 → n ≤ sizeLine := fun h => Nat.le_trans h (by decide)
    have l1 := dec6 hl
    have l2 := dec6 hc
    have e1 : (Str.ofString "line ").length = 5 := by decide +kernel
    have e2 : (Str.ofString ", column ").length = 9 := by decide +kernel
    have e3 : (Str.ofString ": ").length = 2 := by decide +kernel
    have e0 : (Str.empty).length = 0 := by decide +kernel
    refine ⟨_, rfl, (by rw [len_app]; exact big (by omega)), _, rfl, .inr ⟨_, rfl, log6 hl, _, rfl, (by rw [len_app, len_app]; exact big (by omega)), ?_⟩⟩
    refine ⟨_, rfl, (by rw [len_app, len_app, len_app]; exact big (by omega)), _, rfl, .inr ⟨_, rfl, log6 hc, _, rfl, (by rw [len_app, len_app, len_app, len_app]; exact big (by omega)), ?_⟩⟩
    refine ⟨_, rfl, (by rw [len_app, len_app, len_app, len_app, len_app]; exact big (by omega)), _, rfl, .inl ⟨m, rfl, big (by omega), _, rfl, (by rw [len_app, len_app, len_app, len_app, len_app, len_app]; exact big (by omega)), ?_⟩⟩
    refine ⟨by show 1 ≤ 1000; decide, ha, ?_⟩
    refine ⟨_, rfl, _, rfl, a, D, rfl, T.o, T.nl, .inl ⟨ha, fun dx hdx nda => ?_⟩⟩
    refine ⟨_, rfl, _, rfl, a, D, rfl, T.o, T.nc, .inr ⟨dx, _, upd_same, (by rw [upd_ne nda, upd_same]), (by show 1 ≤ 900; decide), ?_⟩⟩
    refine ⟨_, rfl, _, rfl, a, D, rfl, T.o, T.nm, .inr ⟨dx, _, (by rw [upd_ne nda.symm]; exact upd_same), upd_same, (by show 2 ≤ 900; decide), ?_⟩⟩
    refine k dx _ hdx nda (by rw [upd_ne nda.symm, upd_ne nda.symm, upd_same]) upd_same fun b o e n => ?_
    have nbd : b ≠ dx := ne_of_none e hdx
    rw [upd_ne nbd, upd_ne nbd, upd_ne n, upd_ne nbd]
    exact e
end
end VL

set_option Elab.async false
set_option linter.all false
set_option maxRecDepth 100000
set_option maxHeartbeats 4000000
namespace VL
open PySem PySem.Spec PyProof.Rows L2

theorem pe_two {X : Cx} {e : Expr} {t1 t2 : TE} (h1 : PE X e t1) (h2 : PE X e t2) : PE X e (fun σ H Q => t1 σ H Q ∨ t2 σ H Q) :=
  ⟨fun pins s σ H Q I h => h.elim (h1.run pins s σ H Q I) (h2.run pins s σ H Q I)⟩
/-- all but p is kept, and this error is told -/
def ErrP (p D : Addr) (E : XK) (H : Hp) (l c : Nat) (m : Str) : Prop := ∀ d H', (∀ b o, H b = some o → b ≠ p → H' b = some o) → H' d = some (.xd (fsE l c m)) → E (.ref D) (some d) H'
def spColZ (C : Addr) : Sp := fun vs H Q _ => ∃ (p dx : Addr) (src cs : List Nat) (j : Nat), vs = [.ref p, .int ((cs.length + j : Nat) : Int)] ∧ H p = some (.ins C dx (fsAt src cs)) ∧ Q (.int ((clOf cs + j + 1 : Nat) : Int)) H
def spFail (C D : Addr) : Sp := fun vs H _ E => ∃ (p dx : Addr) (src cs : List Nat) (j : Nat) (m : Str), vs = [.ref p, .int ((cs.length + j : Nat) : Int), .str m] ∧ H p = some (.ins C dx (fsAt src cs)) ∧ src.length ≤ 100000 ∧ (cs.length + j ≤ src.length) ∧ m.length ≤ 1000 ∧
  ErrP p D E H (lnOf cs) (clOf cs + j + 1) m
theorem ln_le : ∀ l : List Nat, lnOf l ≤ l.length + 1 := by
  intro l
  have : ∀ (l acc : List Nat), (rws acc l).length ≤ l.length + 1 := by
    intro l
    induction l with
    | nil => intro acc; simp [rws]
    | cons c r ih =>
      intro acc
      unfold rws
      split
      · have := ih []
        simp at this ⊢
        omega
      · have := ih (acc ++ [c])
        simp at this ⊢
        omega
  exact this l []
section
variable {P : Program} {w : World} {K : PySem.W.Frag} {mg : Str → Option Value} {base : Heap} {C D : Addr}
theorem ok_colZ (T : Txt K w mg C) : Met P w K mg base 1 C "column_of" (spColZ C) := by
  refine met_of T.m_column_of T.cl sc_Scanner_column_of (fun vs H Q E h => ?_) (fun f cdv A outer s H vs Q E hr h => ?_)
  · obtain ⟨p, dx, src, cs, j, rfl, _⟩ := h
    rfl
  · obtain ⟨p, dx, src, cs, j, rfl, h1, k⟩ := h
    refine ⟨_, (pss_one (ps_ret (pe_op op_add (pe_op op_sub (pv 1) (pe_fld (pv 0) rfl)) pe_int))), ?_⟩
    refine ⟨_, rfl, _, rfl, p, C, dx, _, _, rfl, h1, T.cl, T.n_line_begin, fs_line_begin _ _ _ _ _, _, _, rfl, rfl, _, _, rfl, rfl, ?_⟩
    have e : ((cs.length + j : Nat) : Int) - ((cs.length : Int) - (clOf cs : Int)) + 1 = ((clOf cs + j + 1 : Nat) : Int) := by omega
    show Q (.int (((cs.length + j : Nat) : Int) - ((cs.length : Int) - (clOf cs : Int)) + 1)) H
    rw [e]
    exact k
theorem sc_Scanner_fail : FnScope ["self", "at", "message"] ["self", "at", "message"] (defScope s_Scanner_fail) := ⟨rfl, rfl, rfl, by decide +kernel, rfl, by decide +kernel, by decide +kernel⟩
theorem ok_fail (T : Txt K w mg C) (TI : TxtI P K mg D) (mf : MethE K C "fail" "Scanner.fail" s_Scanner_fail ["self", "at", "message"]) : MetX P w K mg base 3 C "fail" (spFail C D) := by
  have Mcolumn_of : Met P w K mg base 1 C "column_of" (spColZ C) := ok_colZ T
  obtain ⟨fI, fd, FI, iI, tI, bI⟩ := ok_ISInit (w := w) (base := base) TI
  have IO := TI.o
  have gI := TI.g
  refine metX_of mf T.cl sc_Scanner_fail (fun vs H Q E h => ?_) (fun f cdv A outer s H vs Q E hr h => ?_)
  · obtain ⟨p, dx, src, cs, j, m, rfl, _⟩ := h
    rfl
  · obtain ⟨p, dx, src, cs, j, m, rfl, h1, hlen, hj, hm, k⟩ := h
    refine ⟨_, (pss_one (ps_raise rfl takeX (pmk_oex IO iI tI FI (hr.mono (by decide)) bI .nil pass0 rfl gI (pa_cons (pe_fld (pv 0) rfl) (pa_cons (pe_mt Mcolumn_of hr (by decide) (pv 0) (pa_cons (pv 1) pa_nil)) (pa_cons (pv 2) pa_nil)))))), ?_⟩
    have hcl := cl_le cs
    have hln := ln_le cs
    refine ⟨_, rfl, p, C, dx, _, _, rfl, h1, T.cl, T.n_line, fs_line _ _ _ _ _, _, rfl, p, dx, _, rfl, h1, rfl, _, rfl, p, dx, src, cs, j, rfl, h1, _, rfl, ?_⟩
    refine ⟨by show 3 ≤ 1000; decide, fun a ha => ?_⟩
    refine ⟨a, lnOf cs, clOf cs + j + 1, m, rfl, upd_same, by omega, by omega, hm, fun d H' hd nda e1 e2 kp => ?_⟩
    have hda : H d = none := by rw [upd_ne nda] at hd; exact hd
    refine ⟨rfl, d, _, e1, e2, hda, k d _ (fun b o e _ => ?_) upd_same⟩
    have nba : b ≠ a := ne_of_none e ha
    rw [upd_ne (ne_of_none e hda), del_ne nba]
    exact kp b o (by rw [upd_ne nba]; exact e) nba
end
end VL

set_option Elab.async false
set_option linter.all false
set_option maxRecDepth 100000
set_option maxHeartbeats 4000000
namespace VL
open PySem PySem.Spec PyProof.Rows L2

/-- a number with a fault -/
inductive BadN : List Nat → Nat → Str → Prop where
  | more {m c r} (hm : m ≠ []) (hd : ∀ x ∈ m, isDig x = true) (h0 : m = [48] ∨ (m.head? ≠ some 48 ∧ isDig c = false)) (hc : isWs c = true) : BadN (m ++ c :: r) m.length "unexpected character"
  | large {m c r} (hm : m ≠ []) (hd : ∀ x ∈ m, isDig x = true) (h0 : m.head? ≠ some 48) (hc : isWs c = false) (hl : 31 < m.length ∨ ∃ n, m = TL.numL n ∧ 10 ^ 30 < n) : BadN (m ++ c :: r) 0 "number too large"
def spNumF (C D : Addr) : Sp := fun vs H _ E => ∃ (p dx : Addr) (src cs X : List Nat) (j : Nat) (m : Str), vs = [.ref p] ∧ H p = some (.ins C dx (fsAt src cs)) ∧ src = cs ++ X ∧ src.length ≤ 100000 ∧ BadN X j m ∧ ErrP p D E H (lnOf cs) (clOf cs + j + 1) m
theorem ws_dig {d : Nat} (hd : isWs d = false) : isDig d = false := by
  unfold isWs at hd
  cases e : isDig d with
  | false => rfl
  | true => rw [e] at hd; simp at hd
section
variable {P : Program} {w : World} {K : PySem.W.Frag} {mg : Str → Option Value} {base : Heap} {C D : Addr}
theorem nox_take_number : True := trivial
theorem ok_take_numberF (T : Txt K w mg C) (TI : TxtI P K mg D) (mf : MethE K C "fail" "Scanner.fail" s_Scanner_fail ["self", "at", "message"]) : MetX P w K mg base 4 C "take_number" (spNumF C D) := by
  have Gis_word_sign : Cal P w K mg base 2 "is_word_sign" spWs := ok_is_word_sign T
  have Gis_digit : Cal P w K mg base 1 "is_digit" spDig := ok_is_digit T
  have Mtake_until : Met P w K mg base 1 C "take_until" (spUntil C) := ok_take_until T
  have Xfail : MetX P w K mg base 3 C "fail" (spFail C D) := ok_fail T TI mf
  refine metX_of T.m_take_number T.cl sc_Scanner_take_number (fun vs H Q E h => ?_) (fun f cdv A outer s H vs Q E hr h => ?_)
  · obtain ⟨p, dx, src, cs, X, j, m, rfl, _⟩ := h
    rfl
  · obtain ⟨p, dx, src, cs, X, j, msg, rfl, h1, hsrc, hlen, hb, k⟩ := h
    have hz := TX_len src
    have hz5 : (TX src).length ≤ sizeLine := by rw [hz]; exact size5 hlen
    obtain ⟨m, c, r, rfl, hm, hd, h0, hend⟩ : ∃ m c r, X = m ++ c :: r ∧ m ≠ [] ∧ (∀ x ∈ m, isDig x = true) ∧ (m = [48] ∨ (m.head? ≠ some 48 ∧ isDig c = false)) ∧
        ((isWs c = true ∧ j = m.length ∧ msg = "unexpected character") ∨ (isWs c = false ∧ j = 0 ∧ msg = "number too large" ∧ (31 < m.length ∨ ∃ n, m = TL.numL n ∧ 10 ^ 30 < n))) := by
      cases hb with
      | more hm hd h0 hc => exact ⟨_, _, _, rfl, hm, hd, h0, .inl ⟨hc, rfl, rfl⟩⟩
      | large hm hd h0 hc hl => exact ⟨_, _, _, rfl, hm, hd, .inr ⟨h0, ws_dig hc⟩, .inr ⟨hc, rfl, rfl, hl⟩⟩
    obtain ⟨c0, r0, e0⟩ : ∃ c0 r0, m = c0 :: r0 := by
      cases m with
      | nil => exact absurd rfl hm
      | cons c r => exact ⟨c, r, rfl⟩
    have hl1 : 1 ≤ m.length := by rw [e0]; simp
    have hsl : src.length = cs.length + m.length + (r.length + 1) := by rw [hsrc]; simp; omega
    have hat0 : (m ++ c :: r)[0]? = some c0 := by rw [e0]; rfl
    have hat0' : atI (TX src).cps.toList (cs.length : Int) = some c0 := by rw [hsrc]; exact at_app (i := 0) rfl hat0
    have hatn : (m ++ c :: r)[m.length]? = some c := by rw [List.getElem?_append_right (Nat.le_refl _)]; simp
    refine ⟨_, (pss_cons (ps_set (i := 1) sc_Scanner_take_number.nd rfl (Or.inl rfl) (pe_op op_add (pe_fld (pv 0) rfl) pe_int)) (C8.pss_cut (ps_while (passes_of rfl) ((pw_and (pt_cmpR op_ne (pe_ix ix_str (pe_fld (pv 0) rfl) (pe_fld (pv 0) rfl) (fun _ _ => rfl)) pe_str (nomark _)) (pw_and1 (pt_val (pe_c Gis_digit hr (by decide) (by rfl) (pa_cons (pe_ix ix_str (pe_fld (pv 0) rfl) (pv 1) (fun _ _ => rfl)) pa_nil)))))).pt (pss_one (ps_aug (i := 1) sc_Scanner_take_number.nd rfl (Or.inl rfl) pe_int ip_add))) (pss_cons (ps_if (pt_val (pe_c Gis_word_sign hr (by decide) (by rfl) (pa_cons (pe_ix ix_str (pe_fld (pv 0) rfl) (pv 1) (fun _ _ => rfl)) pa_nil))) (pss_one (ps_expr (pe_mtX thruX Xfail hr (by decide) (pv 0) (pa_cons (pv 1) (pa_cons pe_str pa_nil))))) pss_nil) (pss_cons (ps_set (i := 2) sc_Scanner_take_number.nd rfl (Or.inl rfl) (pe_slice sl_str (pe_fld (pv 0) rfl) (po_some (pe_fld (pv 0) rfl)) (po_some (pv 1)))) (pss_cons (ps_if ((pw_or (pt_cmpR op_gt (pe_callB call_len_str (by rfl) T.z_len PySem.boot_len (pa_cons (pv 2) pa_nil)) (C8.pe_gc (by rfl) T.g_MOST_DIGITS) (nomark _)) (pw_or1 (pt_cmpR op_gt (pe_callTy call_int_str (by rfl) T.z_int (by decide +kernel) (pa_cons (pv 2) pa_nil)) (C8.pe_gc (by rfl) T.g_LARGEST_NUMBER) (nomark _))))).pt (pss_one (ps_expr (pe_mtX thruX Xfail hr (by decide) (pv 0) (pa_cons (pe_fld (pv 0) rfl) (pa_cons pe_str pa_nil))))) pss_nil) (pss_one (ps_ret (pe_mt Mtake_until hr (by decide) (pv 0) (pa_cons (pv 1) pa_nil))))))))), ?_⟩
    refine ⟨_, rfl, p, C, dx, _, _, rfl, h1, T.cl, T.n_at, fs_at _ _ _ _ _, _, _, rfl, rfl, ?_⟩
    refine ⟨fun σ H' => σ = [some (V.ref p), some (.int ((cs.length + m.length : Nat) : Int)), none] ∧ H' = H, ?_, ?_⟩
    · by_cases h48 : c0 = 48
      · have hlen1 : m.length = 1 := by
          rcases h0 with h0 | ⟨h0, _⟩
          · rw [h0]
            rfl
          · rw [e0, h48] at h0
            exact absurd rfl h0
        refine ⟨fun m' σ H' => m' = 0 ∧ σ = [some (.ref p), some (.int ((cs.length : Int) + 1)), none] ∧ H' = H, ⟨0, rfl, rfl, rfl⟩, ?_⟩
        rintro m' σ H1 ⟨rfl, rfl, rfl⟩
        refine ⟨_, rfl, p, C, dx, _, _, rfl, h1, T.cl, T.n_source, fs_source _ _ _ _ _, _, rfl, p, C, dx, _, _, rfl, h1, T.cl, T.n_at, fs_at _ _ _ _ _, _, _, c0, rfl, rfl, hz5, hat0', ?_⟩
        refine ⟨rfl, _, rfl, ?_⟩
        refine ite_oneN (c := c0) (d := 48) (fun z => absurd h48 z) (fun _ => ?_)
        refine ite_b (b := false) (fun z => by cases z) (fun _ => ?_)
        exact ⟨by rw [hlen1]; rfl, rfl⟩
      · have hdc : isDig c = false := by
          rcases h0 with h0 | ⟨_, h0⟩
          · rw [e0] at h0
            injection h0 with h0
            exact absurd h0 h48
          · exact h0
        refine ⟨fun m' σ H' => ∃ i, m' = m.length - i ∧ 1 ≤ i ∧ i ≤ m.length ∧ σ = [some (.ref p), some (.int ((cs.length + i : Nat) : Int)), none] ∧ H' = H, ⟨_, 1, rfl, Nat.le_refl _, hl1, rfl, rfl⟩, ?_⟩
        rintro m' σ H1 ⟨i, rfl, hi1, hi, rfl, rfl⟩
        refine ⟨_, rfl, p, C, dx, _, _, rfl, h1, T.cl, T.n_source, fs_source _ _ _ _ _, _, rfl, p, C, dx, _, _, rfl, h1, T.cl, T.n_at, fs_at _ _ _ _ _, _, _, c0, rfl, rfl, hz5, hat0', ?_⟩
        refine ⟨rfl, _, rfl, ?_⟩
        refine ite_oneN (c := c0) (d := 48) (fun _ => ?_) (fun z => absurd z h48)
        by_cases hlt : i < m.length
        · have hat : (m ++ c :: r)[i]? = some m[i] := by rw [List.getElem?_append_left hlt, List.getElem?_eq_getElem hlt]
          refine ⟨_, rfl, p, C, dx, _, _, rfl, h1, T.cl, T.n_source, fs_source _ _ _ _ _, _, rfl, _, _, m[i], rfl, rfl, hz5, (by rw [hsrc]; exact at_app rfl hat), ?_⟩
          refine ⟨_, rfl, _, rfl, ?_⟩
          refine ite_b (b := isDig m[i]) (fun _ => ?_) (fun z => absurd (hd _ (List.getElem_mem hlt)) (by rw [z]; decide))
          refine ⟨fun σ' H' => ∃ i', i' = i + 1 ∧ σ' = [some (.ref p), some (.int ((cs.length + i' : Nat) : Int)), none] ∧ H' = H1, ?_, ?_⟩
          · rintro σ' H' ⟨i', rfl, rfl, rfl⟩
            exact ⟨m.length - (i + 1), by omega, i + 1, rfl, by omega, hlt, rfl, rfl⟩
          · refine ⟨_, rfl, _, _, rfl, rfl, i + 1, rfl, ?_, rfl⟩
            have e : ((cs.length + i : Nat) : Int) + 1 = ((cs.length + (i + 1) : Nat) : Int) := by omega
            show [some (V.ref p), some (V.int (((cs.length + i : Nat) : Int) + 1)), none] = _
            rw [e]
        · have e : i = m.length := by omega
          subst e
          refine ⟨_, rfl, p, C, dx, _, _, rfl, h1, T.cl, T.n_source, fs_source _ _ _ _ _, _, rfl, _, _, c, rfl, rfl, hz5, (by rw [hsrc]; exact at_app rfl hatn), ?_⟩
          refine ⟨_, rfl, _, rfl, ?_⟩
          refine ite_b (b := isDig c) (fun z => absurd z (by rw [hdc]; decide)) (fun _ => ?_)
          exact ⟨rfl, rfl⟩
    · rintro σ H' ⟨rfl, rfl⟩
      refine ⟨_, rfl, p, C, dx, _, _, rfl, h1, T.cl, T.n_source, fs_source _ _ _ _ _, _, rfl, _, _, c, rfl, rfl, hz5, (by rw [hsrc]; exact at_app rfl hatn), ?_⟩
      refine ⟨_, rfl, _, rfl, ?_⟩
      rcases hend with ⟨hc, rfl, rfl⟩ | ⟨hc, rfl, rfl, hl⟩
      · refine ite_b (b := isWs c) (fun _ => ?_) (fun z => absurd hc (by rw [z]; decide))
        exact ⟨_, rfl, p, dx, _, rfl, h1, rfl, _, rfl, p, dx, src, cs, m.length, _, rfl, h1, hlen, by omega, by decide +kernel, k⟩
      · refine ite_b (b := isWs c) (fun z => absurd z (by rw [hc]; decide)) (fun _ => ?_)
        refine ⟨_, rfl, p, C, dx, _, _, rfl, h1, T.cl, T.n_source, fs_source _ _ _ _ _, _, rfl, p, C, dx, _, _, rfl, h1, T.cl, T.n_at, fs_at _ _ _ _ _, _, rfl, _, rfl, _, rfl, _, rfl, hz5, ?_⟩
        have ec : cutS (TX src) (some (cs.length : Int)) (some ((cs.length + m.length : Nat) : Int)) = TX m := by rw [hsrc]; exact cut_mid rfl rfl
        rw [ec]
        have hnl : (TX m).length = m.length := TX_len _
        refine ⟨_, rfl, _, rfl, (by rw [hnl]; exact size5 (by omega)), _, _, rfl, rfl, _, rfl, ?_⟩
        by_cases h31 : 31 < m.length
        · refine ite_b (fun _ => ?_) (fun z => absurd (decide_eq_true (p := (31 : Int) < ((TX m).length : Int)) (by rw [hnl]; omega)) (by rw [z]; decide))
          refine iteT ?_
          exact ⟨_, rfl, p, dx, _, rfl, h1, rfl, _, rfl, p, C, dx, _, _, rfl, h1, T.cl, T.n_at, fs_at _ _ _ _ _, p, dx, src, cs, 0, _, rfl, h1, hlen, by omega, by decide +kernel, k⟩
        · refine ite_b (fun z => absurd (of_decide_eq_true z) (by rw [hnl]; omega)) (fun _ => ?_)
          obtain ⟨n, en, hn⟩ := hl.resolve_left h31
          refine ⟨_, rfl, _, (n : Int), rfl, ?_, (by rw [hnl]; omega), _, _, rfl, rfl, _, rfl, ?_⟩
          · have := TL.int_num (n := n) (by rw [← en]; omega)
            rw [SX.num_S, ← en] at this
            exact this
          · refine ite_b (fun _ => ?_) (fun z => absurd (decide_eq_true (p := (1000000000000000000000000000000 : Int) < (n : Int)) (by have : 1000000000000000000000000000000 < n := hn; omega)) (by rw [z]; decide))
            exact ⟨_, rfl, p, dx, _, rfl, h1, rfl, _, rfl, p, C, dx, _, _, rfl, h1, T.cl, T.n_at, fs_at _ _ _ _ _, p, dx, src, cs, 0, _, rfl, h1, hlen, by omega, by decide +kernel, k⟩
end
end VL

set_option Elab.async false
set_option linter.all false
set_option maxRecDepth 100000
set_option maxHeartbeats 4000000
namespace VL
open PySem PySem.Spec PyProof.Rows L2

def spSignF (C D : Addr) : Sp := fun vs H _ E => ∃ (p dx : Addr) (src cs r : List Nat) (c d : Nat), vs = [.ref p] ∧ H p = some (.ins C dx (fsAt src cs)) ∧ src = cs ++ (c :: d :: r) ∧ src.length ≤ 100000 ∧ c ∉ singlesL ∧ [c, d] ∉ pairsL ∧ ErrP p D E H (lnOf cs) (clOf cs + 1) "unexpected character"
/-- a piece of a text: a sign, or a backslash and a sign -/
def Pc (u : List Nat) : Prop := (∃ c, u = [c] ∧ c ≠ 10 ∧ c ≠ 34 ∧ c ≠ 92) ∨ ∃ x, u = [92, x] ∧ x ≠ 10
def spTextEndR (C D : Addr) : Sp := fun vs H Q E => ∃ (p dx : Addr) (src cs Z : List Nat) (us : List (List Nat)), vs = [.ref p] ∧ H p = some (.ins C dx (fsAt src cs)) ∧ src = cs ++ (34 :: (us.flatten ++ Z)) ∧ src.length ≤ 100000 ∧ (∀ u ∈ us, Pc u) ∧
  ((∃ r, Z = 34 :: r ∧ Q (.int ((cs.length + (1 + us.flatten.length) : Nat) : Int)) H) ∨ ((∃ r, Z = 10 :: r ∨ Z = 92 :: 10 :: r) ∧ ErrP p D E H (lnOf cs) (clOf cs + 1) "text not closed"))
section
variable {P : Program} {w : World} {K : PySem.W.Frag} {mg : Str → Option Value} {base : Heap} {C D : Addr}
theorem ok_take_signF (T : Txt K w mg C) (TI : TxtI P K mg D) (mf : MethE K C "fail" "Scanner.fail" s_Scanner_fail ["self", "at", "message"]) : MetX P w K mg base 4 C "take_sign" (spSignF C D) := by
  have Mtake_until : Met P w K mg base 1 C "take_until" (spUntil C) := ok_take_until T
  have Xfail : MetX P w K mg base 3 C "fail" (spFail C D) := ok_fail T TI mf
  obtain ⟨aP, gP, sP⟩ := T.t_PAIRS
  refine metX_of T.m_take_sign T.cl sc_Scanner_take_sign (fun vs H Q E h => ?_) (fun f cdv A outer s H vs Q E hr h => ?_)
  · obtain ⟨p, dx, src, cs, r, c, d, rfl, _⟩ := h
    rfl
  · obtain ⟨p, dx, src, cs, r, c, d, rfl, h1, hsrc, hlen, h, h2, k⟩ := h
    have hz5 : (TX src).length ≤ sizeLine := by rw [TX_len]; exact size5 hlen
    refine ⟨_, (pss_cons (ps_if (pt_cmpR op_in_seq (pe_slice sl_str (pe_fld (pv 0) rfl) (po_some (pe_fld (pv 0) rfl)) (po_some (pe_op op_add (pe_fld (pv 0) rfl) pe_int))) (C8.pe_gc (by rfl) gP) rfl) (pss_one (ps_ret (pe_mt Mtake_until hr (by decide) (pv 0) (pa_cons (pe_op op_add (pe_fld (pv 0) rfl) pe_int) pa_nil)))) pss_nil) (pss_cons (ps_if (pt_cmpR op_notIn_sign (pe_ix ix_str (pe_fld (pv 0) rfl) (pe_fld (pv 0) rfl) (fun _ _ => rfl)) (C8.pe_gc (by rfl) T.g_SINGLES) rfl) (pss_one (ps_expr (pe_mtX thruX Xfail hr (by decide) (pv 0) (pa_cons (pe_fld (pv 0) rfl) (pa_cons pe_str pa_nil))))) pss_nil) (pss_one (ps_ret (pe_mt Mtake_until hr (by decide) (pv 0) (pa_cons (pe_op op_add (pe_fld (pv 0) rfl) pe_int) pa_nil)))))), ?_⟩
    refine ⟨_, rfl, p, C, dx, _, _, rfl, h1, T.cl, T.n_source, fs_source _ _ _ _ _, _, rfl, p, C, dx, _, _, rfl, h1, T.cl, T.n_at, fs_at _ _ _ _ _, _, rfl, _, rfl, p, C, dx, _, _, rfl, h1, T.cl, T.n_at, fs_at _ _ _ _ _, _, _, rfl, rfl, _, rfl, _, rfl, hz5, ?_⟩
    have ec : cutS (TX src) (some (cs.length : Int)) (some ((cs.length : Int) + 2)) = TX [c, d] := by rw [hsrc]; exact cut_mid (m := [c, d]) rfl rfl
    refine ⟨aP, _, rfl, .inr (sP H), rfl, flat_TX pairsL, _, rfl, ?_⟩
    refine ite_b (fun z => ?_) (fun _ => ?_)
    · exfalso
      revert z
      show ¬ inV (.str (cutS (TX src) (some (cs.length : Int)) (some ((cs.length : Int) + 2)))) (pairsL.map fun l => V.str (TX l)) = true
      rw [ec, inV_TX, decide_eq_false h2]
      decide
    · refine ⟨_, rfl, p, C, dx, _, _, rfl, h1, T.cl, T.n_source, fs_source _ _ _ _ _, _, rfl, p, C, dx, _, _, rfl, h1, T.cl, T.n_at, fs_at _ _ _ _ _, _, _, c, rfl, rfl, hz5, (by rw [hsrc]; exact at_app (i := 0) (m := [c]) rfl rfl), ?_⟩
      refine ⟨c, _, rfl, rfl, _, rfl, ?_⟩
      refine ite_b (fun _ => ?_) (fun z => ?_)
      · exact ⟨_, rfl, p, dx, _, rfl, h1, rfl, _, rfl, p, C, dx, _, _, rfl, h1, T.cl, T.n_at, fs_at _ _ _ _ _, p, dx, src, cs, 0, _, rfl, h1, hlen, by rw [hsrc]; simp, by decide +kernel, k⟩
      · exfalso
        revert z
        show ¬ (!decide (c ∈ (TX singlesL).cps.toList)) = false
        rw [TX_tl, decide_eq_false h]
        decide
theorem ok_text_endR (T : Txt K w mg C) (TI : TxtI P K mg D) (mf : MethE K C "fail" "Scanner.fail" s_Scanner_fail ["self", "at", "message"]) : MetX P w K mg base 4 C "text_end" (spTextEndR C D) := by
  have Xfail : MetX P w K mg base 3 C "fail" (spFail C D) := ok_fail T TI mf
  refine metX_of T.m_text_end T.cl sc_Scanner_text_end (fun vs H Q E h => ?_) (fun f cdv A outer s H vs Q E hr h => ?_)
  · obtain ⟨p, dx, src, cs, Z, us, rfl, _⟩ := h
    rfl
  · obtain ⟨p, dx, src, cs, Z, us, rfl, h1, hsrc, hlen, hus, k⟩ := h
    have hz5 : (TX src).length ≤ sizeLine := by rw [TX_len]; exact size5 hlen
    refine ⟨_, (pss_cons (ps_set (i := 1) sc_Scanner_text_end.nd rfl (Or.inl rfl) (pe_op op_add (pe_fld (pv 0) rfl) pe_int)) (pss_cons (ps_while (passes_of rfl) (pt_cmpR op_ne (pe_ix ix_str (pe_fld (pv 0) rfl) (pv 1) (fun _ _ => rfl)) pe_str (nomark _)) (pss_cons (ps_if ((pw_and (pt_cmpR op_eq (pe_ix ix_str (pe_fld (pv 0) rfl) (pv 1) (fun _ _ => rfl)) pe_str (nomark _)) (pw_and1 (pt_cmpR op_ne (pe_ix ix_str (pe_fld (pv 0) rfl) (pe_op op_add (pv 1) pe_int) (fun _ _ => rfl)) pe_str (nomark _))))).pt (pss_one (ps_aug (i := 1) sc_Scanner_text_end.nd rfl (Or.inl rfl) pe_int ip_add)) (pss_one (ps_if (pt_cmpR op_eq (pe_ix ix_str (pe_fld (pv 0) rfl) (pv 1) (fun _ _ => rfl)) pe_str (nomark _)) (pss_one (ps_expr (pe_mtX thruX Xfail hr (by decide) (pv 0) (pa_cons (pe_fld (pv 0) rfl) (pa_cons pe_str pa_nil))))) pss_nil))) (pss_one (ps_aug (i := 1) sc_Scanner_text_end.nd rfl (Or.inl rfl) pe_int ip_add)))) (pss_one (ps_ret (pv 1))))), ?_⟩
    refine ⟨_, rfl, p, C, dx, _, _, rfl, h1, T.cl, T.n_at, fs_at _ _ _ _ _, _, _, rfl, rfl, ?_⟩
    refine ⟨fun m σ H' => (∃ t1 t2, m = t2.length + 1 ∧ us = t1 ++ t2 ∧ σ = [some (.ref p), some (.int ((cs.length + (1 + t1.flatten.length) : Nat) : Int))] ∧ H' = H) ∨
        (∃ r, m = 0 ∧ Z = 92 :: 10 :: r ∧ σ = [some (.ref p), some (.int ((cs.length + (1 + us.flatten.length + 1) : Nat) : Int))] ∧ H' = H), ⟨_, .inl ⟨[], us, rfl, rfl, rfl, rfl⟩⟩, ?_⟩
    rintro m σ H1 (⟨t1, t2, rfl, rfl, rfl, rfl⟩ | ⟨r, rfl, rfl, rfl, rfl⟩)
    · -- what stands at the place
      have hat : ∀ (x : List Nat) (j : Nat) (c : Nat) (z : Int), z = ((cs.length + (1 + t1.flatten.length) : Nat) : Int) + (j : Int) → t2.flatten ++ Z = x → x[j]? = some c → atI (TX src).cps.toList z = some c := by
        intro x j c z hz ex hx
        have e2 : src = cs ++ ((34 :: t1.flatten) ++ x) := by rw [hsrc, List.flatten_append, ← ex]; simp
        rw [e2]
        refine at_app (i := 1 + t1.flatten.length + j) (by rw [hz]; omega) ?_
        rw [List.getElem?_append_right (by simp; omega)]
        have e3 : 1 + t1.flatten.length + j - (34 :: t1.flatten).length = j := by simp; omega
        rw [e3]
        exact hx
      cases t2 with
      | nil =>
        rw [List.append_nil] at hsrc k
        rcases k with ⟨r, rfl, k⟩ | ⟨⟨r, rfl | rfl⟩, k⟩
        · refine ⟨_, rfl, p, C, dx, _, _, rfl, h1, T.cl, T.n_source, fs_source _ _ _ _ _, _, rfl, _, _, 34, rfl, rfl, hz5, hat _ 0 34 _ (by omega) rfl rfl, ?_⟩
          refine ⟨rfl, _, rfl, ?_⟩
          refine ite_oneN (c := 34) (d := 34) (fun z => absurd rfl z) (fun _ => ?_)
          exact ⟨_, rfl, k⟩
        · refine ⟨_, rfl, p, C, dx, _, _, rfl, h1, T.cl, T.n_source, fs_source _ _ _ _ _, _, rfl, _, _, 10, rfl, rfl, hz5, hat _ 0 10 _ (by omega) rfl rfl, ?_⟩
          refine ⟨rfl, _, rfl, ?_⟩
          refine ite_oneN (c := 10) (d := 34) (fun _ => ?_) (fun z => by cases z)
          refine ⟨fun _ _ => False, fun _ _ z => z.elim, ?_⟩
          refine ⟨_, rfl, p, C, dx, _, _, rfl, h1, T.cl, T.n_source, fs_source _ _ _ _ _, _, rfl, _, _, 10, rfl, rfl, hz5, hat _ 0 10 _ (by omega) rfl rfl, ?_⟩
          refine ⟨rfl, _, rfl, ?_⟩
          refine ite_one (c := 10) (d := 92) (fun z => by cases z) (fun _ => ?_)
          refine ite_b (b := false) (fun z => by cases z) (fun _ => ?_)
          refine ⟨_, rfl, p, C, dx, _, _, rfl, h1, T.cl, T.n_source, fs_source _ _ _ _ _, _, rfl, _, _, 10, rfl, rfl, hz5, hat _ 0 10 _ (by omega) rfl rfl, ?_⟩
          refine ⟨rfl, _, rfl, ?_⟩
          refine ite_one (c := 10) (d := 10) (fun _ => ?_) (fun z => absurd rfl z)
          exact ⟨_, rfl, p, dx, _, rfl, h1, rfl, _, rfl, p, C, dx, _, _, rfl, h1, T.cl, T.n_at, fs_at _ _ _ _ _, p, dx, src, cs, 0, _, rfl, h1, hlen, by rw [hsrc]; simp, by decide +kernel, k⟩
        · refine ⟨_, rfl, p, C, dx, _, _, rfl, h1, T.cl, T.n_source, fs_source _ _ _ _ _, _, rfl, _, _, 92, rfl, rfl, hz5, hat _ 0 92 _ (by omega) rfl rfl, ?_⟩
          refine ⟨rfl, _, rfl, ?_⟩
          refine ite_oneN (c := 92) (d := 34) (fun _ => ?_) (fun z => by cases z)
          refine ⟨fun σ' H' => σ' = [some (.ref p), some (.int ((cs.length + (1 + t1.flatten.length + 1) : Nat) : Int))] ∧ H' = H1, ?_, ?_⟩
          · rintro σ' H' ⟨rfl, rfl⟩
            exact ⟨0, by simp, .inr ⟨r, rfl, rfl, by rw [List.append_nil], rfl⟩⟩
          refine ⟨_, rfl, p, C, dx, _, _, rfl, h1, T.cl, T.n_source, fs_source _ _ _ _ _, _, rfl, _, _, 92, rfl, rfl, hz5, hat _ 0 92 _ (by omega) rfl rfl, ?_⟩
          refine ⟨rfl, _, rfl, ?_⟩
          refine ite_one (c := 92) (d := 92) (fun _ => ?_) (fun z => absurd rfl z)
          refine ⟨_, rfl, p, C, dx, _, _, rfl, h1, T.cl, T.n_source, fs_source _ _ _ _ _, _, rfl, _, _, rfl, rfl, _, _, 10, rfl, rfl, hz5, hat _ 1 10 _ rfl rfl rfl, ?_⟩
          refine ⟨rfl, _, rfl, ?_⟩
          refine ite_oneN (c := 10) (d := 10) (fun z => absurd rfl z) (fun _ => ?_)
          refine ⟨_, rfl, p, C, dx, _, _, rfl, h1, T.cl, T.n_source, fs_source _ _ _ _ _, _, rfl, _, _, 92, rfl, rfl, hz5, hat _ 0 92 _ (by omega) rfl rfl, ?_⟩
          refine ⟨rfl, _, rfl, ?_⟩
          refine ite_one (c := 92) (d := 10) (fun z => by cases z) (fun _ => ?_)
          refine ⟨_, rfl, _, _, rfl, rfl, ?_, rfl⟩
          have e4 : ((cs.length + (1 + t1.flatten.length) : Nat) : Int) + 1 = ((cs.length + (1 + t1.flatten.length + 1) : Nat) : Int) := by omega
          rw [← e4]
          rfl
      | cons u t2 =>
        have hgo : ∀ (j : Nat), j = u.length → ∃ m', m' < (u :: t2).length + 1 ∧ ((∃ u1 u2, m' = u2.length + 1 ∧ t1 ++ u :: t2 = u1 ++ u2 ∧ [some (V.ref p), some (V.int (((cs.length + (1 + t1.flatten.length) : Nat) : Int) + (j : Int)))] = [some (V.ref p), some (.int ((cs.length + (1 + u1.flatten.length) : Nat) : Int))] ∧ H1 = H1) ∨
            (∃ r, m' = 0 ∧ Z = 92 :: 10 :: r ∧ [some (V.ref p), some (V.int (((cs.length + (1 + t1.flatten.length) : Nat) : Int) + (j : Int)))] = [some (.ref p), some (.int ((cs.length + (1 + (t1 ++ u :: t2).flatten.length + 1) : Nat) : Int))] ∧ H1 = H1)) := by
          intro j hj
          refine ⟨t2.length + 1, by simp, .inl ⟨t1 ++ [u], t2, rfl, by simp, ?_, rfl⟩⟩
          have e : ((cs.length + (1 + t1.flatten.length) : Nat) : Int) + (j : Int) = ((cs.length + (1 + (t1 ++ [u]).flatten.length) : Nat) : Int) := by
            rw [List.flatten_append, List.length_append, hj]
            have : ([u] : List (List Nat)).flatten.length = u.length := by simp
            rw [this]
            omega
          rw [e]
        have es : (u :: t2).flatten ++ Z = u ++ (t2.flatten ++ Z) := by rw [List.flatten_cons, List.append_assoc]
        have hnx : ∀ σ' H', (∃ m', m' < (u :: t2).length + 1 ∧ ((∃ u1 u2, m' = u2.length + 1 ∧ t1 ++ u :: t2 = u1 ++ u2 ∧ σ' = [some (V.ref p), some (.int ((cs.length + (1 + u1.flatten.length) : Nat) : Int))] ∧ H' = H1) ∨
            (∃ r, m' = 0 ∧ Z = 92 :: 10 :: r ∧ σ' = [some (.ref p), some (.int ((cs.length + (1 + (t1 ++ u :: t2).flatten.length + 1) : Nat) : Int))] ∧ H' = H1))) → True := fun _ _ _ => trivial
        rcases hus u (by simp) with ⟨c, rfl, n1, n2, n3⟩ | ⟨x, rfl, n1⟩
        · refine ⟨_, rfl, p, C, dx, _, _, rfl, h1, T.cl, T.n_source, fs_source _ _ _ _ _, _, rfl, _, _, c, rfl, rfl, hz5, hat _ 0 c _ (by omega) es rfl, ?_⟩
          refine ⟨rfl, _, rfl, ?_⟩
          refine ite_oneN (c := c) (d := 34) (fun _ => ?_) (fun z => absurd z n2)
          refine ⟨fun σ' H' => ∃ m', m' < ([c] :: t2).length + 1 ∧ ((∃ u1 u2, m' = u2.length + 1 ∧ t1 ++ [c] :: t2 = u1 ++ u2 ∧ σ' = [some (V.ref p), some (.int ((cs.length + (1 + u1.flatten.length) : Nat) : Int))] ∧ H' = H1) ∨
            (∃ r, m' = 0 ∧ Z = 92 :: 10 :: r ∧ σ' = [some (.ref p), some (.int ((cs.length + (1 + (t1 ++ [c] :: t2).flatten.length + 1) : Nat) : Int))] ∧ H' = H1)), fun σ' H' z => z, ?_⟩
          refine ⟨_, rfl, p, C, dx, _, _, rfl, h1, T.cl, T.n_source, fs_source _ _ _ _ _, _, rfl, _, _, c, rfl, rfl, hz5, hat _ 0 c _ (by omega) es rfl, ?_⟩
          refine ⟨rfl, _, rfl, ?_⟩
          refine ite_one (c := c) (d := 92) (fun z => absurd z n3) (fun _ => ?_)
          refine ite_b (b := false) (fun z => by cases z) (fun _ => ?_)
          refine ⟨_, rfl, p, C, dx, _, _, rfl, h1, T.cl, T.n_source, fs_source _ _ _ _ _, _, rfl, _, _, c, rfl, rfl, hz5, hat _ 0 c _ (by omega) es rfl, ?_⟩
          refine ⟨rfl, _, rfl, ?_⟩
          refine ite_one (c := c) (d := 10) (fun z => absurd z n1) (fun _ => ?_)
          exact ⟨_, rfl, _, _, rfl, rfl, hgo 1 rfl⟩
        · refine ⟨_, rfl, p, C, dx, _, _, rfl, h1, T.cl, T.n_source, fs_source _ _ _ _ _, _, rfl, _, _, 92, rfl, rfl, hz5, hat _ 0 92 _ (by omega) es rfl, ?_⟩
          refine ⟨rfl, _, rfl, ?_⟩
          refine ite_oneN (c := 92) (d := 34) (fun _ => ?_) (fun z => by cases z)
          refine ⟨fun σ' H' => ∃ m', m' < ([92, x] :: t2).length + 1 ∧ ((∃ u1 u2, m' = u2.length + 1 ∧ t1 ++ [92, x] :: t2 = u1 ++ u2 ∧ σ' = [some (V.ref p), some (.int ((cs.length + (1 + u1.flatten.length) : Nat) : Int))] ∧ H' = H1) ∨
            (∃ r, m' = 0 ∧ Z = 92 :: 10 :: r ∧ σ' = [some (.ref p), some (.int ((cs.length + (1 + (t1 ++ [92, x] :: t2).flatten.length + 1) : Nat) : Int))] ∧ H' = H1)), fun σ' H' z => z, ?_⟩
          refine ⟨_, rfl, p, C, dx, _, _, rfl, h1, T.cl, T.n_source, fs_source _ _ _ _ _, _, rfl, _, _, 92, rfl, rfl, hz5, hat _ 0 92 _ (by omega) es rfl, ?_⟩
          refine ⟨rfl, _, rfl, ?_⟩
          refine ite_one (c := 92) (d := 92) (fun _ => ?_) (fun z => absurd rfl z)
          refine ⟨_, rfl, p, C, dx, _, _, rfl, h1, T.cl, T.n_source, fs_source _ _ _ _ _, _, rfl, _, _, rfl, rfl, _, _, x, rfl, rfl, hz5, hat _ 1 x _ rfl es rfl, ?_⟩
          refine ⟨rfl, _, rfl, ?_⟩
          refine ite_oneN (c := x) (d := 10) (fun _ => ?_) (fun z => absurd z n1)
          refine ⟨_, rfl, _, _, rfl, rfl, _, rfl, _, _, rfl, rfl, ?_⟩
          have := hgo 2 rfl
          have e4 : ((cs.length + (1 + t1.flatten.length) : Nat) : Int) + ((2 : Nat) : Int) = ((cs.length + (1 + t1.flatten.length) : Nat) : Int) + 1 + 1 := by omega
          rw [e4] at this
          exact this
    · -- behind a last backslash
      have e2 : src = cs ++ ((34 :: (us.flatten ++ [92])) ++ 10 :: r) := by rw [hsrc]; simp
      have hat : atI (TX src).cps.toList ((cs.length + (1 + us.flatten.length + 1) : Nat) : Int) = some 10 := by
        rw [e2]
        refine at_app (i := 1 + us.flatten.length + 1) rfl ?_
        rw [List.getElem?_append_right (by simp; omega)]
        have e3 : 1 + us.flatten.length + 1 - (34 :: (us.flatten ++ [92])).length = 0 := by simp; omega
        rw [e3]
        rfl
      have k2 := k.resolve_left (fun ⟨r, e, _⟩ => by cases e)
      refine ⟨_, rfl, p, C, dx, _, _, rfl, h1, T.cl, T.n_source, fs_source _ _ _ _ _, _, rfl, _, _, 10, rfl, rfl, hz5, hat, ?_⟩
      refine ⟨rfl, _, rfl, ?_⟩
      refine ite_oneN (c := 10) (d := 34) (fun _ => ?_) (fun z => by cases z)
      refine ⟨fun _ _ => False, fun _ _ z => z.elim, ?_⟩
      refine ⟨_, rfl, p, C, dx, _, _, rfl, h1, T.cl, T.n_source, fs_source _ _ _ _ _, _, rfl, _, _, 10, rfl, rfl, hz5, hat, ?_⟩
      refine ⟨rfl, _, rfl, ?_⟩
      refine ite_one (c := 10) (d := 92) (fun z => by cases z) (fun _ => ?_)
      refine ite_b (b := false) (fun z => by cases z) (fun _ => ?_)
      refine ⟨_, rfl, p, C, dx, _, _, rfl, h1, T.cl, T.n_source, fs_source _ _ _ _ _, _, rfl, _, _, 10, rfl, rfl, hz5, hat, ?_⟩
      refine ⟨rfl, _, rfl, ?_⟩
      refine ite_one (c := 10) (d := 10) (fun _ => ?_) (fun z => absurd rfl z)
      exact ⟨_, rfl, p, dx, _, rfl, h1, rfl, _, rfl, p, C, dx, _, _, rfl, h1, T.cl, T.n_at, fs_at _ _ _ _ _, p, dx, src, cs, 0, _, rfl, h1, hlen, by rw [hsrc]; simp, by decide +kernel, k2.2⟩
end
end VL

set_option Elab.async false
set_option linter.all false
set_option maxRecDepth 100000
set_option maxHeartbeats 4000000
namespace VL
open PySem PySem.Spec PyProof.Rows L2

abbrev noEsc : List Nat := [97, 98, 116, 48, 32, 47]
/-- a text with a fault -/
inductive BadT : List Nat → Nat → Str → Prop where
  | opn {us : List (List Nat)} {r : List Nat} (h : ∀ u ∈ us, Pc u) : BadT (34 :: (us.flatten ++ 10 :: r)) 0 "text not closed"
  | opn2 {us : List (List Nat)} {r : List Nat} (h : ∀ u ∈ us, Pc u) : BadT (34 :: (us.flatten ++ 92 :: 10 :: r)) 0 "text not closed"
  | esc {t x r} (h : x ∈ noEsc) : BadT (34 :: (escL t ++ 92 :: x :: 34 :: r)) (1 + (escL t).length) "unknown escape"
def spTextF (C D : Addr) : Sp := fun vs H _ E => ∃ (p dx : Addr) (src cs X : List Nat) (j : Nat) (m : Str), vs = [.ref p] ∧ H p = some (.ins C dx (fsAt src cs)) ∧ src = cs ++ X ∧ src.length ≤ 100000 ∧ BadT X j m ∧ ErrP p D E H (lnOf cs) (clOf cs + j + 1) m
/-- no such escape -/
def NoEsc (K : PySem.W.Frag) (mg : Str → Option Value) : Prop := ∃ a, GV mg "ESCAPES" (.ref a) ∧ ∀ x ∈ noEsc, PySem.W.nsIn K a (TX [x]) = some none
theorem esc_pc (t : List Nat) : ∀ u ∈ t.map esc1, Pc u := fun u h => by
  obtain ⟨c, _, rfl⟩ := List.mem_map.mp h
  rcases esc1_two c with ⟨e, n1, n2, n3⟩ | ⟨x, e, n1, _⟩
  · exact .inl ⟨c, e, n1, n2, n3⟩
  · exact .inr ⟨x, e, n1⟩
theorem esc_flat (t : List Nat) : (t.map esc1).flatten = escL t := by
  unfold escL
  rw [List.flatMap_def]
section
variable {P : Program} {w : World} {K : PySem.W.Frag} {mg : Str → Option Value} {base : Heap} {C D : Addr}
theorem ok_take_textF (T : Txt K w mg C) (TI : TxtI P K mg D) (mf : MethE K C "fail" "Scanner.fail" s_Scanner_fail ["self", "at", "message"]) (ne : NoEsc K mg) : MetX P w K mg base 5 C "take_text" (spTextF C D) := by
  have Xtext_end : MetX P w K mg base 4 C "text_end" (spTextEndR C D) := ok_text_endR T TI mf
  have Xfail : MetX P w K mg base 3 C "fail" (spFail C D) := ok_fail T TI mf
  obtain ⟨aE, esE, nE, gE, kE, ⟨u34, e34, r34⟩, ⟨u92, e92, r92⟩, ⟨u110, e110, r110⟩⟩ := T.t_ESCAPES
  have hno : ∀ x ∈ noEsc, PySem.W.nsIn K aE (TX [x]) = some none := by
    obtain ⟨a, ⟨u, g1, g2⟩, h⟩ := ne
    obtain ⟨u', g1', g2'⟩ := gE
    rw [g1] at g1'
    cases g1'
    have e1 : u = Value.ref a := g2
    have e2 : u = Value.ref aE := g2'
    rw [e1] at e2
    cases e2
    exact h
  refine metX_of T.m_take_text T.cl sc_Scanner_take_text (fun vs H Q E h => ?_) (fun f cdv A outer s H vs Q E hr h => ?_)
  · obtain ⟨p, dx, src, cs, X, j, m, rfl, _⟩ := h
    rfl
  · obtain ⟨p, dx, src, cs, X, j, m, rfl, h1, hsrc, hlen, hb, k⟩ := h
    have hz5 : (TX src).length ≤ sizeLine := by rw [TX_len]; exact size5 hlen
    refine ⟨_, (pss_cons (ps_set (i := 1) sc_Scanner_take_text.nd rfl (Or.inl rfl) (pe_mtX0 thruX Xtext_end hr (by decide) (pv 0))) (pss_cons (ps_set (i := 2) sc_Scanner_take_text.nd rfl (Or.inl rfl) (pe_lst pa_nil)) (pss_cons (ps_set (i := 3) sc_Scanner_take_text.nd rfl (Or.inl rfl) (pe_op op_add (pe_fld (pv 0) rfl) pe_int)) (pss_cons (ps_while (passes_of rfl) (pt_cmpR op_lt (pv 3) (pv 1) (nomark _)) (pss_cons (ps_set (i := 4) sc_Scanner_take_text.nd rfl (Or.inl rfl) (pe_ix ix_str (pe_fld (pv 0) rfl) (pv 3) (fun _ _ => rfl))) (pss_cons (ps_if (pt_cmpR op_eq (pv 4) pe_str (nomark _)) (pss_cons (ps_if (pt_cmpR (op_notIn_kd kE) (pe_ix ix_str (pe_fld (pv 0) rfl) (pe_op op_add (pv 3) pe_int) (fun _ _ => rfl)) (C8.pe_gc (by rfl) gE) rfl) (pss_one (ps_expr (pe_mtX thruX Xfail hr (by decide) (pv 0) (pa_cons (pv 3) (pa_cons pe_str pa_nil))))) pss_nil) (pss_cons (ps_set (i := 4) sc_Scanner_take_text.nd rfl (Or.inl rfl) (pe_ix ix_kdict (C8.pe_gc (by rfl) gE) (pe_ix ix_str (pe_fld (pv 0) rfl) (pe_op op_add (pv 3) pe_int) (fun _ _ => rfl)) (fun _ _ => rfl))) (pss_one (ps_aug (i := 3) sc_Scanner_take_text.nd rfl (Or.inl rfl) pe_int ip_add)))) pss_nil) (pss_cons (ps_expr (pe_bm PySem.F.plainAttrs_list PySem.F.slot_list_append PySem.F.type_list_append mt_append (pv 2) (pa_cons (pv 4) pa_nil))) (pss_one (ps_aug (i := 3) sc_Scanner_take_text.nd rfl (Or.inl rfl) pe_int ip_add)))))) (pss_cons (ps_fld (pv 0) (pe_op op_add (pv 1) pe_int) rfl) (pss_one (ps_ret (pe_join pe_str (pv 2))))))))), ?_⟩
    cases hb with
    | opn hus => exact ⟨_, rfl, p, dx, _, rfl, h1, rfl, p, dx, src, cs, _, _, rfl, h1, hsrc, hlen, hus, .inr ⟨⟨_, .inl rfl⟩, k⟩⟩
    | opn2 hus => exact ⟨_, rfl, p, dx, _, rfl, h1, rfl, p, dx, src, cs, _, _, rfl, h1, hsrc, hlen, hus, .inr ⟨⟨_, .inr rfl⟩, k⟩⟩
    | @esc t x r hx =>
      have hx4 : x ≠ 10 ∧ x ≠ 34 := (by decide : ∀ x ∈ noEsc, x ≠ 10 ∧ x ≠ 34) x hx
      have hfl : (t.map esc1 ++ [[92, x]]).flatten = escL t ++ [92, x] := by
        rw [List.flatten_append, esc_flat]
        simp
      have ht5 : t.length ≤ 100000 := by
        have h1 := escL_len t
        have h2 : (escL t).length ≤ src.length := by rw [hsrc]; simp; omega
        omega
      refine ⟨_, rfl, p, dx, _, rfl, h1, rfl, p, dx, src, cs, 34 :: r, t.map esc1 ++ [[92, x]], rfl, h1, (by rw [hsrc, hfl]; simp), hlen, fun u hu => ?_, .inl ⟨r, rfl, ?_⟩⟩
      · rcases List.mem_append.mp hu with hu | hu
        · exact esc_pc t u hu
        · rw [List.mem_singleton.mp hu]
          exact .inr ⟨x, rfl, hx4.1⟩
      have hfl2 : (t.map esc1 ++ [[92, x]]).flatten.length = (escL t).length + 2 := by rw [hfl, List.length_append]; rfl
      rw [hfl2]
      refine ⟨Nat.zero_le _, fun l hl => ?_⟩
      have npl : p ≠ l := ne_of_none h1 hl
      have hp : ∀ o, upd H l o p = some (.ins C dx (fsAt src cs)) := fun o => by rw [upd_ne npl]; exact h1
      refine ⟨_, rfl, p, C, dx, _, _, rfl, (hp _), T.cl, T.n_at, fs_at _ _ _ _ _, _, _, rfl, rfl, ?_⟩
      refine ⟨fun m σ H' => ∃ t1 t2 sg, m = t2.length ∧ t = t1 ++ t2 ∧ σ = [some (.ref p), some (.int ((cs.length + (1 + ((escL t).length + 2)) : Nat) : Int)), some (.ref l), some (.int ((cs.length + (1 + (escL t1).length) : Nat) : Int)), sg] ∧ H' = upd H l (.lst (t1.map fun c => V.str (TX [c]))),
        ⟨_, [], t, none, rfl, rfl, rfl, rfl⟩, ?_⟩
      rintro m σ H1 ⟨t1, t2, sg, rfl, et, rfl, rfl⟩
      have hat : ∀ (y : List Nat) (j : Nat) (c : Nat) (z : Int), z = ((cs.length + (1 + (escL t1).length) : Nat) : Int) + (j : Int) → escL t2 ++ 92 :: x :: 34 :: r = y → y[j]? = some c → atI (TX src).cps.toList z = some c := by
        intro y j c z hz ex hx
        have e2 : src = cs ++ ((34 :: escL t1) ++ y) := by rw [hsrc, et, escL_app, ← ex]; simp
        rw [e2]
        refine at_app (i := 1 + (escL t1).length + j) (by rw [hz]; omega) ?_
        rw [List.getElem?_append_right (by simp; omega)]
        have e3 : 1 + (escL t1).length + j - (34 :: escL t1).length = j := by simp; omega
        rw [e3]
        exact hx
      have hlt1 : (escL t1).length ≤ (escL t).length := by rw [et, escL_app, List.length_append]; omega
      refine ⟨_, rfl, _, rfl, _, _, rfl, rfl, _, rfl, ?_⟩
      refine ite2 (fun q => ?_) (fun q => absurd (decide_eq_true (p := ((cs.length + (1 + (escL t1).length) : Nat) : Int) < ((cs.length + (1 + ((escL t).length + 2)) : Nat) : Int)) (by omega)) q)
      cases t2 with
      | nil =>
        rw [List.append_nil] at et
        subst et
        refine ⟨fun _ _ => False, fun _ _ z => z.elim, ?_⟩
        refine ⟨_, rfl, p, C, dx, _, _, rfl, (hp _), T.cl, T.n_source, fs_source _ _ _ _ _, _, rfl, _, _, 92, rfl, rfl, hz5, hat _ 0 92 _ (by omega) rfl rfl, ?_⟩
        refine ⟨_, rfl, rfl, _, rfl, ?_⟩
        refine ite_one (c := 92) (d := 92) (fun _ => ?_) (fun z => absurd rfl z)
        refine ⟨_, rfl, p, C, dx, _, _, rfl, (hp _), T.cl, T.n_source, fs_source _ _ _ _ _, _, rfl, _, _, rfl, rfl, _, _, x, rfl, rfl, hz5, hat _ 1 x _ rfl rfl rfl, ?_⟩
        refine ⟨_, _, rfl, rfl, hno x hx, _, rfl, ?_⟩
        refine ite_b (b := !(none : Option Value).isSome) (fun _ => ?_) (fun z => by cases z)
        refine ⟨_, rfl, p, dx, _, rfl, hp _, rfl, _, rfl, p, dx, src, cs, 1 + (escL t).length, _, rfl, hp _, hlen, (by rw [hsrc]; simp; omega), by decide +kernel, fun d H' kp e => k d H' (fun b o e2 n => ?_) e⟩
        exact kp b o (by rw [upd_ne (ne_of_none e2 hl)]; exact e2) n
      | cons c t2 =>
        have hgo : ∀ (j : Nat) (sg : Option V), j = (esc1 c).length → ∃ m', m' < (c :: t2).length ∧ ∃ u1 u2 sg2, m' = u2.length ∧ t = u1 ++ u2 ∧ [some (V.ref p), some (.int ((cs.length + (1 + ((escL t).length + 2)) : Nat) : Int)), some (V.ref l), some (V.int (((cs.length + (1 + (escL t1).length) : Nat) : Int) + (j : Int))), sg] = [some (V.ref p), some (.int ((cs.length + (1 + ((escL t).length + 2)) : Nat) : Int)), some (.ref l), some (.int ((cs.length + (1 + (escL u1).length) : Nat) : Int)), sg2] ∧
            upd (upd H l (.lst (t1.map fun c => V.str (TX [c])))) l (.lst ((t1.map fun c => V.str (TX [c])) ++ [V.str (TX [c])])) = upd H l (.lst (u1.map fun c => V.str (TX [c]))) := by
          intro j sg hj
          refine ⟨t2.length, by simp, t1 ++ [c], t2, sg, rfl, by rw [et]; simp, ?_, by rw [upd_upd, List.map_append]; rfl⟩
          have e : ((cs.length + (1 + (escL t1).length) : Nat) : Int) + (j : Int) = ((cs.length + (1 + (escL (t1 ++ [c])).length) : Nat) : Int) := by
            rw [escL_app, List.length_append, hj]
            have : (escL [c]).length = (esc1 c).length := by unfold escL; simp
            rw [this]
            omega
          rw [e]
        have es : escL (c :: t2) ++ 92 :: x :: 34 :: r = esc1 c ++ (escL t2 ++ 92 :: x :: 34 :: r) := by rw [escL_cons, List.append_assoc]
        have hl1 : upd H l (.lst (t1.map fun c => V.str (TX [c]))) l = some (.lst (t1.map fun c => V.str (TX [c]))) := upd_same
        have hlt : (t1.map fun c => V.str (TX [c])).length < sizeLine := by
          rw [List.length_map]
          have : t1.length ≤ 100000 := by
            have := congrArg List.length et
            rw [List.length_append] at this
            omega
          exact Nat.lt_of_le_of_lt this (by decide)
        refine ⟨fun σ' H' => ∃ m', m' < (c :: t2).length ∧ ∃ u1 u2 sg2, m' = u2.length ∧ t = u1 ++ u2 ∧ σ' = [some (V.ref p), some (.int ((cs.length + (1 + ((escL t).length + 2)) : Nat) : Int)), some (.ref l), some (.int ((cs.length + (1 + (escL u1).length) : Nat) : Int)), sg2] ∧ H' = upd H l (.lst (u1.map fun c => V.str (TX [c]))), fun σ' H' z => z, ?_⟩
        rcases esc1_two c with ⟨e, n1, n2, n3⟩ | ⟨y, e, n1, hy⟩
        · rw [e] at es
          refine ⟨_, rfl, p, C, dx, _, _, rfl, (hp _), T.cl, T.n_source, fs_source _ _ _ _ _, _, rfl, _, _, c, rfl, rfl, hz5, hat _ 0 c _ (by omega) es rfl, ?_⟩
          refine ⟨_, rfl, rfl, _, rfl, ?_⟩
          refine ite_one (c := c) (d := 92) (fun z => absurd z n3) (fun _ => ?_)
          refine ⟨_, rfl, .inl ⟨rfl, _, SqL.of hl1⟩, _, rfl, l, _, _, rfl, rfl, hl1, hlt, ?_⟩
          exact ⟨_, rfl, _, _, rfl, rfl, hgo 1 _ (by rw [e]; rfl)⟩
        · rw [e] at es
          refine ⟨_, rfl, p, C, dx, _, _, rfl, (hp _), T.cl, T.n_source, fs_source _ _ _ _ _, _, rfl, _, _, 92, rfl, rfl, hz5, hat _ 0 92 _ (by omega) es rfl, ?_⟩
          refine ⟨_, rfl, rfl, _, rfl, ?_⟩
          refine ite_one (c := 92) (d := 92) (fun _ => ?_) (fun z => absurd rfl z)
          have hk : ∃ u, PySem.W.nsIn K aE (TX [y]) = some (some u) ∧ RelV (.str (TX [c])) u := by
            rcases hy with ⟨rfl, rfl⟩ | ⟨rfl, rfl⟩ | ⟨rfl, rfl⟩
            · exact ⟨u110, e110, r110⟩
            · exact ⟨u34, e34, r34⟩
            · exact ⟨u92, e92, r92⟩
          obtain ⟨ux, ex, rx⟩ := hk
          refine ⟨_, rfl, p, C, dx, _, _, rfl, (hp _), T.cl, T.n_source, fs_source _ _ _ _ _, _, rfl, _, _, rfl, rfl, _, _, y, rfl, rfl, hz5, hat _ 1 y _ rfl es rfl, ?_⟩
          refine ⟨_, _, rfl, rfl, ex, _, rfl, ?_⟩
          refine ite_b (b := !(some ux).isSome) (fun z => by cases z) (fun _ => ?_)
          refine ⟨_, rfl, p, C, dx, _, _, rfl, (hp _), T.cl, T.n_source, fs_source _ _ _ _ _, _, rfl, _, _, rfl, rfl, _, _, y, rfl, rfl, hz5, hat _ 1 y _ rfl es rfl, ?_⟩
          refine ⟨aE, _, .str (TX [c]), rfl, rfl, ⟨esE, nE, ux, kE.at_, kE.lit, ex, rx⟩, ?_⟩
          refine ⟨_, rfl, _, _, rfl, rfl, ?_⟩
          refine ⟨_, rfl, .inl ⟨rfl, _, SqL.of hl1⟩, _, rfl, l, _, _, rfl, rfl, hl1, hlt, ?_⟩
          refine ⟨_, rfl, _, _, rfl, rfl, ?_⟩
          have := hgo 2 (some (.str (TX [c]))) (by rw [e]; rfl)
          have e4 : ((cs.length + (1 + (escL t1).length) : Nat) : Int) + ((2 : Nat) : Int) = ((cs.length + (1 + (escL t1).length) : Nat) : Int) + 1 + 1 := by omega
          rw [e4] at this
          exact this
end
end VL

set_option Elab.async false
set_option linter.all false
set_option maxRecDepth 100000
set_option maxHeartbeats 4000000
namespace VL
open PySem PySem.Spec PyProof.Rows L2

/-- a token with a fault: its sort, what stands there, the place within it, what is told -/
inductive BadX : Str → List Nat → Nat → Str → Prop where
  | num {X j m} (h : BadN X j m) : BadX "number" X j m
  | txt {X j m} (h : BadT X j m) : BadX "text" X j m
  | sgn {c d r} (h : c ∉ singlesL) (h2 : [c, d] ∉ pairsL) (n1 : isLet c = false) (n2 : isDig c = false) (n3 : c ≠ 34) (n4 : c ≠ 10) (n5 : c ≠ 32) : BadX "sign" (c :: d :: r) 0 "unexpected character"
theorem two_of {m : List Nat} {c : Nat} {r : List Nat} (hm : m ≠ []) : ∃ c0 d r', m ++ c :: r = c0 :: d :: r' ∧ c0 ∈ m := by
  cases m with
  | nil => exact absurd rfl hm
  | cons a m =>
    cases m with
    | nil => exact ⟨a, c, r, rfl, List.mem_cons_self⟩
    | cons b m => exact ⟨a, b, m ++ c :: r, rfl, List.mem_cons_self⟩
theorem badx_head {so : Str} {X : List Nat} {j : Nat} {m : Str} (h : BadX so X j m) : ∃ c d r, X = c :: d :: r ∧ c ≠ 10 ∧ c ≠ 32 ∧ c ≠ 47 ∧ c ≠ 60 ∧ isLet c = false ∧ ((so = "number" ∧ isDig c = true) ∨ (so = "text" ∧ c = 34) ∨ (so = "sign" ∧ isDig c = false ∧ c ≠ 34)) := by
  have dig : ∀ c, isDig c = true → c ≠ 10 ∧ c ≠ 32 ∧ c ≠ 47 ∧ c ≠ 60 := fun c h => by
    refine ⟨fun e => ?_, fun e => ?_, fun e => ?_, fun e => ?_⟩ <;> subst e <;> revert h <;> decide
  cases h with
  | num h =>
    have : ∃ m c r, X = m ++ c :: r ∧ m ≠ [] ∧ ∀ x ∈ m, isDig x = true := by
      cases h with
      | more hm hd _ _ => exact ⟨_, _, _, rfl, hm, hd⟩
      | large hm hd _ _ _ => exact ⟨_, _, _, rfl, hm, hd⟩
    obtain ⟨m, c, r, rfl, hm, hd⟩ := this
    obtain ⟨c0, d, r', e, hc0⟩ := two_of (c := c) (r := r) hm
    obtain ⟨a1, a2, a3, a4⟩ := dig c0 (hd _ hc0)
    exact ⟨c0, d, r', e, a1, a2, a3, a4, dig_let (hd _ hc0), .inl ⟨rfl, hd _ hc0⟩⟩
  | txt h =>
    have t : ∃ d r, X = 34 :: d :: r := by
      cases h with
      | @opn us r h =>
        cases e : us.flatten with
        | nil => exact ⟨_, _, rfl⟩
        | cons a b => exact ⟨_, _, rfl⟩
      | @opn2 us r h =>
        cases e : us.flatten with
        | nil => exact ⟨_, _, rfl⟩
        | cons a b => exact ⟨_, _, rfl⟩
      | @esc t x r h =>
        cases e : escL t with
        | nil => exact ⟨_, _, rfl⟩
        | cons a b => exact ⟨_, _, rfl⟩
    obtain ⟨d, r, rfl⟩ := t
    exact ⟨34, d, r, rfl, by decide, by decide, by decide, by decide, by decide, .inr (.inl ⟨rfl, rfl⟩)⟩
  | sgn h h2 n1 n2 n3 n4 n5 =>
    exact ⟨_, _, _, rfl, n4, n5, fun e => h (by rw [e]; decide), fun e => h (by rw [e]; decide), n1, .inr (.inr ⟨rfl, n2, n3⟩)⟩
def spSortF (C : Addr) : Sp := fun vs H Q _ => ∃ (p dx : Addr) (src cs X : List Nat) (so : Str) (j : Nat) (m : Str), vs = [.ref p] ∧ H p = some (.ins C dx (fsAt src cs)) ∧ src.length ≤ 100000 ∧ src = cs ++ X ∧ BadX so X j m ∧ Q (.str so) H
def spWordF (C D : Addr) : Sp := fun vs H _ E => ∃ (p dx : Addr) (src cs X : List Nat) (so : Str) (j : Nat) (m : Str), vs = [.ref p, .str so] ∧ H p = some (.ins C dx (fsAt src cs)) ∧ src.length ≤ 100000 ∧ src = cs ++ X ∧ BadX so X j m ∧ ErrP p D E H (lnOf cs) (clOf cs + j + 1) m
def spTokenF (C D : Addr) : Sp := fun vs H _ E => ∃ (p dx : Addr) (src cs R X : List Nat) (so : Str) (j : Nat) (m : Str), vs = [.ref p] ∧ H p = some (.ins C dx (fsAt src cs)) ∧ src.length ≤ 100000 ∧ src = cs ++ R ∧ Skips R X ∧ BadX so X j m ∧
  ∀ cs1, src = cs1 ++ X → ErrP p D E H (lnOf cs1) (clOf cs1 + j + 1) m
section
variable {P : Program} {w : World} {K : PySem.W.Frag} {mg : Str → Option Value} {base : Heap} {C D : Addr}
theorem ok_next_sortF (T : Txt K w mg C) : Met P w K mg base 2 C "next_sort" (spSortF C) := by
  have Gis_letter : Cal P w K mg base 1 "is_letter" spLet := ok_is_letter T
  have Gis_digit : Cal P w K mg base 1 "is_digit" spDig := ok_is_digit T
  refine met_of T.m_next_sort T.cl sc_Scanner_next_sort (fun vs H Q E h => ?_) (fun f cdv A outer s H vs Q E hr h => ?_)
  · obtain ⟨p, dx, src, cs, X, so, j, m, rfl, _⟩ := h
    rfl
  · obtain ⟨p, dx, src, cs, X, so, j, m, rfl, h1, hlen, hsrc, hb, k⟩ := h
    have hz5 : (TX src).length ≤ sizeLine := by rw [TX_len]; exact size5 hlen
    refine ⟨_, (pss_cons (ps_set (i := 1) sc_Scanner_next_sort.nd rfl (Or.inl rfl) (pe_ix ix_str (pe_fld (pv 0) rfl) (pe_fld (pv 0) rfl) (fun _ _ => rfl))) (pss_cons (ps_if (pt_cmpR op_eq (pe_fld (pv 0) rfl) (pe_fld (pv 0) rfl) (nomark _)) (pss_one (ps_ret pe_str)) pss_nil) (pss_cons (ps_if (pt_val (pe_c Gis_letter hr (by decide) (by rfl) (pa_cons (pv 1) pa_nil))) (pss_one (ps_ret pe_str)) pss_nil) (pss_cons (ps_if (pt_val (pe_c Gis_digit hr (by decide) (by rfl) (pa_cons (pv 1) pa_nil))) (pss_one (ps_ret pe_str)) pss_nil) (pss_cons (ps_if (pt_cmpR op_eq (pv 1) pe_str (nomark _)) (pss_one (ps_ret pe_str)) pss_nil) (pss_cons (ps_if ((pw_and (pt_val (pe_bm PySem.F.plainAttrs_str PySem.F.slot_str_startswith PySem.F.type_str_startswith mt_startswith3 (pe_fld (pv 0) rfl) (pa_cons pe_str (pa_cons (pe_fld (pv 0) rfl) pa_nil)))) (pw_and1 (pt_val (pe_c Gis_letter hr (by decide) (by rfl) (pa_cons (pe_ix ix_str (pe_fld (pv 0) rfl) (pe_op op_add (pe_fld (pv 0) rfl) pe_int) (fun _ _ => rfl)) pa_nil)))))).pt (pss_one (ps_ret pe_str)) pss_nil) (pss_one (ps_ret pe_str)))))))), ?_⟩
    obtain ⟨c, d, r, rfl, n1, n2, n3, n4, nl, hso⟩ := badx_head hb
    have hl : cs.length + 2 ≤ src.length := by rw [hsrc]; simp
    have hat : atI (TX src).cps.toList (cs.length : Int) = some c := by rw [hsrc]; exact at_mid rfl
    refine ⟨_, rfl, p, C, dx, _, _, rfl, h1, T.cl, T.n_source, fs_source _ _ _ _ _, _, rfl, p, C, dx, _, _, rfl, h1, T.cl, T.n_at, fs_at _ _ _ _ _, _, _, c, rfl, rfl, hz5, hat, ?_⟩
    refine ⟨_, rfl, p, C, dx, _, _, rfl, h1, T.cl, T.n_at, fs_at _ _ _ _ _, _, rfl, p, C, dx, _, _, rfl, h1, T.cl, T.n_end, fs_end _ _ _ _ _, rfl, _, rfl, ?_⟩
    refine ite_b (fun z => ?_) (fun _ => ?_)
    · have z := of_decide_eq_true z
      injection z with z
      omega
    refine ⟨_, rfl, c, rfl, _, rfl, ?_⟩
    refine ite_b (b := isLet c) (fun z => by rw [nl] at z; cases z) (fun _ => ?_)
    refine ⟨_, rfl, c, rfl, _, rfl, ?_⟩
    rcases hso with ⟨rfl, hd⟩ | ⟨rfl, rfl⟩ | ⟨rfl, hd, h34⟩
    · exact ite_b (b := isDig c) (fun _ => k) (fun z => by rw [hd] at z; cases z)
    · refine ite_b (b := isDig 34) (fun z => absurd z (by decide)) (fun _ => ?_)
      refine ⟨_, rfl, rfl, _, rfl, ?_⟩
      exact ite_one (c := 34) (d := 34) (fun _ => k) (fun z => absurd rfl z)
    · refine ite_b (b := isDig c) (fun z => by rw [hd] at z; cases z) (fun _ => ?_)
      refine ⟨_, rfl, rfl, _, rfl, ?_⟩
      refine ite_one (c := c) (d := 34) (fun z => absurd z h34) (fun _ => ?_)
      have est : Txt.startswith3 (TX src) (TX [60, 47]) (cs.length : Int) = ((c :: d :: r).take 2 == [60, 47]) := by rw [hsrc]; exact starts_at rfl
      refine ⟨_, rfl, p, C, dx, _, _, rfl, h1, T.cl, T.n_source, fs_source _ _ _ _ _, rfl, _, rfl, p, C, dx, _, _, rfl, h1, T.cl, T.n_at, fs_at _ _ _ _ _, _, _, _, rfl, rfl, _, rfl, ?_⟩
      refine ite_b (b := Txt.startswith3 (TX src) (TX [60, 47]) (cs.length : Int)) (fun z4 => ?_) (fun z4 => ?_)
      · rw [est] at z4
        replace z4 := eq_of_beq z4
        injection z4 with z4
        exact absurd z4 n4
      · exact ite_b (b := false) (fun z => by cases z) (fun _ => k)
theorem ok_take_wordF (T : Txt K w mg C) (TI : TxtI P K mg D) (mf : MethE K C "fail" "Scanner.fail" s_Scanner_fail ["self", "at", "message"]) (ne : NoEsc K mg) : MetX P w K mg base 6 C "take_word" (spWordF C D) := by
  have Mtake_name : Met P w K mg base 3 C "take_name" (spName C) := ok_take_name T
  have Xtake_number : MetX P w K mg base 4 C "take_number" (spNumF C D) := ok_take_numberF T TI mf
  have Xtake_text : MetX P w K mg base 5 C "take_text" (spTextF C D) := ok_take_textF T TI mf ne
  have Xtake_sign : MetX P w K mg base 4 C "take_sign" (spSignF C D) := ok_take_signF T TI mf
  refine metX_of T.m_take_word T.cl sc_Scanner_take_word (fun vs H Q E h => ?_) (fun f cdv A outer s H vs Q E hr h => ?_)
  · obtain ⟨p, dx, src, cs, X, so, j, m, rfl, _⟩ := h
    rfl
  · obtain ⟨p, dx, src, cs, X, so, j, m, rfl, h1, hlen, hsrc, hb, k⟩ := h
    refine ⟨_, (pss_cons (ps_if (pt_cmpR op_eq (pv 1) pe_str (nomark _)) (pss_one (ps_ret pe_str)) pss_nil) (pss_cons (ps_if (pt_cmpR op_eq (pv 1) pe_str (nomark _)) (pss_one (ps_ret (pe_mtX0 thruX Xtake_number hr (by decide) (pv 0)))) pss_nil) (pss_cons (ps_if (pt_cmpR op_eq (pv 1) pe_str (nomark _)) (pss_one (ps_ret (pe_mtX0 thruX Xtake_text hr (by decide) (pv 0)))) pss_nil) (pss_cons (ps_if (pt_cmpR op_eq (pv 1) pe_str (nomark _)) (pss_one (ps_ret (pe_mtX0 thruX Xtake_sign hr (by decide) (pv 0)))) pss_nil) (pss_cons (ps_if (pt_cmpR op_eq (pv 1) pe_str (nomark _)) (pss_one (ps_fldaug (pv 0) (pe_callB call_len_str (by rfl) T.z_len PySem.boot_len (pa_cons pe_str pa_nil)) in_add)) pss_nil) (pss_one (ps_ret (pe_mt0 Mtake_name hr (by decide) (pv 0))))))))), ?_⟩
    cases hb with
    | num h =>
      refine ⟨_, rfl, rfl, _, rfl, ite_litN ?_ (by decide +kernel)⟩
      refine ⟨_, rfl, rfl, _, rfl, ite_lit ?_ rfl⟩
      exact ⟨_, rfl, p, dx, _, rfl, h1, rfl, p, dx, src, cs, X, j, m, rfl, h1, hsrc, hlen, h, k⟩
    | txt h =>
      refine ⟨_, rfl, rfl, _, rfl, ite_litN ?_ (by decide +kernel)⟩
      refine ⟨_, rfl, rfl, _, rfl, ite_litN ?_ (by decide +kernel)⟩
      refine ⟨_, rfl, rfl, _, rfl, ite_lit ?_ rfl⟩
      exact ⟨_, rfl, p, dx, _, rfl, h1, rfl, p, dx, src, cs, X, j, m, rfl, h1, hsrc, hlen, h, k⟩
    | sgn h h2 n1 n2 n3 n4 n5 =>
      refine ⟨_, rfl, rfl, _, rfl, ite_litN ?_ (by decide +kernel)⟩
      refine ⟨_, rfl, rfl, _, rfl, ite_litN ?_ (by decide +kernel)⟩
      refine ⟨_, rfl, rfl, _, rfl, ite_litN ?_ (by decide +kernel)⟩
      refine ⟨_, rfl, rfl, _, rfl, ite_lit ?_ rfl⟩
      exact ⟨_, rfl, p, dx, _, rfl, h1, rfl, p, dx, src, cs, _, _, _, rfl, h1, hsrc, hlen, h, h2, k⟩
theorem ok_tokenF (T : Txt K w mg C) (TI : TxtI P K mg D) (mf : MethE K C "fail" "Scanner.fail" s_Scanner_fail ["self", "at", "message"]) (ne : NoEsc K mg) : MetX P w K mg base 7 C "token" (spTokenF C D) := by
  have Mskip : Met P w K mg base 1 C "skip" (spSkip C) := ok_skip T
  have Mcolumn_of : Met P w K mg base 1 C "column_of" (spColumn C) := ok_column_of T
  have Mnext_sort : Met P w K mg base 2 C "next_sort" (spSortF C) := ok_next_sortF T
  have Xtake_word : MetX P w K mg base 6 C "take_word" (spWordF C D) := ok_take_wordF T TI mf ne
  refine metX_of T.m_token T.cl sc_Scanner_token (fun vs H Q E h => ?_) (fun f cdv A outer s H vs Q E hr h => ?_)
  · obtain ⟨p, dx, src, cs, R, X, so, j, m, rfl, _⟩ := h
    rfl
  · obtain ⟨p, dx, src, cs, R, X, so, j, m, rfl, h0, hlen, hsrc, sk, hb, k⟩ := h
    refine ⟨_, (pss_cons (ps_expr (pe_mt0 Mskip hr (by decide) (pv 0))) (pss_cons (ps_set (i := 1) sc_Scanner_token.nd rfl (Or.inl rfl) (pe_mt Mcolumn_of hr (by decide) (pv 0) (pa_cons (pe_fld (pv 0) rfl) pa_nil))) (pss_cons (ps_set (i := 2) sc_Scanner_token.nd rfl (Or.inl rfl) (pe_mt0 Mnext_sort hr (by decide) (pv 0))) (pss_one (ps_ret (pe_tup (pa_cons (pv 2) (pa_cons (pe_mtX thruX Xtake_word hr (by decide) (pv 0) (pa_cons (pv 2) pa_nil)) (pa_cons (pe_fld (pv 0) rfl) (pa_cons (pv 1) pa_nil)))))))))), ?_⟩
    refine ⟨_, rfl, p, dx, _, rfl, h0, rfl, p, dx, src, cs, R, _, rfl, h0, hsrc, hlen, sk, fun cs1 e1 => ?_⟩
    have h1 : upd H p (.ins C dx (fsAt src cs1)) p = some (.ins C dx (fsAt src cs1)) := upd_same
    have kp1 : ∀ b u, H b = some u → b ≠ p → upd H p (.ins C dx (fsAt src cs1)) b = some u := fun b u e n => by rw [upd_ne n]; exact e
    refine ⟨_, rfl, p, dx, _, rfl, h1, rfl, _, rfl, p, C, dx, _, _, rfl, h1, T.cl, T.n_at, fs_at _ _ _ _ _, p, dx, src, cs1, rfl, h1, ?_⟩
    refine ⟨_, rfl, p, dx, _, rfl, h1, rfl, p, dx, src, cs1, X, so, j, m, rfl, h1, hlen, e1, hb, ?_⟩
    refine ⟨_, rfl, _, rfl, p, dx, _, rfl, h1, rfl, _, rfl, p, dx, src, cs1, X, so, j, m, rfl, h1, hlen, e1, hb, fun d H' kp e => k cs1 e1 d H' (fun b o e2 n => ?_) e⟩
    exact kp b o (kp1 b o e2 n) n
end
end VL

set_option Elab.async false
set_option linter.all false
set_option maxRecDepth 100000
set_option maxHeartbeats 4000000
namespace VL
open PySem PySem.Spec PyProof.Rows L2

/-- from behind cs on, where R is left, n tokens are read and then a fault is met -/
inductive Lf : Nat → List Nat → List Nat → Nat → Nat → Str → Prop where
  | bad {cs R cs1 X so j m} (sk : Skips R X) (hb : BadX so X j m) (e : cs ++ R = cs1 ++ X) : Lf 0 cs R (lnOf cs1) (clOf cs1 + j + 1) m
  | tok {n cs R cs1 so wo wr d r l c m} (sk : Skips R (wr ++ d :: r)) (tk : Tk so wo wr d) (e : cs ++ R = cs1 ++ (wr ++ d :: r)) (rest : Lf n (cs1 ++ wr) (d :: r) l c m) : Lf (n + 1) cs R l c m
/-- this error is told, all else is kept -/
def ErrS (D : Addr) (E : XK) (H : Hp) (l c : Nat) (m : Str) : Prop := ∀ d H', Same H H' → H' d = some (.xd (fsE l c m)) → E (.ref D) (some d) H'
def spTokensF (D : Addr) : Sp := fun vs H _ E => ∃ (s : List Nat), vs = [.str (TX s)] ∧ s.length ≤ 90000 ∧ ((20000 < s.length ∧ ErrS D E H 1 1 "source too long") ∨ (s.length ≤ 20000 ∧ ∃ n l c m, n ≤ 50 ∧ Lf n [] (s ++ [10]) l c m ∧ ErrS D E H l c m))
theorem at0 {α : Type} {x : α} {r : List α} : atI (x :: r) 0 = some x := by
  unfold atI ixN
  rw [if_pos (by decide), if_pos (by simp)]
  rfl
section
variable {P : Program} {w : World} {K : PySem.W.Frag} {mg : Str → Option Value} {base : Heap} {C D : Addr}
theorem ok_tokensF (T : Txt K w mg C) (TI : TxtI P K mg D) (mf : MethE K C "fail" "Scanner.fail" s_Scanner_fail ["self", "at", "message"]) (ne : NoEsc K mg) : CalX P w K mg base 8 "tokens" (spTokensF D) := by
  have KScanner : Mak P w K mg base 1 "Scanner" C (spInitS C) := ok_init T
  have Mtoken : Met P w K mg base 5 C "token" (spToken C) := ok_token T
  have Xtoken : MetX P w K mg base 7 C "token" (spTokenF C D) := ok_tokenF T TI mf ne
  obtain ⟨fI, fd, FI, iI, tI, bI⟩ := ok_ISInit (w := w) (base := base) TI
  have IO := TI.o
  have gI := TI.g
  refine calX_of T.d_tokens sc_tokens (fun vs H Q E h => ?_) (fun f cdv A outer s H vs Q E hr h => ?_)
  · obtain ⟨z, rfl, _⟩ := h
    rfl
  · obtain ⟨z, rfl, hlen, k⟩ := h
    refine ⟨_, (pss_cons (ps_if (pt_cmpR op_gt (pe_callB call_len_str (by rfl) T.z_len PySem.boot_len (pa_cons (pv 0) pa_nil)) (C8.pe_gc (by rfl) T.g_LONGEST_SOURCE) (nomark _)) (pss_one (ps_raise rfl takeX (pmk_oex IO iI tI FI (hr.mono (by decide)) bI .nil pass0 rfl gI (pa_cons pe_int (pa_cons pe_int (pa_cons pe_str pa_nil)))))) pss_nil) (pss_cons (ps_set (i := 1) sc_tokens.nd rfl (Or.inl rfl) (pe_mk KScanner hr (by decide) (by rfl) (pa_cons (pv 0) pa_nil))) (pss_cons (ps_set (i := 2) sc_tokens.nd rfl (Or.inl rfl) (pe_lst (pa_cons (pe_two (pe_mt0 Mtoken hr (by decide) (pv 1)) (pe_mtX0 thruX Xtoken hr (by decide) (pv 1))) pa_nil))) (pss_cons (ps_while (passes_of rfl) (pt_cmpR op_ne (pe_ix ix_tup (pe_ix ix_list (pv 2) (pe_un un_neg pe_int) (fun _ _ => rfl)) pe_int (fun _ _ => rfl)) pe_str (nomark _)) (pss_one (ps_expr (pe_bm PySem.F.plainAttrs_list PySem.F.slot_list_append PySem.F.type_list_append mt_append (pv 2) (pa_cons (pe_two (pe_mt0 Mtoken hr (by decide) (pv 1)) (pe_mtX0 thruX Xtoken hr (by decide) (pv 1))) pa_nil))))) (pss_one (ps_ret (pv 2))))))), ?_⟩
    refine ⟨_, rfl, _, rfl, (by rw [TX_len]; exact size5 (by omega)), _, _, rfl, rfl, _, rfl, ?_⟩
    rcases k with ⟨h20, k⟩ | ⟨h20, n, l, c, m, hn, L, k⟩
    · refine ite_b (fun _ => ?_) (fun q => absurd (decide_eq_true (p := (20000 : Int) < ((TX z).length : Int)) (by rw [TX_len]; omega)) (by rw [q]; decide))
      refine ⟨by show 3 ≤ 1000; decide, fun a ha => ?_⟩
      refine ⟨a, 1, 1, _, rfl, upd_same, by omega, by omega, by decide +kernel, fun d H' hd nda e1 e2 kp => ?_⟩
      have hda : H d = none := by rw [upd_ne nda] at hd; exact hd
      refine ⟨rfl, d, _, e1, e2, hda, k d _ (fun b o e => ?_) upd_same⟩
      have nba : b ≠ a := ne_of_none e ha
      rw [upd_ne (ne_of_none e hda), del_ne nba]
      exact kp b o (by rw [upd_ne nba]; exact e) nba
    · refine ite_b (fun q => absurd (of_decide_eq_true q) (by rw [TX_len]; omega)) (fun _ => ?_)
      refine ⟨_, rfl, fun p dx np ndx ne => ?_⟩
      refine ⟨p, dx, z, rfl, upd_same, by omega, rfl, ?_⟩
      rw [upd_upd]
      have s1 : Same H (upd (upd H dx (.own p)) p (.ins C dx (fsAt (z ++ [10]) []))) := fun b o e => by
        rw [upd_ne (ne_of_none e np), upd_ne (ne_of_none e ndx)]
        exact e
      have hp1 : upd (upd H dx (.own p)) p (.ins C dx (fsAt (z ++ [10]) [])) p = some (.ins C dx (fsAt (z ++ [10]) [])) := upd_same
      generalize upd (upd H dx (.own p)) p (.ins C dx (fsAt (z ++ [10]) [])) = H1 at s1 hp1 ⊢
      have hsl : (z ++ [10]).length ≤ 100000 := by simp; omega
      have err : ∀ H', Same H H' → ErrP p D E H' l c m := fun H' s' d H'' kp e => k d H'' (fun b o eb => kp b o (s' b o eb) (ne_of_none eb np)) e
      cases L with
      | @bad _ _ cs1 X so j _ sk hb e =>
        refine .inr ⟨_, rfl, p, dx, _, rfl, hp1, rfl, ?_⟩
        refine meth0 (sp := spTokenF C D) ⟨p, dx, z ++ [10], [], z ++ [10], X, so, j, m, rfl, hp1, hsl, rfl, sk, hb, fun cs2 e2 => ?_⟩
        have ec : cs2 = cs1 := suffix_inj (c := X) (by rw [← e2]; exact e)
        subst ec
        exact err H1 s1
      | @tok n0 _ _ cs1 so wo wr d r _ _ _ sk tk e rest =>
        refine .inl ⟨_, rfl, p, dx, _, rfl, hp1, rfl, ?_⟩
        refine meth0 (sp := spToken C) ⟨p, dx, z ++ [10], [], z ++ [10], rfl, hp1, hsl, rfl, .inl ⟨so, wo, wr, d, r, sk, tk, fun cs2 t H2 e2 hp2 ht h2 kp => ?_⟩⟩
        have ec : cs2 = cs1 := suffix_inj (c := wr ++ d :: r) (by rw [← e2]; exact e)
        subst ec
        refine ⟨by show 1 ≤ sizeLine; decide, fun li hl => ?_⟩
        have htl : t ≠ li := ne_of_none h2 hl
        have npl : p ≠ li := ne_of_none hp2 hl
        have s2 : Same H (upd H2 li (.lst [.ref t])) := fun b o e => by
          have := kp b o (s1 b o e) (ne_of_none e np)
          rw [upd_ne (ne_of_none this hl)]
          exact this
        have nl0 : H li = none := by
          cases q : H li with
          | none => rfl
          | some u =>
            have h3 := kp li u (s1 li u q) (ne_of_none q np)
            rw [hl] at h3
            cases h3
        refine ⟨fun mm σ H' => ∃ (t0 : List Addr) (t : Addr) (so : Str) (r3 : List V) (cs R : List Nat), mm = mm ∧ so ≠ "end" ∧ t0.length + mm ≤ 50 ∧ σ = [some (.str (TX z)), some (.ref p), some (.ref li)] ∧ Same H H' ∧ H' li = some (.lst ((t0 ++ [t]).map V.ref)) ∧
            H' t = some (.tup (.str so :: r3)) ∧ z ++ [10] = cs ++ R ∧ H' p = some (.ins C dx (fsAt (z ++ [10]) cs)) ∧ Lf mm cs R l c m,
          ⟨n0, [], t, so, _, cs2 ++ wr, d :: r, rfl, tk_ne_end tk, by show 0 + n0 ≤ 50; omega, rfl, s2, upd_same, (by rw [upd_ne htl]; exact h2), (by rw [e2, List.append_assoc]), (by rw [upd_ne npl]; exact hp2), rest⟩, ?_⟩
        rintro mm σ H3 ⟨t0, t1, so1, r3, cs, R, _, nso, hln, rfl, s3, hl3, ht1, e3, hp3, L3⟩
        refine ⟨_, rfl, _, rfl, li, _, -1, .ref t1, rfl, rfl, SqL.of hl3, (by rw [List.map_append]; exact last_at), ?_⟩
        refine ⟨t1, _, 0, _, rfl, rfl, SqT.of ht1, at0, ?_⟩
        refine ⟨rfl, _, rfl, ?_⟩
        refine ite_b (fun _ => ?_) (fun q => ?_)
        · cases L3 with
          | @bad _ _ cs1 X so j _ sk hb e =>
            refine ⟨fun _ _ => False, fun _ _ z => z.elim, ?_⟩
            refine ⟨_, rfl, .inl ⟨rfl, _, SqL.of hl3⟩, ?_⟩
            refine .inr ⟨_, rfl, p, dx, _, rfl, hp3, rfl, ?_⟩
            refine meth0 (sp := spTokenF C D) ⟨p, dx, z ++ [10], cs, R, X, so, j, m, rfl, hp3, hsl, e3, sk, hb, fun cs3 e4 => ?_⟩
            have ec : cs3 = cs1 := suffix_inj (c := X) (by rw [← e4, e3]; exact e)
            subst ec
            exact err H3 s3
          | @tok n1 _ _ cs1 so wo wr d r _ _ _ sk tk e rest =>
            refine ⟨fun σ' H' => ∃ m', m' < n1 + 1 ∧ ∃ (t0 : List Addr) (t : Addr) (so : Str) (r3 : List V) (cs R : List Nat), m' = m' ∧ so ≠ "end" ∧ t0.length + m' ≤ 50 ∧ σ' = [some (.str (TX z)), some (.ref p), some (.ref li)] ∧ Same H H' ∧ H' li = some (.lst ((t0 ++ [t]).map V.ref)) ∧
              H' t = some (.tup (.str so :: r3)) ∧ z ++ [10] = cs ++ R ∧ H' p = some (.ins C dx (fsAt (z ++ [10]) cs)) ∧ Lf m' cs R l c m, fun σ' H' y => y, ?_⟩
            refine ⟨_, rfl, .inl ⟨rfl, _, SqL.of hl3⟩, ?_⟩
            refine .inl ⟨_, rfl, p, dx, _, rfl, hp3, rfl, ?_⟩
            refine meth0 (sp := spToken C) ⟨p, dx, z ++ [10], cs, R, rfl, hp3, hsl, e3, .inl ⟨so, wo, wr, d, r, sk, tk, fun cs3 t2 H4 e4 hp4 ht4 h4 kp4 => ?_⟩⟩
            have ec : cs3 = cs1 := suffix_inj (c := wr ++ d :: r) (by rw [← e4, e3]; exact e)
            subst ec
            have lnp : li ≠ p := ne_of hl3 hp3 (by intro e; cases e)
            have hl4 := kp4 _ _ hl3 lnp
            refine ⟨li, _, _, rfl, rfl, hl4, (by rw [List.length_map, List.length_append]; exact Nat.lt_of_le_of_lt (show t0.length + 1 ≤ 52 by omega) (by decide)), ?_⟩
            have ht2l : t2 ≠ li := ne_of h4 hl4 (by intro e; cases e)
            refine ⟨n1, by omega, t0 ++ [t1], t2, so, _, cs3 ++ wr, d :: r, rfl, tk_ne_end tk, (by rw [List.length_append]; show t0.length + 1 + n1 ≤ 50; omega), rfl, fun b o eb => ?_, (by rw [upd_same, List.map_append (l₂ := [t2])]; rfl), (by rw [upd_ne ht2l]; exact h4), (by rw [e4, List.append_assoc]), (by rw [upd_ne lnp.symm]; exact hp4), rest⟩
            rw [upd_ne (ne_of_none eb nl0)]
            exact kp4 b o (s3 b o eb) (ne_of_none eb np)
        · exfalso
          apply nso
          have q2 : (!decide (V.str so1 = V.str (Str.ofString "end"))) = false := q
          simpa using q2
end
end VL

set_option Elab.async false
set_option linter.all false
set_option maxRecDepth 100000
set_option maxHeartbeats 4000000
namespace VL
open PySem PySem.Spec PyProof.Rows L2 L2H

/-- an unreachable rest -/
theorem pss_dead {X : Cx} {sts : List Stmt} : PSs X sts (fun _ _ _ => False) := ⟨fun _ _ _ _ _ _ z => z.elim⟩

/-! ### a def that raises nothing, called while an error is handled, whatever its context -/
abbrev cxQ (P : Program) (w : World) (K : PySem.W.Frag) (mg : Str → Option Value) (base : Heap) (N : List Str) (qual : Str) (sc : Scope) (f : Addr) (cd : Value) (A : Around) (outer : List Env) (s : Shared) (H : Hp) (p : Addr × Obj) : Cx := cxH CX0 P w K mg base N qual sc f cd A outer s H E0 p
structure CalQ (P : Program) (w : World) (K : PySem.W.Frag) (mg : Str → Option Value) (base : Heap) (k : Nat) (x : Str) (sp : Sp) : Prop where
  ex : ∃ (f : Addr) (fd : FuncData) (ps : List Str), (∀ vs H Q E, sp vs H Q E → vs.length = ps.length) ∧ mg x = some (.ref f) ∧ PySem.W.keepIn K (.ref f) = true ∧ Binds K fd ps [] ∧
    ∀ (A : Around) (outer : List Env) (s : Shared) (H : Hp) (args : Args) (us : List Value) (vs : List V) (Q : VK) (p : Addr × Obj), RoomH k A → PinOk outer H s p → Env0 P w K mg base A outer s H → BindsTo s fd args (ps.zip us) → Vals vs us → sp vs H Q E0 →
      codeAny (model P w) A (.call (.ref f) args) (CR CX0 outer P w H s Q E0) s
section
variable {P : Program} {w : World} {K : PySem.W.Frag} {mg : Str → Option Value} {base : Heap}
theorem calQ_of {x : Str} {st : Stmt} {ps N : List Str} {k : Nat} {sp : Sp} (D : DefE K mg x st ps) (S : FnScope N ps (defScope st)) (len : ∀ vs H Q E, sp vs H Q E → vs.length = ps.length)
    (hbody : ∀ (f : Addr) (cdv : Value) (A : Around) (outer : List Env) (s : Shared) (H : Hp) (vs : List V) (Q : VK) (p : Addr × Obj), RoomH k (A.deeper (envOfC x (defScope st) s.heap.objs.size f cdv)) → sp vs H Q E0 →
      ∃ t, PSs (cxQ P w K mg base N x (defScope st) f cdv A outer s H p) (defBody st) t ∧ t { nx := fun _ H' => Q .non H', rt := Q } (L2.start N vs) H) : CalQ P w K mg base (k + 1) x sp := by
  obtain ⟨f, fd, F, hm, hbs⟩ := D
  have F0 := F
  obtain ⟨oc, od, kV, doc, pm, an, cdv, ct, osl, efd, lk, hcd⟩ := F.ex
  subst efd
  refine ⟨f, _, ps, len, hm, F0.kp, hbs, fun A outer s H args us vs Q p hr hpin e0 hb rv hsp => ?_⟩
  have hlen := len _ _ _ _ hsp
  have hK : K.In s.heap := e0.mod.kin.keeps fun b o z => (e0.bs b o z).1
  have hNo : s.heap.NoLimit := e0.mod.nolimit.keeps fun b o z => (e0.bs b o z).1
  refine codeAny_call_function hr.depth (hK _ _ lk) rfl S.co S.gen rfl (PySem.W.codeRec_of hK hcd) (hb _ _ _ _ ?_)
  refine wpAny_newFunctionEnv_cells S.kind (fun ⟨n, u⟩ hy => ?_) fun env he s1 z => ?_
  · exact (S.par n (List.of_mem_zip hy).1).imp id fun q => ⟨q, PySem.W.cellsFrom_some _ _ _ (.inl q)⟩
  subst he
  refine ⟨hNo.keeps z.toInCall.keep, codeAny_func ?_⟩
  obtain ⟨t, ht, hq⟩ := hbody f cdv A outer s H vs Q p (hr.deeper _) hsp
  have J : Inv (cxQ P w K mg base N x (defScope st) f cdv A outer s H p) [] (L2.start N vs) H s1 := inv_startH S hpin e0 hlen rv z
  have out : ∀ {σ' : L2.St} {H' : Hp} {v : V} {u : Value} {s' : Shared}, Inv (cxQ P w K mg base N x (defScope st) f cdv A outer s H p) [] σ' H' s' → L2.RelV v u → Q v H' → CE outer P w H s Q u s' :=
    fun {σ' H' v u s'} J' r' q => ⟨v, H', J'.os, J'.bare, J'.base, J'.hok, r', q⟩
  refine wpAny_mono (ht.run [] s1 _ H _ J hq) (fun fl s' hs => ?_) fun e s' hs => hs
  cases fl with
  | ret u =>
    obtain ⟨v, σ', H', J', r', q⟩ := hs
    exact out J' r' q
  | next =>
    obtain ⟨σ', H', J', q⟩ := hs
    exact out (v := V.non) (u := Value.none) J' rfl q
  | brk => exact hs.elim fun _ hs => hs.elim fun _ hs => hs.2.elim
  | cont => exact hs.elim fun _ hs => hs.elim fun _ hs => hs.2.elim
end
section
variable {X : Cx} {k j : Nat} {x : Str} {sp : Sp} {p pos : Pos} {e : Expr} {es : List Expr} {t : TA}
theorem pe_cQ {q : Addr × Obj} (hq : q ∈ X.pn) (c : CalQ X.prog X.w X.K X.mg X.base k x sp) (hr : RoomH j X.A) (hk : k ≤ j) (hg : Gl X x) (ha : PA X (e :: es) t)
    (hdb : (x == ("__debug__" : Str)) = false := by decide) (he : starEach (e :: es) X.env = (false, eval e X.env) :: starEach es X.env := by rfl) (hpl : (backTo pos (starEach es X.env)).any (·.1) = false := by rfl) :
    PE X (.Call (.Name x p) (e :: es) [] pos) (fun σ H Q => t σ H fun vs H1 => sp vs H1 Q E0) := by
  obtain ⟨f, fd, ps, len, hm, kp, hbs, run⟩ := c.ex
  refine ⟨fun pins s σ H Q I h => ?_⟩
  refine wpAny_Call_Name_kw (ld_glob I hg hm ?_ hdb)
  refine PySem.W.callWith_K (h₀ := X.base) I.ok.mod.kin kp (thn (ha.run pos pins s σ H _ I h) fun us s1 hh => ?_) he hpl
  obtain ⟨vs, H1, I1, rv, hsp⟩ := hh
  refine ⟨I1.kIn, ?_⟩
  have hlen : us.length = ps.length := by rw [← rv.length]; exact len _ _ _ _ hsp
  have bb := hbs s1 us I1.kIn (by rw [List.append_nil]; exact hlen)
  rw [List.append_nil] at bb
  have P1 := I1.pin q (List.mem_append_left _ hq)
  have hpin : PinOk X.stack H1 s1 q := ⟨P1.1, P1.2.1, fun hm => (List.mem_cons.mp (I1.stkSub q.1 hm)).elim P1.2.2.1 P1.2.2.2.1, P1.2.2.2.2⟩
  refine wpAny_call (codeAny_mono (run X.A X.stack s1 H1 ⟨us, []⟩ us vs Q q (hr.mono hk) hpin I1.env0 bb rv hsp) fun r s' hz => ?_)
  cases r with
  | error e => exact (pass0 (X := X) pins σ H1 s1 e s' I1 hz)
  | ok fl =>
    cases fl with
    | ret u => exact I1.after hz
    | next => exact hz.elim
    | brk => exact hz.elim
    | cont => exact hz.elim
end
/-! ### a call of a local name that holds a def that may raise -/
theorem pe_callLS {X : Cx} {CX : CXT} {k i : Nat} {f : Addr} {fd : FuncData} {ps : List Str} {sp : Sp} {E : L2.St → XK} {x : Str} {p pos : Pos} {e : Expr} {es : List Expr} {t : TA}
    (F : FnOk X.prog X.w X.K X.mg X.base CX k f fd ps sp) (hr : Room k X.A) (hN : X.N[i]? = some x) (hv : Vis X.env.scope x) (hk : PySem.W.keepIn X.K (.ref f) = true) (hb : Binds X.K fd ps []) (hx : ∀ σ, PassesAt CX X σ (E σ)) (ha : PA X (e :: es) t)
    (hdb : (x == ("__debug__" : Str)) = false := by decide) (hcd : (x == ("__classdict__" : Str)) = false := by decide)
    (he : starEach (e :: es) X.env = (false, eval e X.env) :: starEach es X.env := by rfl) (hpl : (backTo pos (starEach es X.env)).any (·.1) = false := by rfl) :
    PE X (.Call (.Name x p) (e :: es) [] pos) (fun σ H Q => σ[i]? = some (some (.ref f)) ∧ t σ H fun vs H1 => sp vs H1 Q (E σ)) := by
  refine ⟨fun pins s σ H Q I h => ?_⟩
  obtain ⟨hs, ht⟩ := h
  have hv := (pe_var (pos := p) hN hv hdb hcd).run pins s σ H (fun v H1 => v = .ref f ∧ H1 = H) I ⟨.ref f, hs, rfl, rfl⟩
  refine wpAny_Call_Name_kw (thn hv fun u s1 hh => ?_)
  obtain ⟨v, H1, I1, r1, ev, eH⟩ := hh
  subst ev eH
  cases r1
  refine PySem.W.callWith_K (h₀ := X.base) I.ok.mod.kin hk (thn (ha.run pos pins s1 σ _ _ I1 ht) fun us s2 hh => ?_) he hpl
  obtain ⟨vs, H2, I2, r, q⟩ := hh
  exact ⟨I2.kIn, run_fnS F hr hb (hx σ) I2 r q⟩
end VL

set_option Elab.async false
set_option linter.all false
set_option maxRecDepth 100000
set_option maxHeartbeats 4000000
namespace VL
open PySem PySem.Spec PyProof.Rows L2 L2H

def spIsInt : Sp := fun vs H Q _ => ∃ i : Int, vs = [.int i] ∧ Q (.bl true) H
/-- that s is refused so -/
def Ref (s : List Nat) (l c : Nat) (m : Str) : Prop := s.length ≤ 90000 ∧ ((20000 < s.length ∧ l = 1 ∧ c = 1 ∧ m = "source too long") ∨ (s.length ≤ 20000 ∧ ∃ n, n ≤ 50 ∧ Lf n [] (s ++ [10]) l c m))
theorem Ref.toks {s : List Nat} {l c : Nat} {m : Str} (r : Ref s l c m) {D : Addr} {E : XK} {H : Hp} {Q : VK} (k : ErrS D E H l c m) : spTokensF D [.str (TX s)] H Q E := by
  obtain ⟨h1, h2⟩ := r
  refine ⟨s, rfl, h1, ?_⟩
  rcases h2 with ⟨h2, rfl, rfl, rfl⟩ | ⟨h2, n, hn, L⟩
  · exact .inl ⟨h2, k⟩
  · exact .inr ⟨h2, n, l, c, m, hn, L, k⟩
def spRefF (D : Addr) : Sp := fun vs H _ E => ∃ (s : List Nat) (l c : Nat) (m : Str), vs = [.str (TX s)] ∧ Ref s l c m ∧ ErrS D E H l c m
def spCurF (D : Addr) : Sp := fun vs H _ E => ∃ (p : Addr) (s : List Nat) (l c : Nat) (m : Str), vs = [.ref p, .str (TX s)] ∧ Ref s l c m ∧ ErrS D E H l c m
/-- what isinstance and the fields of the error ask, and the law's helpers -/
structure TxtR (P : Program) (K : PySem.W.Frag) (w : World) (mg : Str → Option Value) (C D C2 Vw Ip : Addr) : Prop where
  t : Txt K w mg C
  ti : TxtI P K mg D
  mf : MethE K C "fail" "Scanner.fail" s_Scanner_fail ["self", "at", "message"]
  ne : NoEsc K mg
  cu : InitE K mg "Cursor" C2 "Cursor.__init__" s_Cursor___init__ ["self", "source"]
  dp : DefE K mg "parse_program" s_parse_program ["source"]
  dr : DefE K mg "_law_refused" s__law_refused ["read", "source", "line", "column", "message"]
  di : DefE K mg "_law_is_integer" s__law_is_integer ["told"]
  gV : GV mg "ViewError" (.ref Vw)
  gP : GV mg "InvalidProgram" (.ref Ip)
  zV : mg "ValueError" = none
  exm : PySem.W.exmOne K (.ref D) (.ref D) = some true
  xf : XfC K D
  ec : ExcC K D
  kV : PySem.W.kitOne K (.ref D) (.ref Vw) = some true
  kE : PySem.W.kitOne K (.ref D) (.type "ValueError") = some true
  kP : PySem.W.kitOne K (.ref D) (.ref Ip) = some false
theorem roomS {X : Cx} {a : Addr} {pn : List (Addr × Obj)} {k : Nat} (hr : Room k X.A) : RoomH k (X.suite a pn).A := ⟨hr.dp, hr.un⟩
section
variable {P : Program} {w : World} {K : PySem.W.Frag} {mg : Str → Option Value} {base : Heap} {C D C2 Vw Ip : Addr}
theorem ok_tokensR (T : TxtR P K w mg C D C2 Vw Ip) : CalX P w K mg base 8 "tokens" (spRefF D) := by
  obtain ⟨f, fd, ps, F, hm, kp, b⟩ := (ok_tokensF (w := w) (base := base) T.t T.ti T.mf T.ne).ex
  exact ⟨f, fd, ps, F.imp fun vs H Q E ⟨s, l, c, m, e, r, k⟩ => by rw [e]; exact r.toks k, hm, kp, b⟩
theorem sc_Cursor___init__ : FnScope ["self", "source"] ["self", "source"] (defScope s_Cursor___init__) := ⟨rfl, rfl, rfl, by decide +kernel, rfl, by decide +kernel, by decide +kernel⟩
theorem ok_cursorF (T : TxtR P K w mg C D C2 Vw Ip) : MakX P w K mg base 9 "Cursor" C2 (spCurF D) := by
  have Xtokens : CalX P w K mg base 8 "tokens" (spRefF D) := ok_tokensR T
  refine makX_of T.cu sc_Cursor___init__ (fun vs H Q E h => ?_) (fun f cdv A outer s H vs Q E hr h => ?_)
  · obtain ⟨p, z, l, c, m, rfl, _⟩ := h
    rfl
  · obtain ⟨p, z, l, c, m, rfl, r, k⟩ := h
    refine ⟨_, pss_cons (ps_fld (pv 0) (pe_cX thruX Xtokens hr (by decide) (by rfl) (pa_cons (pv 1) pa_nil)) rfl) pss_dead, ?_⟩
    exact ⟨_, rfl, z, l, c, m, rfl, r, k⟩
theorem sc_parse_program : FnScope ["source", "cursor", "stores", "components"] ["source"] (defScope s_parse_program) := ⟨rfl, rfl, rfl, by decide +kernel, rfl, by decide +kernel, by decide +kernel⟩
theorem ok_parseF (T : TxtR P K w mg C D C2 Vw Ip) : CalX P w K mg base 11 "parse_program" (spRefF D) := by
  have XCursor : MakX P w K mg base 9 "Cursor" C2 (spCurF D) := ok_cursorF T
  refine calX_of T.dp sc_parse_program (fun vs H Q E h => ?_) (fun f cdv A outer s H vs Q E hr h => ?_)
  · obtain ⟨z, l, c, m, rfl, _⟩ := h
    rfl
  · obtain ⟨z, l, c, m, rfl, r, k⟩ := h
    refine ⟨_, pss_cons (ps_set (i := 1) sc_parse_program.nd rfl (Or.inl rfl) (pe_mkX thruX XCursor hr (by decide) (by rfl) (pa_cons (pv 0) pa_nil))) pss_dead, ?_⟩
    refine ⟨_, rfl, fun p dx np ndx ne => ⟨p, z, l, c, m, rfl, r, fun d H' sm e => k d H' (fun b o eb => sm b o ?_) e⟩⟩
    rw [upd_ne (ne_of_none eb np), upd_ne (ne_of_none eb ndx)]
    exact eb
theorem sc__law_is_integer : FnScope ["told"] ["told"] (defScope s__law_is_integer) := ⟨rfl, rfl, rfl, by decide +kernel, rfl, by decide +kernel, by decide +kernel⟩
theorem ok_isIntQ (T : TxtR P K w mg C D C2 Vw Ip) : CalQ P w K mg base 1 "_law_is_integer" spIsInt := by
  have T' := T
  have T := T'.t
  refine calQ_of T'.di sc__law_is_integer (fun vs H Q E h => ?_) (fun f cdv A outer s H vs Q p hr h => ?_)
  · obtain ⟨i, rfl, _⟩ := h
    rfl
  · obtain ⟨i, rfl, k⟩ := h
    refine ⟨_, (pss_one (ps_ret (pe_and (pe_callB call_isi (by rfl) T.z_isinstance (by decide +kernel) (pa_cons (pv 0) (pa_cons (pe_bltn (v := .ty "int") (by rfl) T.z_int (by decide +kernel) rfl) pa_nil))) (pe_one (pe_not (pe_callB call_isi (by rfl) T.z_isinstance (by decide +kernel) (pa_cons (pv 0) (pa_cons (pe_bltn (v := .ty "bool") (by rfl) T.z_bool (by decide +kernel) rfl) pa_nil)))))))), ?_⟩
    refine ⟨_, rfl, .int i, .ty "int", _, _, true, rfl, .ty _, .base (.int i), kit_ty (by decide +kernel), true, rfl, ?_⟩
    refine iteT ?_
    exact ⟨_, rfl, .int i, .ty "bool", _, _, false, rfl, .ty _, .base (.int i), kit_ty (by decide +kernel), false, rfl, k⟩
theorem sc__law_refused : FnScope ["read", "source", "line", "column", "message", "e"] ["read", "source", "line", "column", "message"] (defScope s__law_refused) := ⟨rfl, rfl, rfl, by decide +kernel, rfl, by decide +kernel, by decide +kernel⟩
def spRefused (fr : Addr) : Sp := fun vs H Q _ => ∃ (s : List Nat) (l c : Nat) (m : Str), vs = [.ref fr, .str (TX s), .int (l : Int), .int (c : Int), .str m] ∧ Ref s l c m ∧ ∀ H', Q (.bl true) H'
theorem ok_refused (T : TxtR P K w mg C D C2 Vw Ip) {fr : Addr} {fdr : FuncData} {psr : List Str} (Fr : FnOk P w K mg base (L2.CX P w) 11 fr fdr psr (spRefF D)) (kpr : PySem.W.keepIn K (.ref fr) = true) (hbr : Binds K fdr psr []) :
    Cal P w K mg base 12 "_law_refused" (spRefused fr) := by
  have QI : CalQ P w K mg base 1 "_law_is_integer" spIsInt := ok_isIntQ T
  have gI := T.ti.g
  have zI := T.t.z_isinstance
  refine cal_of T.dr sc__law_refused (fun vs H Q E h => ?_) (fun f cdv A outer s H vs Q E hr h => ?_)
  · obtain ⟨z, l, c, m, rfl, _⟩ := h
    rfl
  · obtain ⟨z, l, c, m, rfl, r, k⟩ := h
    refine ⟨_, pss_cons (ps_try_as (i := 5) rfl rfl sc__law_refused.nd rfl rfl ⟨rfl, by decide, .inl gI⟩ takes0
      (fun W pn xe tk _ => pss_one (ps_expr (pe_callLS (i := 0) Fr hr rfl (Or.inl rfl) kpr hbr (fun σ => passAt tk σ) (pa_cons (pv 1) pa_nil))))
      (fun a oe cls d pn hz hf =>
        pss_cons (ps_if ((pw_or (pt_not (pt_val (pe_callB (call_isED T.ec hz hf) (by rfl) zI (by decide +kernel) (pa_cons (pv 5) (pa_cons (C8.pe_gc (by rfl) T.gV) pa_nil)))))
          (pw_or (pt_not (pt_val (pe_callB (call_isED T.ec hz hf) (by rfl) zI (by decide +kernel) (pa_cons (pv 5) (pa_cons (pe_bltn (v := .ty "ValueError") (by rfl) T.zV (by decide +kernel) rfl) pa_nil)))))
          (pw_or1 (pt_val (pe_callB (call_isED T.ec hz hf) (by rfl) zI (by decide +kernel) (pa_cons (pv 5) (pa_cons (C8.pe_gc (by rfl) T.gP) pa_nil)))))))).pt (pss_one (ps_ret pe_bl)) pss_nil)
        (pss_cons (ps_if ((pw_or (pt_not (pt_val (pe_cQ (j := 11) (q := (a, oe)) List.mem_cons_self QI (by exact roomS hr) (by decide) (by rfl) (pa_cons (pe_xf T.xf T.ti.nl hz hf (pv 5)) pa_nil))))
          (pw_or1 (pt_not (pt_val (pe_cQ (j := 11) (q := (a, oe)) List.mem_cons_self QI (by exact roomS hr) (by decide) (by rfl) (pa_cons (pe_xf T.xf T.ti.nc hz hf (pv 5)) pa_nil))))))).pt (pss_one (ps_ret pe_bl)) pss_nil)
        (pss_one (ps_ret (pe_and (pe_cmpR op_eq (pe_xf T.xf T.ti.nl hz hf (pv 5)) (pv 2) (nomark _)) (pe_and (pe_cmpR op_eq (pe_xf T.xf T.ti.nc hz hf (pv 5)) (pv 3) (nomark _)) (pe_one (pe_cmpR op_eq (pe_xf T.xf T.ti.nm hz hf (pv 5)) (pv 4) (nomark _)))))))))) (pss_one (ps_ret pe_bl)), ?_⟩
    refine ⟨rfl, _, rfl, z, l, c, m, rfl, r, fun d H' sm e => ⟨true, T.exm, fun _ a ha => ?_, fun q => nomatch q⟩⟩
    refine ⟨_, rfl, rfl, d, fsE l c m, .ref Vw, .ref Vw, true, rfl, e, rfl, (fun u h => h), T.kV, true, rfl, ?_⟩
    dsimp only
    rw [if_neg (by decide)]
    refine ⟨_, rfl, rfl, d, fsE l c m, .ty "ValueError", .type "ValueError", true, rfl, e, rfl, (fun u h => h), T.kE, true, rfl, ?_⟩
    dsimp only
    rw [if_neg (by decide)]
    refine ⟨_, rfl, rfl, d, fsE l c m, .ref Ip, .ref Ip, false, rfl, e, rfl, (fun u h => h), T.kP, false, rfl, ?_⟩
    dsimp only
    rw [if_neg (by decide)]
    refine ⟨_, rfl, rfl, rfl, d, fsE l c m, _, rfl, e, by rfl, _, rfl, true, rfl, ?_⟩
    dsimp only
    rw [if_neg (by decide)]
    refine ⟨_, rfl, rfl, rfl, d, fsE l c m, _, rfl, e, by rfl, _, rfl, true, rfl, ?_⟩
    dsimp only
    rw [if_neg (by decide)]
    refine ⟨_, rfl, rfl, rfl, d, fsE l c m, _, rfl, e, by rfl, _, rfl, rfl, true, (by simp), ?_⟩
    rw [if_pos rfl]
    refine ⟨_, rfl, rfl, rfl, d, fsE l c m, _, rfl, e, by rfl, _, rfl, rfl, true, (by simp), ?_⟩
    rw [if_pos rfl]
    refine ⟨_, rfl, rfl, rfl, d, fsE l c m, _, rfl, e, by rfl, _, rfl, rfl, ?_⟩
    show Q (.bl (decide (V.str m = V.str m))) H'
    rw [decide_eq_true rfl]
    exact k H'
end
end VL

set_option Elab.async false
set_option linter.all false
set_option maxRecDepth 100000
set_option maxHeartbeats 4000000
namespace VL
open PySem PySem.Spec PyProof.Rows L2

abbrev MM : Int := 18446744073709551557
/-- a state of drawing -/
def StA (H : Hp) (a : Addr) : Prop := ∃ z, H a = some (.lst [.int z]) ∧ 0 ≤ z ∧ z < MM
/-- all but a is kept -/
def Kp (a : Addr) (H H' : Hp) : Prop := ∀ b o, H b = some o → b ≠ a → H' b = some o
theorem Kp.trans {a : Addr} {H H' H'' : Hp} (h : Kp a H H') (k : Kp a H' H'') : Kp a H H'' := fun b o e n => k b o (h b o e n) n
theorem Kp.refl {a : Addr} {H : Hp} : Kp a H H := fun _ _ e _ => e
theorem Kp.new {a t : Addr} {o : HO} {H : Hp} (h : H t = none) : Kp a H (upd H t o) := fun b u e _ => by rw [upd_ne (ne_of_none e h)]; exact e
theorem StA.new {a t : Addr} {o : HO} {H : Hp} (S : StA H a) (h : H t = none) : StA (upd H t o) a := by
  obtain ⟨z, e, r⟩ := S
  exact ⟨z, by rw [upd_ne (ne_of_none e h)]; exact e, r⟩
def spCellA (K : PySem.W.Frag) : Sp := fun vs H Q _ => ∃ (a : Addr) (ns : List Int) (j : Int), vs = [.ref a, .int j] ∧ SqL K H a (ns.map V.int) ∧ 0 ≤ j ∧ ∀ z, Q (.int z) H
def spStart : Sp := fun vs H Q _ => ∃ c k : Int, vs = [.int c, .int k] ∧ ∀ p H', H p = none → Same H H' → StA H' p → Q (.ref p) H'
def spDigit : Sp := fun vs H Q _ => ∃ (a : Addr) (m : Int), vs = [.ref a, .int m] ∧ StA H a ∧ 0 < m ∧ ∀ r H', StA H' a → Kp a H H' → 0 ≤ r → r < m → Q (.int r) H'
theorem map_int_at {ns : List Int} {j : Int} (h0 : 0 ≤ j) (h1 : j < (ns.length : Int)) : ∃ z, atI (ns.map V.int) j = some (.int z) := by
  have hj : j.toNat < ns.length := by omega
  refine ⟨ns[j.toNat], ?_⟩
  unfold atI ixN
  rw [if_pos h0, if_pos (by rw [List.length_map]; exact h1)]
  show (ns.map V.int)[j.toNat]? = _
  rw [List.getElem?_map, List.getElem?_eq_getElem hj]
  rfl
theorem atI_map {α : Type} {rs : List α} {f : α → V} {r : Int} (h0 : 0 ≤ r) (h1 : r.toNat < rs.length) : atI (rs.map f) r = some (f rs[r.toNat]) := by
  unfold atI ixN
  rw [if_pos h0, if_pos (by rw [List.length_map]; omega)]
  show (rs.map f)[r.toNat]? = _
  rw [List.getElem?_map, List.getElem?_eq_getElem h1]
  rfl
theorem escL_len2 : ∀ t : List Nat, (escL t).length ≤ 2 * t.length
  | [] => Nat.zero_le _
  | c :: t => by
    rw [escL_cons, List.length_append, List.length_cons]
    have := escL_len2 t
    rcases esc1_two c with ⟨e, _⟩ | ⟨x, e, _⟩ <;> rw [e] <;> simp <;> omega
structure TxtD (K : PySem.W.Frag) (mg : Str → Option Value) : Prop where
  d__law_cell : DefE K mg "_law_cell" s__law_cell ["script", "k"]
  d__law_start : DefE K mg "_law_start" s__law_start ["cell", "k"]
  d__law_digit : DefE K mg "_law_digit" s__law_digit ["state", "many"]
  d__law_head : DefE K mg "_law_head" s__law_head ["state"]
  d__law_bad : DefE K mg "_law_bad" s__law_bad ["state"]
section
variable {P : Program} {w : World} {K : PySem.W.Frag} {mg : Str → Option Value} {base : Heap} {C : Addr}
theorem sc__law_cell : FnScope ["script", "k"] ["script", "k"] (defScope s__law_cell) := ⟨rfl, rfl, rfl, by decide +kernel, rfl, by decide +kernel, by decide +kernel⟩
theorem ok_cell (T : Txt K w mg C) (TD : TxtD K mg) : Cal P w K mg base 1 "_law_cell" (spCellA K) := by
  refine cal_of TD.d__law_cell sc__law_cell (fun vs H Q E h => ?_) (fun f cdv A outer s H vs Q E hr h => ?_)
  · obtain ⟨a, ns, j, rfl, _⟩ := h
    rfl
  · obtain ⟨a, ns, j, rfl, hS, h0, k⟩ := h
    refine ⟨_, (pss_cons (ps_if (pt_cmpR op_lt (pv 1) (pe_callB call_len_seq (by rfl) T.z_len PySem.boot_len (pa_cons (pv 0) pa_nil)) (nomark _)) (pss_one (ps_ret (pe_ix ix_list (pv 0) (pv 1) (fun _ _ => rfl)))) pss_nil) (pss_one (ps_ret pe_int))), ?_⟩
    refine ⟨_, rfl, _, rfl, a, _, rfl, .inl hS, _, _, rfl, rfl, _, rfl, ?_⟩
    refine ite2 (fun q => ?_) (fun q => ?_)
    · have q' := of_decide_eq_true q
      rw [List.length_map] at q'
      obtain ⟨z, hz⟩ := map_int_at h0 q'
      exact ⟨_, rfl, _, rfl, a, _, j, _, rfl, rfl, hS, hz, k z⟩
    · exact k 0
theorem sc__law_start : FnScope ["cell", "k"] ["cell", "k"] (defScope s__law_start) := ⟨rfl, rfl, rfl, by decide +kernel, rfl, by decide +kernel, by decide +kernel⟩
theorem ok_start (T : Txt K w mg C) (TD : TxtD K mg) : Cal P w K mg base 1 "_law_start" spStart := by
  refine cal_of TD.d__law_start sc__law_start (fun vs H Q E h => ?_) (fun f cdv A outer s H vs Q E hr h => ?_)
  · obtain ⟨c, k, rfl, _⟩ := h
    rfl
  · obtain ⟨c, j, rfl, k⟩ := h
    refine ⟨_, (pss_one (ps_ret (pe_lst (pa_cons (pe_op op_mod (pe_callTy call_int1 (by rfl) T.z_int (by decide +kernel) (pa_cons (pe_op op_add (pe_op op_mul (pv 0) pe_int) (pe_op op_mul (pe_op op_add (pv 1) pe_int) pe_int)) pa_nil)) pe_int) pa_nil)))), ?_⟩
    refine ⟨_, rfl, _, _, rfl, rfl, .inr ⟨by decide, by decide⟩, _, rfl, _, _, rfl, rfl, _, _, rfl, rfl, .inr ⟨by decide, by decide⟩, _, _, rfl, rfl, .inl ⟨_, rfl, _, _, rfl, rfl, (by show (0 : Int) < MM; decide), ?_⟩⟩
    refine ⟨by show 1 ≤ sizeLine; decide, fun p hp => ?_⟩
    refine k p _ hp (fun b o e => by rw [upd_ne (ne_of_none e hp)]; exact e) ⟨_, upd_same, Int.emod_nonneg _ (by decide), Int.emod_lt_of_pos _ (by decide)⟩
theorem sc__law_digit : FnScope ["state", "many"] ["state", "many"] (defScope s__law_digit) := ⟨rfl, rfl, rfl, by decide +kernel, rfl, by decide +kernel, by decide +kernel⟩
theorem ok_digit (T : Txt K w mg C) (TD : TxtD K mg) : Cal P w K mg base 1 "_law_digit" spDigit := by
  refine cal_of TD.d__law_digit sc__law_digit (fun vs H Q E h => ?_) (fun f cdv A outer s H vs Q E hr h => ?_)
  · obtain ⟨a, m, rfl, _⟩ := h
    rfl
  · obtain ⟨a, m, rfl, ⟨z, hS, h0, h1⟩, hm, k⟩ := h
    refine ⟨_, (pss_cons (ps_asg (pe_op op_mod (pe_callTy call_int1 (by rfl) T.z_int (by decide +kernel) (pa_cons (pe_op op_add (pe_op op_mul (pe_ix ix_list (pv 0) pe_int (fun _ _ => rfl)) pe_int) pe_int) pa_nil)) pe_int) (pg_sub (pv 0) pe_int set_list)) (pss_one (ps_ret (pe_op op_mod (pe_callTy call_int1 (by rfl) T.z_int (by decide +kernel) (pa_cons (pe_op op_fdiv (pe_ix ix_list (pv 0) pe_int (fun _ _ => rfl)) pe_int) pa_nil)) (pv 1))))), ?_⟩
    refine ⟨_, rfl, a, _, 0, _, rfl, rfl, SqL.of hS, rfl, _, _, rfl, rfl, .inr ⟨by decide, by decide⟩, _, _, rfl, rfl, .inl ⟨_, rfl, _, _, rfl, rfl, (by show (0 : Int) < MM; decide), ?_⟩⟩
    refine ⟨_, rfl, a, _, 0, 0, rfl, rfl, hS, rfl, ?_⟩
    refine ⟨_, rfl, a, _, 0, _, rfl, rfl, SqL.of upd_same, rfl, _, _, rfl, rfl, ⟨by decide, by decide⟩, .inl ⟨_, rfl, _, rfl, _, _, rfl, rfl, hm, ?_⟩⟩
    exact k _ _ ⟨_, upd_same, Int.emod_nonneg _ (by decide), Int.emod_lt_of_pos _ (by decide)⟩ (fun b o e n => by rw [upd_ne n]; exact e) (Int.emod_nonneg _ (by omega)) (Int.emod_lt_of_pos _ hm)
end
end VL

set_option Elab.async false
set_option linter.all false
set_option maxRecDepth 100000
set_option maxHeartbeats 4000000
namespace VL
open PySem PySem.Spec PyProof.Rows L2

theorem fold_rep (l : List Nat) : ∀ (n : Nat) (acc : Array Nat), (List.replicate n l.toArray).foldl (· ++ ·) acc = acc ++ (List.replicate n l).flatten.toArray
  | 0, acc => by simp
  | n + 1, acc => by
    rw [List.replicate_succ, List.replicate_succ, List.foldl_cons, fold_rep l n, List.flatten_cons]
    simp [Array.append_assoc]
/-- s * n -/
theorem op_mul_str {X : Cx} : OpR X (binaryOp .Mult) (fun x y H Q => ∃ (l : List Nat) (k : Int), x = .str (TX l) ∧ y = .int k ∧ 0 ≤ k ∧ k ≤ 100000 ∧ l.length ≤ 10 ∧ Q (.str (TX (List.replicate k.toNat l).flatten)) H) := by
  intro pins s σ H x y v u Q I rx ry h
  obtain ⟨l, k, rfl, rfl, h0, h1, hl, q⟩ := h
  obtain ⟨t, rfl⟩ := rx
  obtain ⟨t', rfl⟩ := ry
  have hlen : (TX l).length = l.length := TX_len l
  have hs : (TX l).length * k.toNat ≤ 1000000 := by
    rw [hlen]
    have : k.toNat ≤ 100000 := by omega
    exact Nat.le_trans (Nat.mul_le_mul hl this) (by decide)
  refine PySem.P.mul_str (by rw [decide_eq_false (by omega), decide_eq_false (by omega)]; rfl) (fun hk _ => ?_) (fun hk _ => ?_) ?_
  · rw [hlen]
    intro hgt
    have hk' : 1 ≤ k := by omega
    have h2 : (100000000000 : Int) ≤ (2 ^ 63 - 1) / k := by
      refine Int.le_trans (?_ : (100000000000 : Int) ≤ (2 ^ 63 - 1) / 100000) ?_
      · omega
      · have e : (2 ^ 63 - 1 : Int) / 100000 = 92233720368547 := by decide
        rw [e]
        refine (Int.le_ediv_iff_mul_le (by omega)).mpr ?_
        omega
    omega
  · show decide ((TX l).length * k.toNat > sizeLine) = false
    exact decide_eq_false (Nat.not_lt.mpr (Nat.le_trans hs (by decide)))
  · have bound : ∀ z : Str, z.length ≤ 1000000 → Q (.str z) H → (Made.str z).post (EP X pins σ Q) s := fun z hz hq =>
      ⟨Nat.le_trans hz (by decide), .str z, H, I.tok _, ⟨_, rfl⟩, hq⟩
    by_cases hk : k < 1
    · rw [if_pos hk]
      have e : k = 0 := by omega
      subst e
      exact bound _ (by decide) q
    · rw [if_neg hk]
      by_cases hb : (k == 1 || (TX l).length == 0) = true
      · rw [if_pos hb]
        have e : (List.replicate k.toNat l).flatten = l := by
          rcases Bool.or_eq_true_iff.mp hb with hb | hb
          · have e1 : k = 1 := by simpa using hb
            subst e1
            simp
          · have e0 : l = [] := by
              rw [hlen] at hb
              simpa using hb
            subst e0
            simp
        rw [e] at q
        exact ⟨.str (TX l), H, I, ⟨_, rfl⟩, q⟩
      · rw [if_neg hb]
        have e : (⟨(List.replicate k.toNat (TX l).cps).foldl (· ++ ·) #[]⟩ : Str) = TX (List.replicate k.toNat l).flatten := by
          show (⟨(List.replicate k.toNat l.toArray).foldl (· ++ ·) #[]⟩ : Str) = _
          rw [fold_rep]
          simp
        rw [e]
        refine bound _ ?_ q
        rw [TX_len, List.length_flatten]
        simp
        rw [hlen] at hs
        rw [Nat.mul_comm]
        exact hs
end VL

set_option Elab.async false
set_option linter.all false
set_option maxRecDepth 100000
set_option maxHeartbeats 4000000
namespace VL
open PySem PySem.Spec PyProof.Rows L2

theorem lf_gap {n : Nat} {cs g R : List Nat} {l c : Nat} {m : Str} (h : ∀ Y, Skips R Y → Skips (g ++ R) Y) (L : Lf n (cs ++ g) R l c m) : Lf n cs (g ++ R) l c m := by
  cases L with
  | bad sk hb e => exact .bad (h _ sk) hb (by rw [← List.append_assoc]; exact e)
  | tok sk tk e rest => exact .tok (h _ sk) tk (by rw [← List.append_assoc]; exact e) rest
theorem one_gap {sep : Nat} (h : sep = 32 ∨ sep = 10) {R : List Nat} (hR : 1 ≤ R.length) : ∀ Y, Skips R Y → Skips ([sep] ++ R) Y := fun Y k => by
  rcases h with rfl | rfl
  · exact .sp hR k
  · exact .nl hR k
theorem tok_step {n : Nat} {s wr g R wo : List Nat} {so : Str} {sep l c : Nat} {m : Str} (hs : sep = 32 ∨ sep = 10) (hg : g = [] ∨ g = [32]) (tk : ∀ d, d = 32 ∨ d = 10 → Tk so wo wr d) (hR : 1 ≤ R.length) (L : Lf n (s ++ (wr ++ g) ++ [sep]) R l c m) :
    Lf (n + 1) s ((wr ++ g) ++ [sep] ++ R) l c m := by
  have L1 : Lf n (s ++ (wr ++ g)) ([sep] ++ R) l c m := lf_gap (one_gap hs hR) L
  have L2 : ∃ d r, (d = 32 ∨ d = 10) ∧ (g ++ [sep] ++ R) = d :: r ∧ Lf n (s ++ wr) (d :: r) l c m := by
    rcases hg with rfl | rfl
    · rw [List.append_nil] at L1
      exact ⟨sep, R, hs, rfl, L1⟩
    · have L3 : Lf n (s ++ wr) ([32] ++ ([sep] ++ R)) l c m := lf_gap (one_gap (.inl rfl) (by simp)) (by rw [List.append_assoc]; exact L1)
      exact ⟨32, [sep] ++ R, .inl rfl, rfl, L3⟩
  obtain ⟨d, r, hd, e, L3⟩ := L2
  have t := tk d hd
  obtain ⟨h10, hh⟩ := tk_head t
  obtain ⟨c0, q, ec, nw, n1, n2, n3⟩ := hh r
  have sk : Skips (wr ++ d :: r) (wr ++ d :: r) := by
    rw [ec]
    exact .done n1 n2 n3
  have e2 : wr ++ g ++ [sep] ++ R = wr ++ d :: r := by
    rw [← e]
    simp
  rw [e2]
  exact .tok sk t rfl L3
/-- a row of tokens from the beginning, k at most -/
def HI (k : Nat) (s : List Nat) : Prop := ∀ n R l c m, 1 ≤ R.length → Lf n s R l c m → ∃ n', n' ≤ n + k ∧ Lf n' [] (s ++ R) l c m
theorem hi_nil : HI 0 [] := fun n R l c m _ L => ⟨n, Nat.le_refl _, L⟩
theorem HI.mono {j k : Nat} {s : List Nat} (h : HI j s) (hk : j ≤ k) : HI k s := fun n R l c m hR L => by
  obtain ⟨n', h1, h2⟩ := h n R l c m hR L
  exact ⟨n', by omega, h2⟩
abbrev piecesL : List (List Nat) := [[105, 102], [40, 32], [10], [120, 32], [34, 97, 92, 110, 34, 32], [47, 47, 32, 110, 111, 10], [49, 50, 32], [60, 47, 112], [59]]
theorem ws_sep {d : Nat} (h : d = 32 ∨ d = 10) : isWs d = false := by rcases h with rfl | rfl <;> decide
theorem hi_step {k sep : Nat} {s p : List Nat} (I : HI k s) (hp : p ∈ piecesL) (hs : sep = 32 ∨ sep = 10) : HI (k + 1) (s ++ p ++ [sep]) := by
  intro n R l c m hR L
  have : ∃ n', n' ≤ n + 1 ∧ Lf n' s (p ++ [sep] ++ R) l c m := by
    simp only [List.mem_cons, List.not_mem_nil, or_false] at hp
    rcases hp with rfl | rfl | rfl | rfl | rfl | rfl | rfl | rfl | rfl
    · exact ⟨n + 1, Nat.le_refl _, tok_step (wr := [105, 102]) (g := []) hs (.inl rfl) (fun d hd => .word (by decide) (by decide) (ws_sep hd)) hR L⟩
    · exact ⟨n + 1, Nat.le_refl _, tok_step (wr := [40]) (g := [32]) hs (.inr rfl) (fun d hd => .sign (.single (by decide) (by rcases hd with rfl | rfl <;> decide)) (fun c e => by injection e with e; subst e; exact ⟨(fun e => by cases e), (fun e => by cases e)⟩)) hR L⟩
    · exact ⟨n, by omega, lf_gap (g := [10] ++ [sep]) (fun Y kk => by rw [List.append_assoc]; exact one_gap (.inr rfl) (by simp) Y (one_gap hs hR Y kk)) (by rw [← List.append_assoc]; exact L)⟩
    · exact ⟨n + 1, Nat.le_refl _, tok_step (wr := [120]) (g := [32]) hs (.inr rfl) (fun d hd => .word (by decide) (by decide) (ws_sep hd)) hR L⟩
    · exact ⟨n + 1, Nat.le_refl _, tok_step (wr := [34, 97, 92, 110, 34]) (g := [32]) hs (.inr rfl) (fun d hd => .text (t := [97, 10])) hR L⟩
    · exact ⟨n, by omega, lf_gap (g := [47, 47, 32, 110, 111, 10] ++ [sep]) (fun Y kk => .com (c := [32, 110, 111]) (by decide) (.nl (by simp) (one_gap hs hR Y kk))) (by rw [← List.append_assoc]; exact L)⟩
    · exact ⟨n + 1, Nat.le_refl _, tok_step (wr := [49, 50]) (g := [32]) hs (.inr rfl) (fun d hd => .number (n := 12) (by decide) (ws_sep hd)) hR L⟩
    · exact ⟨n + 1, Nat.le_refl _, tok_step (wr := [60, 47, 112]) (g := []) hs (.inl rfl) (fun d hd => .closing (by decide) (by decide) (ws_sep hd)) hR L⟩
    · exact ⟨n + 1, Nat.le_refl _, tok_step (wr := [59]) (g := []) hs (.inl rfl) (fun d hd => .sign (.single (by decide) (by rcases hd with rfl | rfl <;> decide)) (fun c e => by injection e with e; subst e; exact ⟨(fun e => by cases e), (fun e => by cases e)⟩)) hR L⟩
  obtain ⟨n1, h1, L1⟩ := this
  obtain ⟨n2, h2, L2⟩ := I n1 _ l c m (by simp; omega) L1
  refine ⟨n2, by omega, ?_⟩
  rw [show s ++ p ++ [sep] ++ R = s ++ (p ++ [sep] ++ R) by simp]
  exact L2
def spHead : Sp := fun vs H Q _ => ∃ (a : Addr), vs = [.ref a] ∧ StA H a ∧ ∀ s H', HI 7 s → s.length ≤ 100 → StA H' a → Kp a H H' → Q (.str (TX s)) H'
section
variable {P : Program} {w : World} {K : PySem.W.Frag} {mg : Str → Option Value} {base : Heap} {C : Addr}
theorem kept {a t : Addr} {o : HO} {H0 H' : Hp} (ht : H0 t = none) (S : StA H0 a) (k : Kp a (upd H0 t o) H') : H' t = some o := by
  obtain ⟨z, e, _⟩ := S
  exact k t _ upd_same (ne_of_none e ht).symm
theorem sc__law_head : FnScope ["state", "source", "k"] ["state"] (defScope s__law_head) := ⟨rfl, rfl, rfl, by decide +kernel, rfl, by decide +kernel, by decide +kernel⟩
theorem ok_head (T : Txt K w mg C) (TD : TxtD K mg) : Cal P w K mg base 2 "_law_head" spHead := by
  have G_law_digit : Cal P w K mg base 1 "_law_digit" spDigit := ok_digit T TD
  refine cal_of TD.d__law_head sc__law_head (fun vs H Q E h => ?_) (fun f cdv A outer s H vs Q E hr h => ?_)
  · obtain ⟨a, rfl, _⟩ := h
    rfl
  · obtain ⟨a, rfl, S, k⟩ := h
    refine ⟨_, (pss_cons (ps_set (i := 1) sc__law_head.nd rfl (Or.inl rfl) pe_str) (pss_cons (ps_for PassesOwn.never rfl (pi_range1 (by rfl) T.z_range (pa_cons (pe_c G_law_digit hr (by decide) (by rfl) (pa_cons (pv 0) (pa_cons pe_int pa_nil))) pa_nil)) (pg_name (i := 2) sc__law_head.nd rfl (Or.inl rfl)) (pss_cons (ps_set (i := 1) sc__law_head.nd rfl (Or.inl rfl) (pe_op op_add_str (pv 1) (pe_ix ix_tup (pe_tup (pa_cons pe_str (pa_cons pe_str (pa_cons pe_str (pa_cons pe_str (pa_cons pe_str (pa_cons pe_str (pa_cons pe_str (pa_cons pe_str (pa_cons pe_str pa_nil)))))))))) (pe_c G_law_digit hr (by decide) (by rfl) (pa_cons (pv 0) (pa_cons pe_int pa_nil))) (fun _ _ => rfl)))) (pss_one (ps_set (i := 1) sc__law_head.nd rfl (Or.inl rfl) (pe_op op_add_str (pv 1) (pe_ix ix_tup (pe_tup (pa_cons pe_str (pa_cons pe_str pa_nil))) (pe_c G_law_digit hr (by decide) (by rfl) (pa_cons (pv 0) (pa_cons pe_int pa_nil))) (fun _ _ => rfl))))))) (pss_one (ps_ret (pv 1))))), ?_⟩
    refine ⟨_, rfl, a, 8, rfl, S, by decide, fun r H1 S1 k1 h0 h1 => ?_⟩
    refine ⟨r, rfl, by omega, by omega, ?_⟩
    refine for_range (lo := 0) (n := r.toNat) (fun i σ H' => ∃ (s : List Nat) (kk : Option V), σ = [some (.ref a), some (.str (TX s)), kk] ∧ HI i s ∧ s.length ≤ 7 * i ∧ StA H' a ∧ Kp a H H') ⟨[], none, rfl, hi_nil, Nat.le_refl _, S1, k1⟩ ?_ ?_
    · rintro i σ H2 hi ⟨s, kk, rfl, I, hs, S2, k2⟩
      have big : ∀ {n : Nat}, n ≤ 5000 → n ≤ sizeLine := fun h => Nat.le_trans h (by decide)
      refine ⟨_, rfl, (by show 9 ≤ sizeLine; decide), fun t ht => ?_⟩
      refine ⟨_, rfl, a, 9, rfl, S2.new ht, by decide, fun r2 H3 S3 k3 g0 g1 => ?_⟩
      have ht2 : H3 t = some (.tup (piecesL.map fun l => V.str (TX l))) := kept ht S2 k3
      have hr : r2.toNat < piecesL.length := by show r2.toNat < 9; omega
      refine ⟨t, _, r2, _, rfl, rfl, SqT.of ht2, atI_map g0 hr, ?_⟩
      have hm := List.getElem_mem hr
      generalize piecesL[r2.toNat] = pc at hm
      have hp6 : pc.length ≤ 6 := (by decide : ∀ x ∈ piecesL, x.length ≤ 6) _ hm
      refine ⟨_, _, rfl, rfl, (by rw [TX_len, TX_len]; exact big (by omega)), ?_⟩
      refine ⟨_, rfl, (by show 2 ≤ sizeLine; decide), fun t2 ht2 => ?_⟩
      refine ⟨_, rfl, a, 2, rfl, S3.new ht2, by decide, fun r3 H4 S4 k4 g2 g3 => ?_⟩
      have ht3 : H4 t2 = some (.tup ([[32], [10]].map fun l => V.str (TX l))) := kept ht2 S3 k4
      have hr3 : r3.toNat < ([[32], [10]] : List (List Nat)).length := by show r3.toNat < 2; omega
      refine ⟨t2, _, r3, _, rfl, rfl, SqT.of ht3, atI_map g2 hr3, ?_⟩
      have hm3 := List.getElem_mem hr3
      generalize ([[32], [10]] : List (List Nat))[r3.toNat] = sp at hm3
      obtain ⟨sep, rfl, hsep⟩ : ∃ sep, sp = [sep] ∧ (sep = 32 ∨ sep = 10) := by
        simp only [List.mem_cons, List.not_mem_nil, or_false] at hm3
        rcases hm3 with rfl | rfl
        · exact ⟨32, rfl, .inl rfl⟩
        · exact ⟨10, rfl, .inr rfl⟩
      rw [TX_cat]
      refine ⟨_, _, rfl, rfl, (by rw [TX_len, TX_len, List.length_append]; exact big (by show _ + _ + 1 ≤ 5000; omega)), ?_⟩
      rw [TX_cat]
      refine ⟨s ++ pc ++ [sep], _, rfl, hi_step I hm hsep, ?_, S4, ?_⟩
      · rw [List.length_append, List.length_append]
        show _ + _ + 1 ≤ _
        omega
      · exact (((k2.trans (Kp.new ht)).trans k3).trans (Kp.new ht2)).trans k4
    · rintro σ H2 ⟨s, kk, rfl, I, hs, S2, k2⟩
      exact ⟨_, rfl, k s H2 (I.mono (by omega)) (by omega) S2 k2⟩
end
end VL

set_option Elab.async false
set_option linter.all false
set_option maxRecDepth 100000
set_option maxHeartbeats 4000000
namespace VL
open PySem PySem.Spec PyProof.Rows L2

abbrev strangeL : List Nat := [36, 35, 64, 39, 96, 126, 94, 92, 38, 124]
abbrev headsT : List (List Nat) := [[], [97], [97, 98, 32, 99], [92], [34, 120]]
abbrev numsL : List (List Nat) := [[48], [55], [49, 50], (List.replicate (20 : Int).toNat [49, 48]).flatten]
/-- a bad piece, where it is bad, what is told -/
def Bd (b : List Nat) (j : Nat) (m : Str) : Prop := b.length ≤ 200 ∧ (∀ R : List Nat, 1 ≤ R.length → ∃ so, BadX so (b ++ R) j m) ∧
  (m = "text not closed" → j = 0 ∧ ∃ (b' : List Nat) (x y : Nat), b = b' ++ [x, y] ∧ ∃ so, BadX so (b' ++ [10]) 0 m)
def spBad : Sp := fun vs H Q _ => ∃ (a : Addr), vs = [.ref a] ∧ StA H a ∧ ∀ T b j m H', Bd b j m → StA H' a → Kp a H H' → H' T = some (.tup [.str (TX b), .int ((j : Nat) : Int), .str m]) → Q (.ref T) H'
theorem at_lit {L : List Nat} {r : Int} (h0 : 0 ≤ r) (h1 : r.toNat < L.length) : atI (TX L).cps.toList r = some L[r.toNat] := by
  rw [TX_tl]
  unfold atI ixN
  rw [if_pos h0, if_pos (by omega)]
  show L[r.toNat]? = _
  exact List.getElem?_eq_getElem h1
theorem bd_strange {c d : Nat} (hc : c ∈ strangeL) (hd : d = 32 ∨ d = 120) : Bd [c, d] 0 "unexpected character" := by
  refine ⟨by show 2 ≤ 200; decide, fun R _ => ⟨"sign", .sgn (d := d) (r := R) ?_ ?_ ?_ ?_ ?_ ?_ ?_⟩, fun e => by cases (by decide +kernel : ¬ ((Str.ofString "unexpected character") = Str.ofString "text not closed")) e⟩
  · exact (by decide : ∀ c ∈ strangeL, c ∉ singlesL) c hc
  · rcases hd with rfl | rfl
    · exact (by decide : ∀ c ∈ strangeL, [c, 32] ∉ pairsL) c hc
    · exact (by decide : ∀ c ∈ strangeL, [c, 120] ∉ pairsL) c hc
  · exact (by decide : ∀ c ∈ strangeL, isLet c = false) c hc
  · exact (by decide : ∀ c ∈ strangeL, isDig c = false) c hc
  · exact (by decide : ∀ c ∈ strangeL, c ≠ 34) c hc
  · exact (by decide : ∀ c ∈ strangeL, c ≠ 10) c hc
  · exact (by decide : ∀ c ∈ strangeL, c ≠ 32) c hc
theorem ne_msg1 : ¬ ((Str.ofString "unexpected character") = Str.ofString "text not closed") := by decide +kernel
theorem ne_msg2 : ¬ ((Str.ofString "number too large") = Str.ofString "text not closed") := by decide +kernel
theorem ne_msg3 : ¬ ((Str.ofString "unknown escape") = Str.ofString "text not closed") := by decide +kernel
theorem bd_more {m : List Nat} {c : Nat} (hl : m.length ≤ 100) (hm : m ≠ []) (hd : ∀ x ∈ m, isDig x = true) (h0 : m = [48] ∨ (m.head? ≠ some 48 ∧ isDig c = false)) (hc : isWs c = true) : Bd (m ++ [c]) m.length "unexpected character" :=
  ⟨by rw [List.length_append]; show _ + 1 ≤ 200; omega, fun R _ => ⟨"number", .num (by rw [List.append_assoc]; exact .more (r := R) hm hd h0 hc)⟩, fun e => absurd e ne_msg1⟩
theorem bd_large {m : List Nat} (hl' : m.length ≤ 150) (hm : m ≠ []) (hd : ∀ x ∈ m, isDig x = true) (h0 : m.head? ≠ some 48) (hl : 31 < m.length ∨ ∃ n, m = TL.numL n ∧ 10 ^ 30 < n) : Bd (m ++ [32]) 0 "number too large" :=
  ⟨by rw [List.length_append]; show _ + 1 ≤ 200; omega, fun R _ => ⟨"number", .num (by rw [List.append_assoc]; exact .large (c := 32) (r := R) hm hd h0 (by decide) hl)⟩, fun e => absurd e ne_msg2⟩
theorem bd_open {t : List Nat} (ht : t.length ≤ 4) : Bd (34 :: (escL t ++ [10, 34])) 0 "text not closed" := by
  have l := escL_len2 t
  refine ⟨by simp; omega, fun R _ => ⟨"text", .txt ?_⟩, fun _ => ⟨rfl, 34 :: escL t, 10, 34, by simp, "text", .txt ?_⟩⟩
  · have := BadT.opn (us := t.map esc1) (r := 34 :: R) (esc_pc t)
    rw [esc_flat] at this
    simpa using this
  · have := BadT.opn (us := t.map esc1) (r := []) (esc_pc t)
    rw [esc_flat] at this
    simpa using this
theorem bd_open2 {t : List Nat} (ht : t.length ≤ 4) : Bd (34 :: (escL t ++ [92, 10, 34])) 0 "text not closed" := by
  have l := escL_len2 t
  refine ⟨by simp; omega, fun R _ => ⟨"text", .txt ?_⟩, fun _ => ⟨rfl, 34 :: (escL t ++ [92]), 10, 34, by simp, "text", .txt ?_⟩⟩
  · have := BadT.opn2 (us := t.map esc1) (r := 34 :: R) (esc_pc t)
    rw [esc_flat] at this
    simpa using this
  · have := BadT.opn2 (us := t.map esc1) (r := []) (esc_pc t)
    rw [esc_flat] at this
    simpa using this
theorem bd_open3 {t : List Nat} {x : Nat} (ht : t.length ≤ 4) (hx : x ∈ noEsc) : Bd (34 :: (escL t ++ [92, x, 32, 10, 34])) 0 "text not closed" := by
  have l := escL_len2 t
  have hus : ∀ u ∈ t.map esc1 ++ [[92, x], [32]], Pc u := fun u hu => by
    rcases List.mem_append.mp hu with hu | hu
    · exact esc_pc t u hu
    · simp only [List.mem_cons, List.not_mem_nil, or_false] at hu
      rcases hu with rfl | rfl
      · exact .inr ⟨x, rfl, (by decide : ∀ x ∈ noEsc, x ≠ 10) x hx⟩
      · exact .inl ⟨32, rfl, by decide, by decide, by decide⟩
  have hfl : (t.map esc1 ++ [[92, x], [32]]).flatten = escL t ++ [92, x, 32] := by
    rw [List.flatten_append, esc_flat]
    simp
  refine ⟨by simp; omega, fun R _ => ⟨"text", .txt ?_⟩, fun _ => ⟨rfl, 34 :: (escL t ++ [92, x, 32]), 10, 34, by simp, "text", .txt ?_⟩⟩
  · have := BadT.opn (us := t.map esc1 ++ [[92, x], [32]]) (r := 34 :: R) hus
    rw [hfl] at this
    simpa using this
  · have := BadT.opn (us := t.map esc1 ++ [[92, x], [32]]) (r := []) hus
    rw [hfl] at this
    simpa using this
theorem bd_esc {t : List Nat} {x : Nat} (ht : t.length ≤ 4) (hx : x ∈ noEsc) : Bd (34 :: (escL t ++ [92, x, 34])) (1 + (escL t).length) "unknown escape" := by
  have l := escL_len2 t
  refine ⟨by simp; omega, fun R _ => ⟨"text", .txt ?_⟩, fun e => absurd e ne_msg3⟩
  have := BadT.esc (t := t) (r := R) hx
  simpa using this
end VL

set_option Elab.async false
set_option linter.all false
set_option maxRecDepth 100000
set_option maxHeartbeats 4000000
namespace VL
open PySem PySem.Spec PyProof.Rows L2

theorem log32 {n : Nat} (h : n ≤ 10 ^ 31) : (n : Int).natAbs.log2 < 1920 := by
  rw [Int.natAbs_natCast]
  by_cases e : n = 0
  · rw [e]
    decide
  · exact Nat.lt_of_lt_of_le ((Nat.log2_lt e).mpr (Nat.lt_of_le_of_lt h (by decide : 10 ^ 31 < 2 ^ 104))) (by decide)
theorem big_num {ρ : Nat} (h : ρ < 1000) : (TL.numL (10 ^ 30 + 1 + ρ)).length ≤ 31 ∧ TL.numL (10 ^ 30 + 1 + ρ) ≠ [] ∧ (TL.numL (10 ^ 30 + 1 + ρ)).head? ≠ some 48 := by
  refine ⟨TL.numL_len (by decide) ?_, TL.numL_ne _, ?_⟩
  · have : (10 : Nat) ^ 30 + 1000 ≤ 10 ^ 31 := by decide
    omega
  · cases e : TL.numL (10 ^ 30 + 1 + ρ) with
    | nil => exact absurd e (TL.numL_ne _)
    | cons c r =>
      intro q
      injection q with q
      have := num_head e q
      omega
theorem numL_ge : ∀ (k n : Nat), 10 ^ k ≤ n → k + 1 ≤ (TL.numL n).length
  | 0, n, _ => List.length_pos_iff.mpr (TL.numL_ne n)
  | k + 1, n, h => by
    have h10 : 10 ≤ n := Nat.le_trans (by rw [Nat.pow_succ]; exact Nat.le_mul_of_pos_left 10 (Nat.pow_pos (by decide))) h
    rw [TL.numL_step h10, List.length_append]
    have : 10 ^ k ≤ n / 10 := (Nat.le_div_iff_mul_le (by decide)).mpr (by rw [← Nat.pow_succ]; exact h)
    have := numL_ge k (n / 10) this
    show k + 1 + 1 ≤ _ + 1
    omega
section
variable {P : Program} {w : World} {K : PySem.W.Frag} {mg : Str → Option Value} {base : Heap} {C : Addr}
theorem sc__law_bad : FnScope ["state", "kind", "number", "more", "head"] ["state"] (defScope s__law_bad) := ⟨rfl, rfl, rfl, by decide +kernel, rfl, by decide +kernel, by decide +kernel⟩
theorem ok_bad (T : Txt K w mg C) (TD : TxtD K mg) : Cal P w K mg base 2 "_law_bad" spBad := by
  have G_law_digit : Cal P w K mg base 1 "_law_digit" spDigit := ok_digit T TD
  refine cal_of TD.d__law_bad sc__law_bad (fun vs H Q E h => ?_) (fun f cdv A outer s H vs Q E hr h => ?_)
  · obtain ⟨a, rfl, _⟩ := h
    rfl
  · obtain ⟨a, rfl, S, k⟩ := h
    have big : ∀ {n : Nat}, n ≤ 5000 → n ≤ sizeLine := fun h => Nat.le_trans h (by decide)
    refine ⟨_, (pss_cons (ps_set (i := 1) sc__law_bad.nd rfl (Or.inl rfl) (pe_c G_law_digit hr (by decide) (by rfl) (pa_cons (pv 0) (pa_cons pe_int pa_nil)))) (pss_cons (ps_if (pt_cmpR op_eq (pv 1) pe_int (nomark _)) (pss_one (ps_ret (pe_tup (pa_cons (pe_op op_add_str (pe_ix ix_str pe_str (pe_c G_law_digit hr (by decide) (by rfl) (pa_cons (pv 0) (pa_cons pe_int pa_nil))) (fun _ _ => rfl)) (pe_ix ix_tup (pe_tup (pa_cons pe_str (pa_cons pe_str pa_nil))) (pe_c G_law_digit hr (by decide) (by rfl) (pa_cons (pv 0) (pa_cons pe_int pa_nil))) (fun _ _ => rfl))) (pa_cons pe_int (pa_cons pe_str pa_nil)))))) pss_nil) (pss_cons (ps_if (pt_cmpR op_eq (pv 1) pe_int (nomark _)) (pss_cons (ps_set (i := 2) sc__law_bad.nd rfl (Or.inl rfl) (pe_ix ix_tup (pe_tup (pa_cons pe_str (pa_cons pe_str (pa_cons pe_str (pa_cons (pe_op op_mul_str pe_str pe_int) pa_nil))))) (pe_c G_law_digit hr (by decide) (by rfl) (pa_cons (pv 0) (pa_cons pe_int pa_nil))) (fun _ _ => rfl))) (pss_cons (ps_set (i := 3) sc__law_bad.nd rfl (Or.inl rfl) (pe_ix ix_str pe_str (pe_c G_law_digit hr (by decide) (by rfl) (pa_cons (pv 0) (pa_cons pe_int pa_nil))) (fun _ _ => rfl))) (C8.pss_cut (ps_if ((pw_and (pt_cmpR op_eq (pv 2) pe_str (nomark _)) (pw_and1 (pt_cmpR op_eq (pe_c G_law_digit hr (by decide) (by rfl) (pa_cons (pv 0) (pa_cons pe_int pa_nil))) pe_int (nomark _))))).pt (pss_one (ps_set (i := 3) sc__law_bad.nd rfl (Or.inl rfl) pe_str)) pss_nil) (pss_one (ps_ret (pe_tup (pa_cons (pe_op op_add_str (pv 2) (pv 3)) (pa_cons (pe_callB call_len_str (by rfl) T.z_len PySem.boot_len (pa_cons (pv 2) pa_nil)) (pa_cons pe_str pa_nil))))))))) pss_nil) (pss_cons (ps_if (pt_cmpR op_eq (pv 1) pe_int (nomark _)) (pss_one (ps_ret (pe_tup (pa_cons (pe_op op_add_str (pe_op op_add_str (pe_callTy call_str_int (by rfl) T.z_str (by decide +kernel) (pa_cons (pe_op op_add (pe_op op_add (pe_op op_pow pe_int pe_int) pe_int) (pe_c G_law_digit hr (by decide) (by rfl) (pa_cons (pv 0) (pa_cons pe_int pa_nil)))) pa_nil)) (pe_op op_mul_str pe_str (pe_c G_law_digit hr (by decide) (by rfl) (pa_cons (pv 0) (pa_cons pe_int pa_nil))))) pe_str) (pa_cons pe_int (pa_cons pe_str pa_nil)))))) pss_nil) (pss_cons (ps_set (i := 4) sc__law_bad.nd rfl (Or.inl rfl) (pe_op op_add_str pe_str (pe_ix ix_tup (pe_tup (pa_cons pe_str (pa_cons pe_str (pa_cons pe_str (pa_cons pe_str (pa_cons pe_str pa_nil)))))) (pe_c G_law_digit hr (by decide) (by rfl) (pa_cons (pv 0) (pa_cons pe_int pa_nil))) (fun _ _ => rfl)))) (pss_cons (ps_if (pt_cmpR op_eq (pv 1) pe_int (nomark _)) (pss_one (ps_ret (pe_tup (pa_cons (pe_op op_add_str (pv 4) pe_str) (pa_cons pe_int (pa_cons pe_str pa_nil)))))) pss_nil) (pss_cons (ps_if (pt_cmpR op_eq (pv 1) pe_int (nomark _)) (pss_one (ps_ret (pe_tup (pa_cons (pe_op op_add_str (pv 4) pe_str) (pa_cons pe_int (pa_cons pe_str pa_nil)))))) pss_nil) (pss_cons (ps_if (pt_cmpR op_eq (pv 1) pe_int (nomark _)) (pss_one (ps_ret (pe_tup (pa_cons (pe_op op_add_str (pe_op op_add_str (pe_op op_add_str (pv 4) pe_str) (pe_ix ix_str pe_str (pe_c G_law_digit hr (by decide) (by rfl) (pa_cons (pv 0) (pa_cons pe_int pa_nil))) (fun _ _ => rfl))) pe_str) (pa_cons pe_int (pa_cons pe_str pa_nil)))))) pss_nil) (pss_cons (ps_if (pt_cmpR op_eq (pv 1) pe_int (nomark _)) (pss_cons (ps_set (i := 2) sc__law_bad.nd rfl (Or.inl rfl) (pe_callTy call_str_int (by rfl) T.z_str (by decide +kernel) (pa_cons (pe_op op_add (pe_op op_add (pe_op op_pow pe_int pe_int) pe_int) (pe_c G_law_digit hr (by decide) (by rfl) (pa_cons (pv 0) (pa_cons pe_int pa_nil)))) pa_nil))) (pss_one (ps_ret (pe_tup (pa_cons (pe_op op_add_str (pv 2) pe_str) (pa_cons (pe_callB call_len_str (by rfl) T.z_len PySem.boot_len (pa_cons (pv 2) pa_nil)) (pa_cons pe_str pa_nil))))))) pss_nil) (pss_one (ps_ret (pe_tup (pa_cons (pe_op op_add_str (pe_op op_add_str (pe_op op_add_str (pv 4) pe_str) (pe_ix ix_str pe_str (pe_c G_law_digit hr (by decide) (by rfl) (pa_cons (pv 0) (pa_cons pe_int pa_nil))) (fun _ _ => rfl))) pe_str) (pa_cons (pe_callB call_len_str (by rfl) T.z_len PySem.boot_len (pa_cons (pv 4) pa_nil)) (pa_cons pe_str pa_nil))))))))))))))), ?_⟩
    refine ⟨_, rfl, a, 8, rfl, S, by decide, fun r H1 S1 k1 h0 h1 => ?_⟩
    refine ⟨_, rfl, rfl, _, rfl, ?_⟩
    refine ite2 (fun _ => ?_) (fun _ => ?_)
    · -- a strange sign
      refine ⟨_, rfl, a, 10, rfl, S1, by decide, fun r2 H2 S2 k2 g0 g1 => ?_⟩
      have hr : r2.toNat < strangeL.length := by show r2.toNat < 10; omega
      refine ⟨TX strangeL, r2, _, rfl, rfl, (by show 10 ≤ sizeLine; decide), at_lit g0 hr, ?_⟩
      have hm := List.getElem_mem hr
      generalize strangeL[r2.toNat] = c at hm
      refine ⟨by show 2 ≤ sizeLine; decide, fun t ht => ?_⟩
      refine ⟨_, rfl, a, 2, rfl, S2.new ht, by decide, fun r3 H3 S3 k3 g2 g3 => ?_⟩
      have ht3 : H3 t = some (.tup ([[32], [120]].map fun l => V.str (TX l))) := kept ht S2 k3
      have hr3 : r3.toNat < ([[32], [120]] : List (List Nat)).length := by show r3.toNat < 2; omega
      refine ⟨t, _, r3, _, rfl, rfl, SqT.of ht3, atI_map g2 hr3, ?_⟩
      have hm3 := List.getElem_mem hr3
      generalize ([[32], [120]] : List (List Nat))[r3.toNat] = sp at hm3
      obtain ⟨d, rfl, hd⟩ : ∃ d, sp = [d] ∧ (d = 32 ∨ d = 120) := by
        simp only [List.mem_cons, List.not_mem_nil, or_false] at hm3
        rcases hm3 with rfl | rfl
        · exact ⟨32, rfl, .inl rfl⟩
        · exact ⟨120, rfl, .inr rfl⟩
      refine ⟨_, _, rfl, rfl, (by show 1 + 1 ≤ sizeLine; decide), (by show 3 ≤ sizeLine; decide), fun T' hT => ?_⟩
      refine k T' [c, d] 0 _ _ (bd_strange hm hd) (S3.new hT) ((((k1.trans k2).trans (Kp.new ht)).trans k3).trans (Kp.new hT)) ?_
      rw [upd_same]
      have e9 : TX [c] ++ TX [d] = TX [c, d] := TX_cat _ _
      rw [← e9]
      rfl
    refine ⟨_, rfl, rfl, _, rfl, ?_⟩
    refine ite2 (fun _ => ?_) (fun _ => ?_)
    · -- a number with a word behind it
      refine ⟨[49, 48], 20, rfl, rfl, by decide, by decide, by decide, ?_⟩
      refine ⟨by show 4 ≤ sizeLine; decide, fun t ht => ?_⟩
      refine ⟨_, rfl, a, 4, rfl, S1.new ht, by decide, fun r2 H2 S2 k2 g0 g1 => ?_⟩
      have ht2 : H2 t = some (.tup (numsL.map fun l => V.str (TX l))) := kept ht S1 k2
      have hr : r2.toNat < numsL.length := by show r2.toNat < 4; omega
      refine ⟨t, _, r2, _, rfl, rfl, SqT.of ht2, atI_map g0 hr, ?_⟩
      have hm := List.getElem_mem hr
      generalize numsL[r2.toNat] = nm at hm
      refine ⟨_, rfl, a, 3, rfl, S2, by decide, fun r3 H3 S3 k3 g2 g3 => ?_⟩
      have hr3 : r3.toNat < ([97, 95, 90] : List Nat).length := by show r3.toNat < 3; omega
      refine ⟨TX [97, 95, 90], r3, _, rfl, rfl, (by show 3 ≤ sizeLine; decide), at_lit g2 hr3, ?_⟩
      have hm3 := List.getElem_mem hr3
      generalize ([97, 95, 90] : List Nat)[r3.toNat] = c at hm3
      refine ⟨fun σ H' => ∃ c, (c ∈ [97, 95, 90] ∨ (nm = [48] ∧ c = 48)) ∧ σ = [some (.ref a), some (.int r), some (.str (TX nm)), some (.str (TX [c])), none] ∧ StA H' a ∧ Kp a H H', ?_, ?_⟩
      · have kk3 := ((k1.trans (Kp.new ht)).trans k2).trans k3
        refine ⟨_, rfl, rfl, _, rfl, ?_⟩
        refine ite_b (fun q => ?_) (fun _ => ?_)
        · have q2 : decide (V.str (TX nm) = V.str (TX [48])) = true := q
          rw [vstr_TX] at q2
          have q3 := of_decide_eq_true q2
          refine ⟨_, rfl, a, 2, rfl, S3, by decide, fun r4 H4 S4 k4 _ _ => ?_⟩
          refine ⟨rfl, _, rfl, ?_⟩
          refine ite2 (fun _ => ?_) (fun _ => ?_)
          · exact ⟨48, .inr ⟨q3, rfl⟩, rfl, S4, kk3.trans k4⟩
          · exact ⟨c, .inl hm3, rfl, S4, kk3.trans k4⟩
        · refine ite_b (b := false) (fun z => by cases z) (fun _ => ?_)
          exact ⟨c, .inl hm3, rfl, S3, kk3⟩
      · rintro σ H4 ⟨c, hc, rfl, S4, k4⟩
        have hl : nm.length ≤ 100 := (by decide : ∀ x ∈ numsL, x.length ≤ 100) _ hm
        refine ⟨_, rfl, _, rfl, _, _, rfl, rfl, (by rw [TX_len, TX_len]; exact big (by show _ + 1 ≤ 5000; omega)), ?_⟩
        refine ⟨_, rfl, _, rfl, (by rw [TX_len]; exact big (by omega)), (by show 3 ≤ sizeLine; decide), fun T' hT => ?_⟩
        have hd : ∀ x ∈ nm, isDig x = true := (by decide : ∀ m ∈ numsL, ∀ x ∈ m, isDig x = true) _ hm
        have hb : Bd (nm ++ [c]) nm.length "unexpected character" := by
          refine bd_more hl ((by decide : ∀ m ∈ numsL, m ≠ []) _ hm) hd ?_ ?_
          · rcases hc with hc | ⟨hc, _⟩
            · rcases (by decide : ∀ m ∈ numsL, m = [48] ∨ m.head? ≠ some 48) _ hm with h | h
              · exact .inl h
              · exact .inr ⟨h, (by decide : ∀ c ∈ [97, 95, 90], isDig c = false) _ hc⟩
            · exact .inl hc
          · rcases hc with hc | ⟨_, rfl⟩
            · exact (by decide : ∀ c ∈ [97, 95, 90], isWs c = true) _ hc
            · decide
        refine k T' (nm ++ [c]) nm.length _ _ hb (S4.new hT) (k4.trans (Kp.new hT)) ?_
        rw [upd_same, TX_cat, TX_len]
    refine ⟨_, rfl, rfl, _, rfl, ?_⟩
    refine ite2 (fun _ => ?_) (fun _ => ?_)
    · -- a great number
      refine ⟨_, _, rfl, rfl, ⟨by decide, by decide, by decide⟩, _, _, rfl, rfl, ?_⟩
      refine ⟨_, rfl, a, 1000, rfl, S1, by decide, fun r2 H2 S2 k2 g0 g1 => ?_⟩
      obtain ⟨ρ, rfl⟩ := Int.eq_ofNat_of_zero_le g0
      have hρ : ρ < 1000 := by omega
      have hle : 10 ^ 30 + 1 + ρ ≤ 10 ^ 31 := by
        have : (10 : Nat) ^ 30 + 1001 ≤ 10 ^ 31 := by decide
        omega
      have ei : (10 ^ (30 : Int).toNat + 1 + Int.ofNat ρ : Int) = ((10 ^ 30 + 1 + ρ : Nat) : Int) := by
        show ((10 : Int) ^ 30 + 1 + (ρ : Int)) = _
        omega
      refine ⟨_, _, rfl, rfl, _, rfl, (by show (10 ^ (30 : Int).toNat + 1 + Int.ofNat ρ : Int).natAbs.log2 < 1920; rw [ei]; exact log32 hle), ?_⟩
      have en : Str.ofString (toString (10 ^ (30 : Int).toNat + 1 + Int.ofNat ρ : Int)) = TX (TL.numL (10 ^ 30 + 1 + ρ)) := by
        rw [ei]
        exact SX.num_S _
      obtain ⟨n1, n2, n3⟩ := big_num hρ
      refine ⟨_, rfl, a, 40, rfl, S2, by decide, fun r3 H3 S3 k3 g2 g3 => ?_⟩
      refine ⟨[48], r3, rfl, rfl, g2, by omega, by decide, ?_⟩
      have ez : (List.replicate r3.toNat [48]).flatten = List.replicate r3.toNat 48 := by
        generalize r3.toNat = q
        induction q with
        | zero => rfl
        | succ q ih => rw [List.replicate_succ, List.replicate_succ, List.flatten_cons, ih]; rfl
      rw [ez]
      have hz40 : (List.replicate r3.toNat 48).length ≤ 40 := by rw [List.length_replicate]; omega
      refine ⟨_, _, rfl, rfl, (by show (Str.ofString (toString (10 ^ (30 : Int).toNat + 1 + Int.ofNat ρ : Int))).length + _ ≤ _; rw [en, TX_len, TX_len]; exact big (by omega)), ?_⟩
      have e9 : Str.ofString (toString (10 ^ (30 : Int).toNat + 1 + Int.ofNat ρ : Int)) ++ TX (List.replicate r3.toNat 48) = TX (TL.numL (10 ^ 30 + 1 + ρ) ++ List.replicate r3.toNat 48) := by rw [en, TX_cat]
      refine ⟨_, _, rfl, rfl, (by show (Str.ofString (toString (10 ^ (30 : Int).toNat + 1 + Int.ofNat ρ : Int)) ++ TX (List.replicate r3.toNat 48)).length + 1 ≤ _; rw [e9, TX_len, List.length_append]; exact big (by omega)), ?_⟩
      refine ⟨by show 3 ≤ sizeLine; decide, fun T' hT => ?_⟩
      have hb : Bd (TL.numL (10 ^ 30 + 1 + ρ) ++ List.replicate r3.toNat 48 ++ [32]) 0 "number too large" := by
        refine bd_large (by rw [List.length_append]; omega) (by simp [n2]) (fun x hx => ?_) ?_ ?_
        · rcases List.mem_append.mp hx with hx | hx
          · exact digits_ws x hx
          · rw [List.eq_of_mem_replicate hx]
            decide
        · cases e : TL.numL (10 ^ 30 + 1 + ρ) with
          | nil => exact absurd e n2
          | cons c q =>
            rw [e] at n3
            exact n3
        · by_cases hz : r3.toNat = 0
          · right
            refine ⟨10 ^ 30 + 1 + ρ, by rw [hz]; simp, by omega⟩
          · left
            have l31 : 31 ≤ (TL.numL (10 ^ 30 + 1 + ρ)).length := numL_ge 30 _ (by omega)
            rw [List.length_append, List.length_replicate]
            omega
      refine k T' _ 0 _ _ hb (S3.new hT) (((k1.trans k2).trans k3).trans (Kp.new hT)) ?_
      rw [upd_same]
      have e10 : Str.ofString (toString (10 ^ (30 : Int).toNat + 1 + Int.ofNat ρ : Int)) ++ TX (List.replicate r3.toNat 48) ++ TX [32] = TX (TL.numL (10 ^ 30 + 1 + ρ) ++ List.replicate r3.toNat 48 ++ [32]) := by rw [e9, TX_cat]
      rw [← e10]
      rfl
    -- texts
    refine ⟨by show 5 ≤ sizeLine; decide, fun t ht => ?_⟩
    refine ⟨_, rfl, a, 5, rfl, S1.new ht, by decide, fun r2 H2 S2 k2 g0 g1 => ?_⟩
    have ht2 : H2 t = some (.tup ((headsT.map escL).map fun l => V.str (TX l))) := kept ht S1 k2
    have hr : r2.toNat < (headsT.map escL).length := by show r2.toNat < 5; omega
    refine ⟨t, _, r2, _, rfl, rfl, SqT.of ht2, atI_map g0 hr, ?_⟩
    have hm := List.getElem_mem hr
    generalize (headsT.map escL)[r2.toNat] = hd at hm
    obtain ⟨tx, htx, rfl⟩ := List.mem_map.mp hm
    have ht4 : tx.length ≤ 4 := (by decide : ∀ x ∈ headsT, x.length ≤ 4) _ htx
    have el := escL_len2 tx
    refine ⟨_, _, rfl, rfl, (by show 1 + (TX (escL tx)).length ≤ _; rw [TX_len]; exact big (by omega)), ?_⟩
    have eh : (Str.ofString "\"") ++ TX (escL tx) = TX (34 :: escL tx) := TX_cat [34] _
    rw [eh]
    have hk2 := (k1.trans (Kp.new ht)).trans k2
    have lh : (TX (34 :: escL tx)).length ≤ 20 := by
      rw [TX_len]
      show (escL tx).length + 1 ≤ 20
      omega
    refine ⟨_, rfl, rfl, _, rfl, ?_⟩
    refine ite2 (fun _ => ?_) (fun _ => ?_)
    · refine ⟨_, rfl, _, _, rfl, rfl, big (show _ + 2 ≤ 5000 by omega), (by show 3 ≤ sizeLine; decide), fun T' hT => ?_⟩
      refine k T' _ 0 _ _ (bd_open ht4) (S2.new hT) (hk2.trans (Kp.new hT)) ?_
      have e9 : TX (34 :: escL tx) ++ TX [10, 34] = TX (34 :: (escL tx ++ [10, 34])) := TX_cat _ _
      rw [upd_same, ← e9]
      rfl
    refine ⟨_, rfl, rfl, _, rfl, ?_⟩
    refine ite2 (fun _ => ?_) (fun _ => ?_)
    · refine ⟨_, rfl, _, _, rfl, rfl, big (show _ + 3 ≤ 5000 by omega), (by show 3 ≤ sizeLine; decide), fun T' hT => ?_⟩
      refine k T' _ 0 _ _ (bd_open2 ht4) (S2.new hT) (hk2.trans (Kp.new hT)) ?_
      have e9 : TX (34 :: escL tx) ++ TX [92, 10, 34] = TX (34 :: (escL tx ++ [92, 10, 34])) := TX_cat _ _
      rw [upd_same, ← e9]
      rfl
    have esc : ∀ {r3 : Int}, 0 ≤ r3 → r3 < 6 → ∃ x, x ∈ noEsc ∧ atI (TX noEsc).cps.toList r3 = some x := fun {r3} a1 a2 => by
      have h6 : r3.toNat < noEsc.length := by show r3.toNat < 6; omega
      exact ⟨_, List.getElem_mem h6, at_lit a1 h6⟩
    have eb : TX (34 :: escL tx) ++ TX [92] = TX (34 :: (escL tx ++ [92])) := TX_cat _ _
    refine ⟨_, rfl, rfl, _, rfl, ?_⟩
    refine ite2 (fun _ => ?_) (fun _ => ?_)
    · refine ⟨_, rfl, _, _, rfl, rfl, big (show _ + 1 ≤ 5000 by omega), ?_⟩
      refine ⟨_, rfl, a, 6, rfl, S2, by decide, fun r3 H3 S3 k3 g2 g3 => ?_⟩
      obtain ⟨x, hx, ax⟩ := esc g2 g3
      have l2 : (TX (34 :: escL tx) ++ (Str.ofString "\\")).length ≤ 21 := by rw [len_app]; show _ + 1 ≤ 21; omega
      refine ⟨TX noEsc, r3, x, rfl, rfl, (by show 6 ≤ sizeLine; decide), ax, _, _, rfl, rfl, big (show _ + 1 ≤ 5000 by omega), _, _, rfl, rfl, (by rw [len_app]; exact big (show _ + 1 + 3 ≤ 5000 by omega)), (by show 3 ≤ sizeLine; decide), fun T' hT => ?_⟩
      refine k T' _ 0 _ _ (bd_open3 ht4 hx) (S3.new hT) ((hk2.trans k3).trans (Kp.new hT)) ?_
      have e9 : TX (34 :: escL tx) ++ TX [92] ++ TX [x] ++ TX [32, 10, 34] = TX (34 :: (escL tx ++ [92, x, 32, 10, 34])) := by rw [TX_cat, TX_cat, TX_cat]; simp
      rw [upd_same, ← e9]
      rfl
    refine ⟨_, rfl, rfl, _, rfl, ?_⟩
    refine ite2 (fun _ => ?_) (fun _ => ?_)
    · refine ⟨_, _, rfl, rfl, ⟨by decide, by decide, by decide⟩, _, _, rfl, rfl, ?_⟩
      refine ⟨_, rfl, a, 1000, rfl, S2, by decide, fun r3 H3 S3 k3 g2 g3 => ?_⟩
      obtain ⟨ρ, rfl⟩ := Int.eq_ofNat_of_zero_le g2
      have hρ : ρ < 1000 := by omega
      have hle : 10 ^ 30 + 1 + ρ ≤ 10 ^ 31 := by
        have : (10 : Nat) ^ 30 + 1001 ≤ 10 ^ 31 := by decide
        omega
      have ei : (10 ^ (30 : Int).toNat + 1 + Int.ofNat ρ : Int) = ((10 ^ 30 + 1 + ρ : Nat) : Int) := by
        show ((10 : Int) ^ 30 + 1 + (ρ : Int)) = _
        omega
      refine ⟨_, _, rfl, rfl, _, rfl, (by show (10 ^ (30 : Int).toNat + 1 + Int.ofNat ρ : Int).natAbs.log2 < 1920; rw [ei]; exact log32 hle), ?_⟩
      have en : Str.ofString (toString (10 ^ (30 : Int).toNat + 1 + Int.ofNat ρ : Int)) = TX (TL.numL (10 ^ 30 + 1 + ρ)) := by
        rw [ei]
        exact SX.num_S _
      obtain ⟨n1, n2, n3⟩ := big_num hρ
      have ln : (Str.ofString (toString (10 ^ (30 : Int).toNat + 1 + Int.ofNat ρ : Int))).length = (TL.numL (10 ^ 30 + 1 + ρ)).length := by rw [en, TX_len]
      refine ⟨_, rfl, _, _, rfl, rfl, (by show (Str.ofString (toString (10 ^ (30 : Int).toNat + 1 + Int.ofNat ρ : Int))).length + 1 ≤ _; rw [ln]; exact big (by omega)), ?_⟩
      refine ⟨_, rfl, _, rfl, (by show (Str.ofString (toString (10 ^ (30 : Int).toNat + 1 + Int.ofNat ρ : Int))).length ≤ _; rw [ln]; exact big (by omega)), (by show 3 ≤ sizeLine; decide), fun T' hT => ?_⟩
      have hb : Bd (TL.numL (10 ^ 30 + 1 + ρ) ++ [95]) (TL.numL (10 ^ 30 + 1 + ρ)).length "unexpected character" := bd_more (by omega) n2 digits_ws (.inr ⟨n3, by decide⟩) (by decide)
      refine k T' _ _ _ _ hb (S3.new hT) ((hk2.trans k3).trans (Kp.new hT)) ?_
      have e9 : Str.ofString (toString (10 ^ (30 : Int).toNat + 1 + Int.ofNat ρ : Int)) ++ TX [95] = TX (TL.numL (10 ^ 30 + 1 + ρ) ++ [95]) := by rw [en, TX_cat]
      rw [upd_same, ← e9, ← ln]
      rfl
    · refine ⟨_, rfl, _, _, rfl, rfl, big (show _ + 1 ≤ 5000 by omega), ?_⟩
      refine ⟨_, rfl, a, 6, rfl, S2, by decide, fun r3 H3 S3 k3 g2 g3 => ?_⟩
      obtain ⟨x, hx, ax⟩ := esc g2 g3
      have l2 : (TX (34 :: escL tx) ++ (Str.ofString "\\")).length ≤ 21 := by rw [len_app]; show _ + 1 ≤ 21; omega
      refine ⟨TX noEsc, r3, x, rfl, rfl, (by show 6 ≤ sizeLine; decide), ax, _, _, rfl, rfl, big (show _ + 1 ≤ 5000 by omega), _, _, rfl, rfl, (by rw [len_app]; exact big (show _ + 1 + 1 ≤ 5000 by omega)), ?_⟩
      refine ⟨_, rfl, _, rfl, big (by omega), (by show 3 ≤ sizeLine; decide), fun T' hT => ?_⟩
      refine k T' _ _ _ _ (bd_esc ht4 hx) (S3.new hT) ((hk2.trans k3).trans (Kp.new hT)) ?_
      have e9 : TX (34 :: escL tx) ++ TX [92] ++ TX [x] ++ TX [34] = TX (34 :: (escL tx ++ [92, x, 34])) := by rw [TX_cat, TX_cat, TX_cat]; simp
      have e10 : 1 + (escL tx).length = (TX (34 :: escL tx)).length := by rw [TX_len]; show _ = (escL tx).length + 1; omega
      rw [upd_same, ← e9, e10]
      rfl
end
end VL

set_option Elab.async false
set_option linter.all false
set_option maxRecDepth 100000
set_option maxHeartbeats 4000000
namespace VL
open PySem PySem.Spec PyProof.Rows L2

def spLaw (K : PySem.W.Frag) : Sp := fun vs H Q _ => ∃ (a : Addr) (ns : List Int), vs = [.ref a] ∧ SqL K H a (ns.map V.int) ∧ ns.length ≤ 63 ∧ ∀ H', Q (.bl true) H'
theorem ref_of {s b tl : List Nat} {j : Nat} {m : Str} {so : Str} (I : HI 7 s) (hs : s.length ≤ 100) (hb : b.length ≤ 210) (h : BadX so (b ++ [10]) j m) : Ref (s ++ b) (lnOf s) (clOf s + j + 1) m := by
  have hl : (s ++ b).length ≤ 400 := by rw [List.length_append]; omega
  refine ⟨by omega, .inr ⟨by omega, ?_⟩⟩
  obtain ⟨c, d, r, e, n10, n32, n47, _⟩ := badx_head h
  have sk : Skips (b ++ [10]) (b ++ [10]) := by
    rw [e]
    exact .done n10 n32 (beq_eq_false_iff_ne.mpr fun q => by injection q with q; exact n47 q)
  obtain ⟨n', h1, h2⟩ := I 0 (b ++ [10]) _ _ _ (by simp) (.bad (cs := s) (cs1 := s) sk h rfl)
  refine ⟨n', by omega, ?_⟩
  rw [List.append_assoc]
  exact h2
theorem ref_long {s : List Nat} (h1 : 20000 < s.length) (h2 : s.length ≤ 90000) : Ref s 1 1 "source too long" := ⟨h2, .inl ⟨h1, rfl, rfl, rfl⟩⟩
theorem flat_rep (l : List Nat) : ∀ n : Nat, (List.replicate n l).flatten.length = n * l.length
  | 0 => by simp
  | n + 1 => by rw [List.replicate_succ, List.flatten_cons, List.length_append, flat_rep l n, Nat.succ_mul, Nat.add_comm]
theorem cut_pre {m r : List Nat} {j : Int} (hj : j = (m.length : Int)) : cutS (TX (m ++ r)) none (some j) = TX m := by
  subst hj
  unfold cutS
  rw [TX_len, HT.sIx_nat, TX_tl]
  have e1 : min m.length (m ++ r).length = m.length := by simp
  rw [e1]
  refine congrArg TX ?_
  show ((m ++ r).drop 0).take (m.length - 0) = m
  simp
section
variable {P : Program} {w : World} {K : PySem.W.Frag} {mg : Str → Option Value} {base : Heap} {C D C2 Vw Ip : Addr}
theorem sc_law : FnScope ["script", "state", "head", "row", "bad", "at", "message", "line", "column", "source"] ["script"] (defScope s_law) := ⟨rfl, rfl, rfl, by decide +kernel, rfl, by decide +kernel, by decide +kernel⟩
theorem ok_law {f : Addr} {fd : FuncData} (F : Fun K "law" "law" s_law f fd) (TR : TxtR P K w mg C D C2 Vw Ip) (TD : TxtD K mg) : FnOk P w K mg base CX0 13 f fd ["script"] (spLaw K) := by
  have T := TR.t
  have G_law_cell : Cal P w K mg base 1 "_law_cell" (spCellA K) := ok_cell T TD
  have G_law_start : Cal P w K mg base 1 "_law_start" spStart := ok_start T TD
  have G_law_digit : Cal P w K mg base 1 "_law_digit" spDigit := ok_digit T TD
  have G_law_head : Cal P w K mg base 2 "_law_head" spHead := ok_head T TD
  have G_law_bad : Cal P w K mg base 2 "_law_bad" spBad := ok_bad T TD
  obtain ⟨ft, fdt, pst, Ft, m_tokens, kt, bt⟩ := (ok_tokensR (w := w) (base := base) TR).ex
  obtain ⟨fp, fdp, psp, Fp, m_parse_program, kp, bp⟩ := (ok_parseF (w := w) (base := base) TR).ex
  have G_law_refused_2 : Cal P w K mg base 12 "_law_refused" (spRefused ft) := ok_refused TR (Ft.mono (by decide)) kt bt
  have G_law_refused_1 : Cal P w K mg base 12 "_law_refused" (spRefused fp) := ok_refused TR Fp kp bp
  refine F.ok sc_law (fun vs H Q E h => ?_) (fun cdv A outer s H vs Q E hr h => ?_)
  · obtain ⟨a, ns, rfl, _⟩ := h
    rfl
  · obtain ⟨a, ns, rfl, hS, hlen, k⟩ := h
    have big : ∀ {n : Nat}, n ≤ 100000 → n ≤ sizeLine := fun h => Nat.le_trans h (by decide)
    refine ⟨_, (pss_cons (ps_set (i := 1) sc_law.nd rfl (Or.inl rfl) (pe_c G_law_start hr (by decide) (by rfl) (pa_cons (pe_c G_law_cell hr (by decide) (by rfl) (pa_cons (pv 0) (pa_cons pe_int pa_nil))) (pa_cons pe_int pa_nil)))) (pss_cons (ps_set (i := 2) sc_law.nd rfl (Or.inl rfl) (pe_c G_law_head hr (by decide) (by rfl) (pa_cons (pe_c G_law_start hr (by decide) (by rfl) (pa_cons (pe_c G_law_cell hr (by decide) (by rfl) (pa_cons (pv 0) (pa_cons pe_int pa_nil))) (pa_cons pe_int pa_nil))) pa_nil))) (pss_cons (ps_set (i := 3) sc_law.nd rfl (Or.inl rfl) (pe_split (pv 2) pe_str)) (pss_cons (ps_asg (pe_c G_law_bad hr (by decide) (by rfl) (pa_cons (pv 1) pa_nil)) (pg_tup rfl (pgs_cons (pg_name (i := 4) sc_law.nd rfl (Or.inl rfl)) (pgs_cons (pg_name (i := 5) sc_law.nd rfl (Or.inl rfl)) (pgs_cons (pg_name (i := 6) sc_law.nd rfl (Or.inl rfl)) pgs_nil))))) (pss_cons (ps_set (i := 7) sc_law.nd rfl (Or.inl rfl) (pe_callB call_len_seq (by rfl) T.z_len PySem.boot_len (pa_cons (pv 3) pa_nil))) (pss_cons (ps_set (i := 8) sc_law.nd rfl (Or.inl rfl) (pe_op op_add (pe_op op_add (pe_callB call_len_str (by rfl) T.z_len PySem.boot_len (pa_cons (pe_ix ix_list (pv 3) (pe_un un_neg pe_int) (fun _ _ => rfl)) pa_nil)) pe_int) (pv 5))) (pss_cons (ps_set (i := 9) sc_law.nd rfl (Or.inl rfl) (pe_op op_add_str (pe_op op_add_str (pv 2) (pv 4)) (pe_ix ix_tup (pe_tup (pa_cons pe_str (pa_cons pe_str (pa_cons pe_str pa_nil)))) (pe_c G_law_digit hr (by decide) (by rfl) (pa_cons (pv 1) (pa_cons pe_int pa_nil))) (fun _ _ => rfl)))) (C8.pss_cut (ps_if (pt_cmpR op_eq (pe_c G_law_digit hr (by decide) (by rfl) (pa_cons (pv 1) (pa_cons pe_int pa_nil))) pe_int (nomark _)) (pss_cons (ps_set (i := 9) sc_law.nd rfl (Or.inl rfl) (pe_op op_add_str (pv 2) (pe_op op_mul_str (pe_ix ix_tup (pe_tup (pa_cons pe_str (pa_cons pe_str (pa_cons pe_str pa_nil)))) (pe_c G_law_digit hr (by decide) (by rfl) (pa_cons (pv 1) (pa_cons pe_int pa_nil))) (fun _ _ => rfl)) pe_int))) (pss_cons (ps_set (i := 7) sc_law.nd rfl (Or.inl rfl) pe_int) (pss_cons (ps_set (i := 8) sc_law.nd rfl (Or.inl rfl) pe_int) (pss_one (ps_set (i := 6) sc_law.nd rfl (Or.inl rfl) pe_str))))) (pss_one (ps_if ((pw_and (pt_cmpR op_eq (pv 6) pe_str (nomark _)) (pw_and1 (pt_cmpR op_eq (pe_c G_law_digit hr (by decide) (by rfl) (pa_cons (pv 1) (pa_cons pe_int pa_nil))) pe_int (nomark _))))).pt (pss_one (ps_set (i := 9) sc_law.nd rfl (Or.inl rfl) (pe_op op_add_str (pv 2) (pe_slice sl_str (pv 4) po_none (po_some (pe_op op_sub (pe_callB call_len_str (by rfl) T.z_len PySem.boot_len (pa_cons (pv 4) pa_nil)) pe_int)))))) pss_nil))) (pss_one (ps_ret (pe_and (pe_c G_law_refused_2 hr (by decide) (by rfl) (pa_cons (pe_glob (v := V.ref _) (by rfl) m_tokens rfl) (pa_cons (pv 9) (pa_cons (pv 7) (pa_cons (pv 8) (pa_cons (pv 6) pa_nil)))))) (pe_one (pe_c G_law_refused_1 hr (by decide) (by rfl) (pa_cons (pe_glob (v := V.ref _) (by rfl) m_parse_program rfl) (pa_cons (pv 9) (pa_cons (pv 7) (pa_cons (pv 8) (pa_cons (pv 6) pa_nil)))))))))))))))))), ?_⟩
    refine ⟨_, rfl, a, ns, 0, rfl, hS, Int.le_refl _, fun zc => ?_⟩
    refine ⟨zc, 0, rfl, fun q H1 nq sm Sq => ?_⟩
    refine ⟨_, rfl, a, ns, 1, rfl, sm.seq hS, by decide, fun zc2 => ?_⟩
    refine ⟨zc2, 1, rfl, fun q2 H2 nq2 sm2 Sq2 => ?_⟩
    refine ⟨q2, rfl, Sq2, fun z H3 I hz S3 k3 => ?_⟩
    have S3q : StA H3 q := by
      obtain ⟨y, e, r⟩ := Sq
      exact ⟨y, k3 q _ (sm2 _ _ e) (ne_of_none e nq2), r⟩
    have lz : (TX z).length ≤ 100 := by rw [TX_len]; exact hz
    -- row
    refine ⟨_, rfl, ⟨_, rfl⟩, _, _, rfl, rfl, rfl, (by exact big (by omega)), fun rp hrp => ?_⟩
    have h4 : upd H3 rp (.lst ((Txt.split (TX z) (TX [10])).map V.str)) rp = some (.lst ((rws [] z).map fun r => V.str (TX r))) := by
      rw [upd_same, split_rows, List.map_map]
      rfl
    have S4 := S3q.new (o := .lst ((Txt.split (TX z) (TX [10])).map V.str)) hrp
    have e6 : (Str.ofString "\n") = TX [10] := rfl
    rw [e6]
    generalize upd H3 rp (.lst ((Txt.split (TX z) (TX [10])).map V.str)) = H4 at h4 S4 ⊢
    obtain ⟨la, hla, hcl⟩ := rows_last z
    have nqr : rp ≠ q := by
      obtain ⟨y, e, _⟩ := S4
      exact ne_of h4 e (by
        intro e
        injection e with e
        cases hz2 : rws [] z with
        | nil => exact rws_ne _ _ hz2
        | cons a b => rw [hz2] at e; injection e with e; cases e)
    -- the bad piece
    refine ⟨_, rfl, q, rfl, S4, fun T' b j m H5 hb S5 k5 hT => ?_⟩
    refine ⟨T', _, rfl, SqT.of hT, rfl, ?_⟩
    refine ⟨_, _, rfl, _, _, rfl, _, _, rfl, rfl, ?_⟩
    have h5 := k5 _ _ h4 nqr
    have lb : (TX b).length ≤ 200 := by rw [TX_len]; exact hb.1
    refine ⟨_, rfl, rp, _, rfl, .inl (SqL.of h5), ?_⟩
    refine ⟨_, rfl, _, rfl, rp, _, -1, _, rfl, rfl, SqL.of h5, hla, _, rfl, (by rw [TX_len, hcl]; exact big (by have := cl_le z; omega)), _, _, rfl, rfl, _, rfl, _, _, rfl, rfl, ?_⟩
    refine ⟨_, rfl, _, rfl, _, _, rfl, rfl, big (by omega), ?_⟩
    refine ⟨by show 3 ≤ sizeLine; decide, fun t ht => ?_⟩
    refine ⟨_, rfl, q, 3, rfl, S5.new ht, by decide, fun r6 H6 S6 k6 h60 h61 => ?_⟩
    have ht6 : H6 t = some (.tup (([[32, 120], [10, 36], [34]] : List (List Nat)).map fun l => V.str (TX l))) := kept ht S5 k6
    have hr6 : r6.toNat < ([[32, 120], [10, 36], [34]] : List (List Nat)).length := by show r6.toNat < 3; omega
    refine ⟨t, _, r6, _, rfl, rfl, SqT.of ht6, atI_map h60 hr6, ?_⟩
    have hm6 := List.getElem_mem hr6
    generalize ([[32, 120], [10, 36], [34]] : List (List Nat))[r6.toNat] = tl at hm6
    have ltl : tl.length ≤ 2 := (by decide : ∀ x ∈ ([[32, 120], [10, 36], [34]] : List (List Nat)), x.length ≤ 2) _ hm6
    refine ⟨_, _, rfl, rfl, (by rw [len_app, TX_len tl]; exact big (by omega)), ?_⟩
    have el : ((((rws [] z).map fun r => V.str (TX r)).length : Nat) : Int) = ((lnOf z : Nat) : Int) := by
      rw [List.length_map]
      rfl
    have ec : (((TX la).length : Int) + 1 + ((j : Nat) : Int)) = ((clOf z + j + 1 : Nat) : Int) := by
      rw [TX_len, hcl]
      omega
    refine ⟨fun σ H' => ∃ (src : List Nat) (l c : Nat) (m : Str), σ = [some (.ref a), some (.ref q), some (.str (TX z)), some (.ref rp), some (.str (TX b)), some (.int ((j : Nat) : Int)), some (.str m), some (.int (l : Int)), some (.int (c : Int)), some (.str (TX src))] ∧ Ref src l c m, ?_, ?_⟩
    · refine ⟨_, rfl, q, 9, rfl, S6, by decide, fun r7 H7 S7 k7 _ _ => ?_⟩
      refine ⟨rfl, _, rfl, ?_⟩
      refine ite2 (fun _ => ?_) (fun _ => ?_)
      · -- too long
        refine ⟨_, rfl, (by show 3 ≤ sizeLine; decide), fun t2 ht2 => ?_⟩
        refine ⟨_, rfl, q, 3, rfl, S7.new ht2, by decide, fun r8 H8 S8 k8 h80 h81 => ?_⟩
        have ht8 : H8 t2 = some (.tup (([[32], [120, 32], [10]] : List (List Nat)).map fun l => V.str (TX l))) := kept ht2 S7 k8
        have hr8 : r8.toNat < ([[32], [120, 32], [10]] : List (List Nat)).length := by show r8.toNat < 3; omega
        refine ⟨t2, _, r8, _, rfl, rfl, SqT.of ht8, atI_map h80 hr8, ?_⟩
        have hm8 := List.getElem_mem hr8
        generalize ([[32], [120, 32], [10]] : List (List Nat))[r8.toNat] = wl at hm8
        have lw : 1 ≤ wl.length ∧ wl.length ≤ 2 := (by decide : ∀ x ∈ ([[32], [120, 32], [10]] : List (List Nat)), 1 ≤ x.length ∧ x.length ≤ 2) _ hm8
        have lf : (List.replicate (20001 : Int).toNat wl).flatten.length = 20001 * wl.length := flat_rep wl _
        refine ⟨wl, 20001, rfl, rfl, by decide, by decide, by omega, ?_⟩
        refine ⟨_, _, rfl, rfl, (by rw [TX_len (List.flatten _), lf]; exact big (by omega)), ?_⟩
        refine ⟨z ++ (List.replicate (20001 : Int).toNat wl).flatten, 1, 1, Str.ofString "source too long", ?_, ref_long (by rw [List.length_append, lf]; omega) (by rw [List.length_append, lf]; omega)⟩
        rw [← TX_cat]
        rfl
      · have norm : ∃ (src : List Nat) (l c : Nat) (m1 : Str), (TX z ++ TX b ++ TX tl) = TX src ∧ l = lnOf z ∧ c = clOf z + j + 1 ∧ m1 = m ∧ Ref src l c m1 := by
          obtain ⟨so, hbx⟩ := hb.2.1 (tl ++ [10]) (by simp)
          refine ⟨z ++ (b ++ tl), _, _, m, by rw [TX_cat, TX_cat, List.append_assoc], rfl, rfl, rfl, ref_of (tl := []) (so := so) I hz (by rw [List.length_append]; have := hb.1; omega) (by rw [List.append_assoc]; exact hbx)⟩
        obtain ⟨src, l, c, m1, e1, rfl, rfl, rfl, R⟩ := norm
        refine ⟨_, rfl, rfl, _, rfl, ?_⟩
        refine ite_b (fun qm => ?_) (fun _ => ?_)
        · have em : m1 = "text not closed" := by
            have q2 : decide (V.str m1 = V.str (Str.ofString "text not closed")) = true := qm
            have q3 := of_decide_eq_true q2
            injection q3
          refine ⟨_, rfl, q, 2, rfl, S7, by decide, fun r8 H8 S8 k8 _ _ => ?_⟩
          refine ⟨rfl, _, rfl, ?_⟩
          refine ite2 (fun _ => ?_) (fun _ => ?_)
          · obtain ⟨j0, b', x, y, eb, so, hbx⟩ := hb.2.2 em
            have l2 : (TX b).length = b'.length + 2 := by rw [TX_len, eb, List.length_append]; rfl
            have ecut : cutS (TX b) none (some (((TX b).length : Int) - 2)) = TX b' := by
              rw [l2, eb]
              exact cut_pre (by omega)
            refine ⟨_, rfl, _, rfl, _, rfl, _, rfl, (by exact big (by omega)), _, _, rfl, rfl, _, rfl, _, rfl, (by exact big (by omega)), ?_⟩
            refine ⟨_, _, rfl, rfl, (by rw [ecut, TX_len b']; exact big (by omega)), ?_⟩
            have hl : b'.length ≤ 210 := by omega
            refine ⟨z ++ b', lnOf z, clOf z + j + 1, m1, ?_, ?_⟩
            · rw [ecut, ← TX_cat z b', ← el, ← ec]
              rfl
            · rw [j0]
              exact ref_of (tl := []) (so := so) I hz hl hbx
          · refine ⟨src, _, _, _, ?_, R⟩
            rw [← e1, ← el, ← ec]
            rfl
        · refine ite_b (b := false) (fun z => by cases z) (fun _ => ?_)
          refine ⟨src, _, _, _, ?_, R⟩
          rw [← e1, ← el, ← ec]
          rfl
    · rintro σ H7 ⟨src, l, c, m, rfl, R⟩
      refine ⟨_, rfl, _, rfl, _, rfl, _, rfl, src, l, c, m, rfl, R, fun H8 => ⟨true, rfl, ?_⟩⟩
      rw [if_pos rfl]
      exact ⟨_, rfl, _, rfl, _, rfl, _, rfl, src, l, c, m, rfl, R, fun H9 => k H9⟩
end
end VL

set_option Elab.async false
set_option linter.all false
set_option maxRecDepth 100000
set_option maxHeartbeats 4000000
namespace VL
open PySem PySem.Spec PyProof.Rows L2
theorem all_mk {l : PySem.W.OpenLaw} {w : World} {K : PySem.W.Frag} {h : Heap} {mg : Str → Option Value} {fa C D Vw Ip C2 aPr aE fI cc cda f1 f2 f3 f4 f5 f6 f7 f8 f9 f10 f11 f12 f13 f14 f15 f16 f17 f18 f19 f20 f21 f22 f23 f24 f25 f26 f27 : Addr} (X : K.In h) (G : h.Ns mainGlobals mg) (hfa : mg "law" = some (.ref fa))
    {odP odI anI odC odD od1 an1 od2 an2 od3 an3 od4 an4 od5 an5 od6 an6 od7 an7 od8 an8 od9 an9 od10 an10 od11 an11 od12 an12 od13 an13 od14 an14 od15 an15 od16 an16 od17 an17 od18 an18 od19 an19 od20 an20 od21 an21 od22 an22 od23 an23 od24 an24 od25 an25 od26 an26 od27 an27 : Option Addr} {slP slI slC slD sl1 sl2 sl3 sl4 sl5 sl6 sl7 sl8 sl9 sl10 sl11 sl12 sl13 sl14 sl15 sl16 sl17 sl18 sl19 sl20 sl21 sl22 sl23 sl24 sl25 sl26 sl27 : Array (Option Value)} {ocI kVI dcI pmI ctI ocC ocD oc1 kV1 dc1 pm1 cd1 ct1 oc2 kV2 dc2 pm2 cd2 ct2 oc3 kV3 dc3 pm3 cd3 ct3 oc4 kV4 dc4 pm4 cd4 ct4 oc5 kV5 dc5 pm5 cd5 ct5 oc6 kV6 dc6 pm6 cd6 ct6 oc7 kV7 dc7 pm7 cd7 ct7 oc8 kV8 dc8 pm8 cd8 ct8 oc9 kV9 dc9 pm9 cd9 ct9 oc10 kV10 dc10 pm10 cd10 ct10 oc11 kV11 dc11 pm11 cd11 ct11 oc12 kV12 dc12 pm12 cd12 ct12 oc13 kV13 dc13 pm13 cd13 ct13 oc14 kV14 dc14 pm14 cd14 ct14 oc15 kV15 dc15 pm15 cd15 ct15 oc16 kV16 dc16 pm16 cd16 ct16 oc17 kV17 dc17 pm17 cd17 ct17 oc18 kV18 dc18 pm18 cd18 ct18 oc19 kV19 dc19 pm19 cd19 ct19 oc20 kV20 dc20 pm20 cd20 ct20 oc21 kV21 dc21 pm21 cd21 ct21 oc22 kV22 dc22 pm22 cd22 ct22 oc23 kV23 dc23 pm23 cd23 ct23 oc24 kV24 dc24 pm24 cd24 ct24 oc25 kV25 dc25 pm25 cd25 ct25 oc26 kV26 dc26 pm26 cd26 ct26 oc27 kV27 dc27 pm27 cd27 ct27 u34 u92 u110 vLONGEST_SOURCE vLARGEST_NUMBER vMOST_DIGITS vSINGLES : Value} {itP vsD : Array Value} {nP nE : Nat} {esE : Array DictEntry} {file : Str} {tf : Tok} {cdD : ClassData}
    {nmD qD : Str} {ND : Addr} {bsD bmD subD : List Value} {snD : List Str} {abD : Bool} {colD : Option Bool} {ddD : Option Addr} {e0 e1 e2 e3 e5 : Option Value}
    (aC : PySem.W.nsIn K mainGlobals "Scanner" = some (some (.ref C)))
    (gI : PySem.W.nsIn K mainGlobals "InvalidSource" = some (some (.ref D)))
    (aV : PySem.W.nsIn K mainGlobals "ViewError" = some (some (.ref Vw)))
    (aP : PySem.W.nsIn K mainGlobals "InvalidProgram" = some (some (.ref Ip)))
    (aK : PySem.W.nsIn K mainGlobals "Cursor" = some (some (.ref C2)))
    (a1 : PySem.W.findIn K (.ref C) "__init__" = some (some (.ref f1)))
    (i1 : PySem.W.isFn K (.ref f1) = true)
    (l1 : K.lookup f1 = some ⟨oc1, od1, .func (PySem.W.fnOf "__init__" "Scanner.__init__" (defArgs s_Scanner___init__) (defBody s_Scanner___init__) (defScope s_Scanner___init__) .none kV1 dc1 pm1 an1 cd1 ct1), sl1⟩)
    (c1 : PySem.W.codeIn K cd1 "Scanner.__init__" = true)
    (k1 : PySem.W.keepIn K (.ref f1) = true)
    (a2 : PySem.W.findIn K (.ref C) "column_of" = some (some (.ref f2)))
    (i2 : PySem.W.isFn K (.ref f2) = true)
    (l2 : K.lookup f2 = some ⟨oc2, od2, .func (PySem.W.fnOf "column_of" "Scanner.column_of" (defArgs s_Scanner_column_of) (defBody s_Scanner_column_of) (defScope s_Scanner_column_of) .none kV2 dc2 pm2 an2 cd2 ct2), sl2⟩)
    (c2 : PySem.W.codeIn K cd2 "Scanner.column_of" = true)
    (k2 : PySem.W.keepIn K (.ref f2) = true)
    (a3 : PySem.W.findIn K (.ref C) "fail" = some (some (.ref f3)))
    (i3 : PySem.W.isFn K (.ref f3) = true)
    (l3 : K.lookup f3 = some ⟨oc3, od3, .func (PySem.W.fnOf "fail" "Scanner.fail" (defArgs s_Scanner_fail) (defBody s_Scanner_fail) (defScope s_Scanner_fail) .none kV3 dc3 pm3 an3 cd3 ct3), sl3⟩)
    (c3 : PySem.W.codeIn K cd3 "Scanner.fail" = true)
    (k3 : PySem.W.keepIn K (.ref f3) = true)
    (a4 : PySem.W.findIn K (.ref C) "skip" = some (some (.ref f4)))
    (i4 : PySem.W.isFn K (.ref f4) = true)
    (l4 : K.lookup f4 = some ⟨oc4, od4, .func (PySem.W.fnOf "skip" "Scanner.skip" (defArgs s_Scanner_skip) (defBody s_Scanner_skip) (defScope s_Scanner_skip) .none kV4 dc4 pm4 an4 cd4 ct4), sl4⟩)
    (c4 : PySem.W.codeIn K cd4 "Scanner.skip" = true)
    (k4 : PySem.W.keepIn K (.ref f4) = true)
    (a5 : PySem.W.findIn K (.ref C) "token" = some (some (.ref f5)))
    (i5 : PySem.W.isFn K (.ref f5) = true)
    (l5 : K.lookup f5 = some ⟨oc5, od5, .func (PySem.W.fnOf "token" "Scanner.token" (defArgs s_Scanner_token) (defBody s_Scanner_token) (defScope s_Scanner_token) .none kV5 dc5 pm5 an5 cd5 ct5), sl5⟩)
    (c5 : PySem.W.codeIn K cd5 "Scanner.token" = true)
    (k5 : PySem.W.keepIn K (.ref f5) = true)
    (a6 : PySem.W.findIn K (.ref C) "next_sort" = some (some (.ref f6)))
    (i6 : PySem.W.isFn K (.ref f6) = true)
    (l6 : K.lookup f6 = some ⟨oc6, od6, .func (PySem.W.fnOf "next_sort" "Scanner.next_sort" (defArgs s_Scanner_next_sort) (defBody s_Scanner_next_sort) (defScope s_Scanner_next_sort) .none kV6 dc6 pm6 an6 cd6 ct6), sl6⟩)
    (c6 : PySem.W.codeIn K cd6 "Scanner.next_sort" = true)
    (k6 : PySem.W.keepIn K (.ref f6) = true)
    (a7 : PySem.W.findIn K (.ref C) "take_word" = some (some (.ref f7)))
    (i7 : PySem.W.isFn K (.ref f7) = true)
    (l7 : K.lookup f7 = some ⟨oc7, od7, .func (PySem.W.fnOf "take_word" "Scanner.take_word" (defArgs s_Scanner_take_word) (defBody s_Scanner_take_word) (defScope s_Scanner_take_word) .none kV7 dc7 pm7 an7 cd7 ct7), sl7⟩)
    (c7 : PySem.W.codeIn K cd7 "Scanner.take_word" = true)
    (k7 : PySem.W.keepIn K (.ref f7) = true)
    (a8 : PySem.W.findIn K (.ref C) "take_until" = some (some (.ref f8)))
    (i8 : PySem.W.isFn K (.ref f8) = true)
    (l8 : K.lookup f8 = some ⟨oc8, od8, .func (PySem.W.fnOf "take_until" "Scanner.take_until" (defArgs s_Scanner_take_until) (defBody s_Scanner_take_until) (defScope s_Scanner_take_until) .none kV8 dc8 pm8 an8 cd8 ct8), sl8⟩)
    (c8 : PySem.W.codeIn K cd8 "Scanner.take_until" = true)
    (k8 : PySem.W.keepIn K (.ref f8) = true)
    (a9 : PySem.W.findIn K (.ref C) "take_name" = some (some (.ref f9)))
    (i9 : PySem.W.isFn K (.ref f9) = true)
    (l9 : K.lookup f9 = some ⟨oc9, od9, .func (PySem.W.fnOf "take_name" "Scanner.take_name" (defArgs s_Scanner_take_name) (defBody s_Scanner_take_name) (defScope s_Scanner_take_name) .none kV9 dc9 pm9 an9 cd9 ct9), sl9⟩)
    (c9 : PySem.W.codeIn K cd9 "Scanner.take_name" = true)
    (k9 : PySem.W.keepIn K (.ref f9) = true)
    (a10 : PySem.W.findIn K (.ref C) "take_number" = some (some (.ref f10)))
    (i10 : PySem.W.isFn K (.ref f10) = true)
    (l10 : K.lookup f10 = some ⟨oc10, od10, .func (PySem.W.fnOf "take_number" "Scanner.take_number" (defArgs s_Scanner_take_number) (defBody s_Scanner_take_number) (defScope s_Scanner_take_number) .none kV10 dc10 pm10 an10 cd10 ct10), sl10⟩)
    (c10 : PySem.W.codeIn K cd10 "Scanner.take_number" = true)
    (k10 : PySem.W.keepIn K (.ref f10) = true)
    (a11 : PySem.W.findIn K (.ref C) "take_sign" = some (some (.ref f11)))
    (i11 : PySem.W.isFn K (.ref f11) = true)
    (l11 : K.lookup f11 = some ⟨oc11, od11, .func (PySem.W.fnOf "take_sign" "Scanner.take_sign" (defArgs s_Scanner_take_sign) (defBody s_Scanner_take_sign) (defScope s_Scanner_take_sign) .none kV11 dc11 pm11 an11 cd11 ct11), sl11⟩)
    (c11 : PySem.W.codeIn K cd11 "Scanner.take_sign" = true)
    (k11 : PySem.W.keepIn K (.ref f11) = true)
    (a12 : PySem.W.findIn K (.ref C) "take_text" = some (some (.ref f12)))
    (i12 : PySem.W.isFn K (.ref f12) = true)
    (l12 : K.lookup f12 = some ⟨oc12, od12, .func (PySem.W.fnOf "take_text" "Scanner.take_text" (defArgs s_Scanner_take_text) (defBody s_Scanner_take_text) (defScope s_Scanner_take_text) .none kV12 dc12 pm12 an12 cd12 ct12), sl12⟩)
    (c12 : PySem.W.codeIn K cd12 "Scanner.take_text" = true)
    (k12 : PySem.W.keepIn K (.ref f12) = true)
    (a13 : PySem.W.findIn K (.ref C) "text_end" = some (some (.ref f13)))
    (i13 : PySem.W.isFn K (.ref f13) = true)
    (l13 : K.lookup f13 = some ⟨oc13, od13, .func (PySem.W.fnOf "text_end" "Scanner.text_end" (defArgs s_Scanner_text_end) (defBody s_Scanner_text_end) (defScope s_Scanner_text_end) .none kV13 dc13 pm13 an13 cd13 ct13), sl13⟩)
    (c13 : PySem.W.codeIn K cd13 "Scanner.text_end" = true)
    (k13 : PySem.W.keepIn K (.ref f13) = true)
    (a14 : PySem.W.nsIn K mainGlobals "is_letter" = some (some (.ref f14)))
    (l14 : K.lookup f14 = some ⟨oc14, od14, .func (PySem.W.fnOf "is_letter" "is_letter" (defArgs s_is_letter) (defBody s_is_letter) (defScope s_is_letter) .none kV14 dc14 pm14 an14 cd14 ct14), sl14⟩)
    (c14 : PySem.W.codeIn K cd14 "is_letter" = true)
    (k14 : PySem.W.keepIn K (.ref f14) = true)
    (a15 : PySem.W.nsIn K mainGlobals "is_digit" = some (some (.ref f15)))
    (l15 : K.lookup f15 = some ⟨oc15, od15, .func (PySem.W.fnOf "is_digit" "is_digit" (defArgs s_is_digit) (defBody s_is_digit) (defScope s_is_digit) .none kV15 dc15 pm15 an15 cd15 ct15), sl15⟩)
    (c15 : PySem.W.codeIn K cd15 "is_digit" = true)
    (k15 : PySem.W.keepIn K (.ref f15) = true)
    (a16 : PySem.W.nsIn K mainGlobals "is_word_sign" = some (some (.ref f16)))
    (l16 : K.lookup f16 = some ⟨oc16, od16, .func (PySem.W.fnOf "is_word_sign" "is_word_sign" (defArgs s_is_word_sign) (defBody s_is_word_sign) (defScope s_is_word_sign) .none kV16 dc16 pm16 an16 cd16 ct16), sl16⟩)
    (c16 : PySem.W.codeIn K cd16 "is_word_sign" = true)
    (k16 : PySem.W.keepIn K (.ref f16) = true)
    (a17 : PySem.W.nsIn K mainGlobals "tokens" = some (some (.ref f17)))
    (l17 : K.lookup f17 = some ⟨oc17, od17, .func (PySem.W.fnOf "tokens" "tokens" (defArgs s_tokens) (defBody s_tokens) (defScope s_tokens) .none kV17 dc17 pm17 an17 cd17 ct17), sl17⟩)
    (c17 : PySem.W.codeIn K cd17 "tokens" = true)
    (k17 : PySem.W.keepIn K (.ref f17) = true)
    (a18 : PySem.W.nsIn K mainGlobals "parse_program" = some (some (.ref f18)))
    (l18 : K.lookup f18 = some ⟨oc18, od18, .func (PySem.W.fnOf "parse_program" "parse_program" (defArgs s_parse_program) (defBody s_parse_program) (defScope s_parse_program) .none kV18 dc18 pm18 an18 cd18 ct18), sl18⟩)
    (c18 : PySem.W.codeIn K cd18 "parse_program" = true)
    (k18 : PySem.W.keepIn K (.ref f18) = true)
    (a19 : PySem.W.nsIn K mainGlobals "_law_cell" = some (some (.ref f19)))
    (l19 : K.lookup f19 = some ⟨oc19, od19, .func (PySem.W.fnOf "_law_cell" "_law_cell" (defArgs s__law_cell) (defBody s__law_cell) (defScope s__law_cell) .none kV19 dc19 pm19 an19 cd19 ct19), sl19⟩)
    (c19 : PySem.W.codeIn K cd19 "_law_cell" = true)
    (k19 : PySem.W.keepIn K (.ref f19) = true)
    (a20 : PySem.W.nsIn K mainGlobals "_law_is_integer" = some (some (.ref f20)))
    (l20 : K.lookup f20 = some ⟨oc20, od20, .func (PySem.W.fnOf "_law_is_integer" "_law_is_integer" (defArgs s__law_is_integer) (defBody s__law_is_integer) (defScope s__law_is_integer) .none kV20 dc20 pm20 an20 cd20 ct20), sl20⟩)
    (c20 : PySem.W.codeIn K cd20 "_law_is_integer" = true)
    (k20 : PySem.W.keepIn K (.ref f20) = true)
    (a21 : PySem.W.nsIn K mainGlobals "_law_start" = some (some (.ref f21)))
    (l21 : K.lookup f21 = some ⟨oc21, od21, .func (PySem.W.fnOf "_law_start" "_law_start" (defArgs s__law_start) (defBody s__law_start) (defScope s__law_start) .none kV21 dc21 pm21 an21 cd21 ct21), sl21⟩)
    (c21 : PySem.W.codeIn K cd21 "_law_start" = true)
    (k21 : PySem.W.keepIn K (.ref f21) = true)
    (a22 : PySem.W.nsIn K mainGlobals "_law_digit" = some (some (.ref f22)))
    (l22 : K.lookup f22 = some ⟨oc22, od22, .func (PySem.W.fnOf "_law_digit" "_law_digit" (defArgs s__law_digit) (defBody s__law_digit) (defScope s__law_digit) .none kV22 dc22 pm22 an22 cd22 ct22), sl22⟩)
    (c22 : PySem.W.codeIn K cd22 "_law_digit" = true)
    (k22 : PySem.W.keepIn K (.ref f22) = true)
    (a23 : PySem.W.nsIn K mainGlobals "_law_head" = some (some (.ref f23)))
    (l23 : K.lookup f23 = some ⟨oc23, od23, .func (PySem.W.fnOf "_law_head" "_law_head" (defArgs s__law_head) (defBody s__law_head) (defScope s__law_head) .none kV23 dc23 pm23 an23 cd23 ct23), sl23⟩)
    (c23 : PySem.W.codeIn K cd23 "_law_head" = true)
    (k23 : PySem.W.keepIn K (.ref f23) = true)
    (a24 : PySem.W.nsIn K mainGlobals "_law_bad" = some (some (.ref f24)))
    (l24 : K.lookup f24 = some ⟨oc24, od24, .func (PySem.W.fnOf "_law_bad" "_law_bad" (defArgs s__law_bad) (defBody s__law_bad) (defScope s__law_bad) .none kV24 dc24 pm24 an24 cd24 ct24), sl24⟩)
    (c24 : PySem.W.codeIn K cd24 "_law_bad" = true)
    (k24 : PySem.W.keepIn K (.ref f24) = true)
    (a25 : PySem.W.nsIn K mainGlobals "_law_refused" = some (some (.ref f25)))
    (l25 : K.lookup f25 = some ⟨oc25, od25, .func (PySem.W.fnOf "_law_refused" "_law_refused" (defArgs s__law_refused) (defBody s__law_refused) (defScope s__law_refused) .none kV25 dc25 pm25 an25 cd25 ct25), sl25⟩)
    (c25 : PySem.W.codeIn K cd25 "_law_refused" = true)
    (k25 : PySem.W.keepIn K (.ref f25) = true)
    (a26 : PySem.W.nsIn K mainGlobals "law" = some (some (.ref f26)))
    (l26 : K.lookup f26 = some ⟨oc26, od26, .func (PySem.W.fnOf "law" "law" (defArgs s_law) (defBody s_law) (defScope s_law) .none kV26 dc26 pm26 an26 cd26 ct26), sl26⟩)
    (c26 : PySem.W.codeIn K cd26 "law" = true)
    (k26 : PySem.W.keepIn K (.ref f26) = true)
    (a27 : PySem.W.findIn K (.ref C2) "__init__" = some (some (.ref f27)))
    (i27 : PySem.W.isFn K (.ref f27) = true)
    (l27 : K.lookup f27 = some ⟨oc27, od27, .func (PySem.W.fnOf "__init__" "Cursor.__init__" (defArgs s_Cursor___init__) (defBody s_Cursor___init__) (defScope s_Cursor___init__) .none kV27 dc27 pm27 an27 cd27 ct27), sl27⟩)
    (c27 : PySem.W.codeIn K cd27 "Cursor.__init__" = true)
    (k27 : PySem.W.keepIn K (.ref f27) = true)
    (pg : PySem.W.plainGet K C Str.empty = true)
    (hd : PySem.W.hasDictIn K C = true)
    (po : PySem.W.plainOver K C = true)
    (sa : PySem.W.findIn K (.ref C) "__setattr__" = some (some (.builtin "object.__setattr__")))
    (mk : PySem.W.makesIn K C = true)
    (kc : PySem.W.keepIn K (.ref C) = true)
    (mk2 : PySem.W.makesIn K C2 = true)
    (kc2 : PySem.W.keepIn K (.ref C2) = true)
    (n_source : PySem.W.findIn K (.ref C) "source" = some none)
    (n_end : PySem.W.findIn K (.ref C) "length" = some none)
    (n_at : PySem.W.findIn K (.ref C) "at" = some none)
    (n_line : PySem.W.findIn K (.ref C) "line" = some none)
    (n_line_begin : PySem.W.findIn K (.ref C) "line_begin" = some none)
    (z_len : PySem.W.nsIn K mainGlobals "len" = some none)
    (z_int : PySem.W.nsIn K mainGlobals "int" = some none)
    (z_str : PySem.W.nsIn K mainGlobals "str" = some none)
    (z_bool : PySem.W.nsIn K mainGlobals "bool" = some none)
    (z_list : PySem.W.nsIn K mainGlobals "list" = some none)
    (z_tuple : PySem.W.nsIn K mainGlobals "tuple" = some none)
    (z_isinstance : PySem.W.nsIn K mainGlobals "isinstance" = some none)
    (z_range : PySem.W.nsIn K mainGlobals "range" = some none)
    (z_min : PySem.W.nsIn K mainGlobals "min" = some none)
    (z_max : PySem.W.nsIn K mainGlobals "max" = some none)
    (z_ValueError : PySem.W.nsIn K mainGlobals "ValueError" = some none)
    (z_super : PySem.W.nsIn K mainGlobals "super" = some none)
    (g_LONGEST_SOURCE : PySem.W.nsIn K mainGlobals "LONGEST_SOURCE" = some (some vLONGEST_SOURCE))
    (r_LONGEST_SOURCE : RelV (.int 20000) vLONGEST_SOURCE)
    (g_LARGEST_NUMBER : PySem.W.nsIn K mainGlobals "LARGEST_NUMBER" = some (some vLARGEST_NUMBER))
    (r_LARGEST_NUMBER : RelV (.int 1000000000000000000000000000000) vLARGEST_NUMBER)
    (g_MOST_DIGITS : PySem.W.nsIn K mainGlobals "MOST_DIGITS" = some (some vMOST_DIGITS))
    (r_MOST_DIGITS : RelV (.int 31) vMOST_DIGITS)
    (g_SINGLES : PySem.W.nsIn K mainGlobals "SINGLES" = some (some vSINGLES))
    (r_SINGLES : RelV (.str (TX singlesL)) vSINGLES)
    (gP : PySem.W.nsIn K mainGlobals "PAIRS" = some (some (.ref aPr)))
    (lP : K.lookup aPr = some ⟨.type "tuple", odP, .seq itP nP, slP⟩)
    (szP : itP.size ≤ sizeLine)
    (vP : Vals (pairsL.map fun l => V.str (TX l)) itP.toList)
    (gE : PySem.W.nsIn K mainGlobals "ESCAPES" = some (some (.ref aE)))
    (lE : K.lookup aE = some ⟨.type "dict", none, .dict esE nE, #[]⟩)
    (litE : PySem.W.KeysLit w.params esE.toList)
    (lowE : (aE == sysModules) = false)
    (e34 : PySem.W.nsIn K aE "\"" = some (some u34))
    (r34 : RelV (.str (TX [34])) u34)
    (e92 : PySem.W.nsIn K aE "\\" = some (some u92))
    (r92 : RelV (.str (TX [92])) u92)
    (e110 : PySem.W.nsIn K aE "n" = some (some u110))
    (r110 : RelV (.str (TX [10])) u110)
    (o97 : PySem.W.nsIn K aE "a" = some none)
    (o98 : PySem.W.nsIn K aE "b" = some none)
    (o116 : PySem.W.nsIn K aE "t" = some none)
    (o48 : PySem.W.nsIn K aE "0" = some none)
    (o32 : PySem.W.nsIn K aE " " = some none)
    (o47 : PySem.W.nsIn K aE "/" = some none)
    (iI : PySem.W.findIn K (.ref D) "__init__" = some (some (.ref fI)))
    (tI : PySem.W.typeIn K (.ref fI) = some (.type "function"))
    (lI : K.lookup fI = some ⟨ocI, odI, .func (isFd cc cda kVI dcI pmI anI ctI), slI⟩)
    (cI : PySem.W.codeIn K (.ref cda) "InvalidSource.__init__" = true)
    (ceI : K.lookup cc = some ⟨ocC, odC, .cell (some (.ref D)), slC⟩)
    (coI : K.lookup cda = some ⟨ocD, odD, .fields vsD, slD⟩)
    (vsI : vsD[2]? = some (.str file tf))
    (fiI : ((l.prog.main.file : Str) == file) = true)
    (clI : PySem.W.clsIn K D = some cdD)
    (sbI : PySem.W.mroIn K D (.ref D) = some true)
    (opI : PySem.W.nsIn K cStatics "thirdparty.any" = some none)
    (alI : PySem.W.ks_superIn K D D "__init__" = some (some (.builtin "ValueError.__init__")))
    (svI : PySem.W.subIn K (.ref D) (.type "ValueError") = some true)
    (tpI : (l.prog.main.scope.names.lookup ("super" : Str)).isSome = false)
    (lD : K.lookup D = some (excClassObj nmD qD D ND bsD bmD true snD subD abD colD ddD e0 e1 e2 e3 e5 "ValueError.__new__"))
    (bmR : PySem.HandSPX.refsVE bmD = true)
    (saD : PySem.W.findIn K (.ref D) "__setattr__" = some (some (.builtin "object.__setattr__")))
    (exD : PySem.W.subIn K (.ref D) (.type "BaseException") = some true)
    (tyD : PySem.W.typeIn K (.ref D) = some (.type "type"))
    (kD : PySem.W.keepIn K (.ref D) = true)
    (m_line : PySem.W.findIn K (.ref D) "line" = some none)
    (m_column : PySem.W.findIn K (.ref D) "column" = some none)
    (m_message : PySem.W.findIn K (.ref D) "message" = some none)
    (ssD : PySem.W.subIn K (.ref D) (.ref D) = some true)
    (gaD : PySem.W.findIn K (.ref D) "__getattribute__" = some (some (.builtin "BaseException.__getattribute__")))
    (ggD : PySem.W.findIn K (.ref D) "__getattr__" = some none)
    (hdD : PySem.W.hasDictIn K D = true)
    (clD : PySem.W.findIn K (.ref D) "__class__" = some (some (.builtin "object.__class__")))
    (spD : PySem.W.specialIn K (.builtin "object.__class__") "__get__" = some (some (.builtin "getset_descriptor.__get__")))
    (tkD : PySem.W.takesIn K (.builtin "object.__class__") = some true)
    (mrD : PySem.W.mroIn K D (.type "object") = some true)
    (kV : PySem.W.kitOne K (.ref D) (.ref Vw) = some true)
    (kE : PySem.W.kitOne K (.ref D) (.type "ValueError") = some true)
    (kP : PySem.W.kitOne K (.ref D) (.ref Ip) = some false)
    : ∃ fd : FuncData, (∀ (s : Shared) (v : Value), BindsTo s fd ⟨[v], []⟩ [("script", v)]) ∧ ∀ base : Heap, K.In base → base.Ns mainGlobals mg → FnOk l.prog w K mg base CX0 13 fa fd ["script"] (spLaw K) := by
  have e := hfa.symm.trans (PySem.W.mg_of X G a26)
  cases e
  have F1 := fun_mk (st := s_Scanner___init__) l1 c1 k1
  have b1 := F1.binds (ps := ["self", "source"]) fun _ _ _ _ _ _ us hl => match us, hl with | [_, _], _ => rfl
  have F2 := fun_mk (st := s_Scanner_column_of) l2 c2 k2
  have b2 := F2.binds (ps := ["self", "at"]) fun _ _ _ _ _ _ us hl => match us, hl with | [_, _], _ => rfl
  have F3 := fun_mk (st := s_Scanner_fail) l3 c3 k3
  have b3 := F3.binds (ps := ["self", "at", "message"]) fun _ _ _ _ _ _ us hl => match us, hl with | [_, _, _], _ => rfl
  have F4 := fun_mk (st := s_Scanner_skip) l4 c4 k4
  have b4 := F4.binds (ps := ["self"]) fun _ _ _ _ _ _ us hl => match us, hl with | [_], _ => rfl
  have F5 := fun_mk (st := s_Scanner_token) l5 c5 k5
  have b5 := F5.binds (ps := ["self"]) fun _ _ _ _ _ _ us hl => match us, hl with | [_], _ => rfl
  have F6 := fun_mk (st := s_Scanner_next_sort) l6 c6 k6
  have b6 := F6.binds (ps := ["self"]) fun _ _ _ _ _ _ us hl => match us, hl with | [_], _ => rfl
  have F7 := fun_mk (st := s_Scanner_take_word) l7 c7 k7
  have b7 := F7.binds (ps := ["self", "sort"]) fun _ _ _ _ _ _ us hl => match us, hl with | [_, _], _ => rfl
  have F8 := fun_mk (st := s_Scanner_take_until) l8 c8 k8
  have b8 := F8.binds (ps := ["self", "end"]) fun _ _ _ _ _ _ us hl => match us, hl with | [_, _], _ => rfl
  have F9 := fun_mk (st := s_Scanner_take_name) l9 c9 k9
  have b9 := F9.binds (ps := ["self"]) fun _ _ _ _ _ _ us hl => match us, hl with | [_], _ => rfl
  have F10 := fun_mk (st := s_Scanner_take_number) l10 c10 k10
  have b10 := F10.binds (ps := ["self"]) fun _ _ _ _ _ _ us hl => match us, hl with | [_], _ => rfl
  have F11 := fun_mk (st := s_Scanner_take_sign) l11 c11 k11
  have b11 := F11.binds (ps := ["self"]) fun _ _ _ _ _ _ us hl => match us, hl with | [_], _ => rfl
  have F12 := fun_mk (st := s_Scanner_take_text) l12 c12 k12
  have b12 := F12.binds (ps := ["self"]) fun _ _ _ _ _ _ us hl => match us, hl with | [_], _ => rfl
  have F13 := fun_mk (st := s_Scanner_text_end) l13 c13 k13
  have b13 := F13.binds (ps := ["self"]) fun _ _ _ _ _ _ us hl => match us, hl with | [_], _ => rfl
  have F14 := fun_mk (st := s_is_letter) l14 c14 k14
  have b14 := F14.binds (ps := ["sign"]) fun _ _ _ _ _ _ us hl => match us, hl with | [_], _ => rfl
  have F15 := fun_mk (st := s_is_digit) l15 c15 k15
  have b15 := F15.binds (ps := ["sign"]) fun _ _ _ _ _ _ us hl => match us, hl with | [_], _ => rfl
  have F16 := fun_mk (st := s_is_word_sign) l16 c16 k16
  have b16 := F16.binds (ps := ["sign"]) fun _ _ _ _ _ _ us hl => match us, hl with | [_], _ => rfl
  have F17 := fun_mk (st := s_tokens) l17 c17 k17
  have b17 := F17.binds (ps := ["source"]) fun _ _ _ _ _ _ us hl => match us, hl with | [_], _ => rfl
  have F18 := fun_mk (st := s_parse_program) l18 c18 k18
  have b18 := F18.binds (ps := ["source"]) fun _ _ _ _ _ _ us hl => match us, hl with | [_], _ => rfl
  have F19 := fun_mk (st := s__law_cell) l19 c19 k19
  have b19 := F19.binds (ps := ["script", "k"]) fun _ _ _ _ _ _ us hl => match us, hl with | [_, _], _ => rfl
  have F20 := fun_mk (st := s__law_is_integer) l20 c20 k20
  have b20 := F20.binds (ps := ["told"]) fun _ _ _ _ _ _ us hl => match us, hl with | [_], _ => rfl
  have F21 := fun_mk (st := s__law_start) l21 c21 k21
  have b21 := F21.binds (ps := ["cell", "k"]) fun _ _ _ _ _ _ us hl => match us, hl with | [_, _], _ => rfl
  have F22 := fun_mk (st := s__law_digit) l22 c22 k22
  have b22 := F22.binds (ps := ["state", "many"]) fun _ _ _ _ _ _ us hl => match us, hl with | [_, _], _ => rfl
  have F23 := fun_mk (st := s__law_head) l23 c23 k23
  have b23 := F23.binds (ps := ["state"]) fun _ _ _ _ _ _ us hl => match us, hl with | [_], _ => rfl
  have F24 := fun_mk (st := s__law_bad) l24 c24 k24
  have b24 := F24.binds (ps := ["state"]) fun _ _ _ _ _ _ us hl => match us, hl with | [_], _ => rfl
  have F25 := fun_mk (st := s__law_refused) l25 c25 k25
  have b25 := F25.binds (ps := ["read", "source", "line", "column", "message"]) fun _ _ _ _ _ _ us hl => match us, hl with | [_, _, _, _, _], _ => rfl
  have F27 := fun_mk (st := s_Cursor___init__) l27 c27 k27
  have b27 := F27.binds (ps := ["self", "source"]) fun _ _ _ _ _ _ us hl => match us, hl with | [_, _], _ => rfl
  have T : Txt K w mg C := {
    cl := ⟨pg, hd, po, sa⟩,
    n_source := n_source,
    n_end := n_end,
    n_at := n_at,
    n_line := n_line,
    n_line_begin := n_line_begin,
    z_len := PySem.W.mg_none_of X G z_len,
    z_int := PySem.W.mg_none_of X G z_int,
    z_str := PySem.W.mg_none_of X G z_str,
    z_bool := PySem.W.mg_none_of X G z_bool,
    z_list := PySem.W.mg_none_of X G z_list,
    z_tuple := PySem.W.mg_none_of X G z_tuple,
    z_isinstance := PySem.W.mg_none_of X G z_isinstance,
    z_range := PySem.W.mg_none_of X G z_range,
    z_min := PySem.W.mg_none_of X G z_min,
    z_max := PySem.W.mg_none_of X G z_max,
    g_LONGEST_SOURCE := ⟨_, PySem.W.mg_of X G g_LONGEST_SOURCE, r_LONGEST_SOURCE⟩,
    g_LARGEST_NUMBER := ⟨_, PySem.W.mg_of X G g_LARGEST_NUMBER, r_LARGEST_NUMBER⟩,
    g_MOST_DIGITS := ⟨_, PySem.W.mg_of X G g_MOST_DIGITS, r_MOST_DIGITS⟩,
    g_SINGLES := ⟨_, PySem.W.mg_of X G g_SINGLES, r_SINGLES⟩,
    t_PAIRS := ⟨aPr, ⟨_, PySem.W.mg_of X G gP, rfl⟩, fun H => .inr ⟨_, _, _, lP, rfl, rfl, szP, vP⟩⟩,
    t_ESCAPES := ⟨aE, esE, nE, ⟨_, PySem.W.mg_of X G gE, rfl⟩, ⟨lE, litE, lowE⟩, ⟨_, e34, r34⟩, ⟨_, e92, r92⟩, ⟨_, e110, r110⟩⟩,
    d_is_letter := ⟨_, _, F14, PySem.W.mg_of X G a14, b14⟩,
    d_is_digit := ⟨_, _, F15, PySem.W.mg_of X G a15, b15⟩,
    d_is_word_sign := ⟨_, _, F16, PySem.W.mg_of X G a16, b16⟩,
    d_tokens := ⟨_, _, F17, PySem.W.mg_of X G a17, b17⟩,
    i_Scanner := ⟨_, _, F1, ⟨mk, a1, i1, kc⟩, PySem.W.mg_of X G aC, b1⟩,
    m_column_of := ⟨_, _, F2, ⟨a2, i2, k2⟩, b2⟩,
    m_skip := ⟨_, _, F4, ⟨a4, i4, k4⟩, b4⟩,
    m_token := ⟨_, _, F5, ⟨a5, i5, k5⟩, b5⟩,
    m_next_sort := ⟨_, _, F6, ⟨a6, i6, k6⟩, b6⟩,
    m_take_word := ⟨_, _, F7, ⟨a7, i7, k7⟩, b7⟩,
    m_take_until := ⟨_, _, F8, ⟨a8, i8, k8⟩, b8⟩,
    m_take_name := ⟨_, _, F9, ⟨a9, i9, k9⟩, b9⟩,
    m_take_number := ⟨_, _, F10, ⟨a10, i10, k10⟩, b10⟩,
    m_take_sign := ⟨_, _, F11, ⟨a11, i11, k11⟩, b11⟩,
    m_take_text := ⟨_, _, F12, ⟨a12, i12, k12⟩, b12⟩,
    m_text_end := ⟨_, _, F13, ⟨a13, i13, k13⟩, b13⟩ }
  have bI : Binds K (isFd cc cda kVI dcI pmI anI ctI) ["self", "line", "column", "message"] [] := .all fun us hl => match us, hl with | [_, _, _, _], _ => rfl
  have O : OexC K D := ⟨⟨_, _, _, _, _, _, _, _, _, _, _, _, _, _, _, lD, bmR⟩, saD, exD, tyD, kD⟩
  have TI : TxtI l.prog K mg D := ⟨⟨fI, cc, cda, kVI, dcI, pmI, ctI, anI, ⟨⟨_, _, _, lI⟩, cI, ⟨_, _, _, ceI⟩, ⟨_, _, _, _, _, _, coI, vsI, fiI⟩, ⟨_, clI⟩, sbI, PySem.W.mg_none_of X G z_super, opI, alI, svI, tpI⟩, iI, tI, bI⟩, O, m_line, m_column, m_message, PySem.W.mg_of X G gI⟩
  have NE : NoEsc K mg := ⟨aE, ⟨_, PySem.W.mg_of X G gE, rfl⟩, fun x hx => by
    simp only [List.mem_cons, List.not_mem_nil, or_false] at hx
    rcases hx with rfl | rfl | rfl | rfl | rfl | rfl
    · exact o97
    · exact o98
    · exact o116
    · exact o48
    · exact o32
    · exact o47⟩
  have TR : TxtR l.prog K w mg C D C2 Vw Ip := ⟨T, TI, ⟨_, _, F3, ⟨a3, i3, k3⟩, b3⟩, NE, ⟨_, _, F27, ⟨mk2, a27, i27, kc2⟩, PySem.W.mg_of X G aK, b27⟩, ⟨_, _, F18, PySem.W.mg_of X G a18, b18⟩, ⟨_, _, F25, PySem.W.mg_of X G a25, b25⟩, ⟨_, _, F20, PySem.W.mg_of X G a20, b20⟩, ⟨_, PySem.W.mg_of X G aV, rfl⟩, ⟨_, PySem.W.mg_of X G aP, rfl⟩, PySem.W.mg_none_of X G z_ValueError,
    PySem.W.exm_ref exD hdD tyD ssD, ⟨gaD, ggD, exD, hdD⟩, ⟨gaD, ggD, exD, hdD, clD, spD, tkD, mrD⟩, kV, kE, kP⟩
  have TD : TxtD K mg := ⟨⟨_, _, F19, PySem.W.mg_of X G a19, b19⟩, ⟨_, _, F21, PySem.W.mg_of X G a21, b21⟩, ⟨_, _, F22, PySem.W.mg_of X G a22, b22⟩, ⟨_, _, F23, PySem.W.mg_of X G a23, b23⟩, ⟨_, _, F24, PySem.W.mg_of X G a24, b24⟩⟩
  exact ⟨_, fun s v => .of_eq rfl, fun base _ _ => ok_law (fun_mk (st := s_law) l26 c26 k26) TR TD⟩
theorem walk {l : PySem.W.OpenLaw} {q : Program} {loose : List Str} {XP : (Str → Option Value) → Heap → Prop} {YP : World → Heap → Prop} {d : DefRec} {K : Params → PySem.W.Frag} (hn : l.most = some 63) (hdf : d.params.defaults = [])
    (hY : ∀ (w : World) (h : Heap), YP w h → (K w.params).In h)
    (F : ∀ (w : World) (mg : Str → Option Value) (fa : Addr) (h : Heap), (K w.params).In h → h.Ns mainGlobals mg → mg d.name = some (.ref fa) →
      ∃ fd : FuncData, (∀ (s : Shared) (u : Value), BindsTo s fd ⟨[u], []⟩ [("script", u)]) ∧ ∀ base : Heap, (K w.params).In base → base.Ns mainGlobals mg → FnOk l.prog w (K w.params) mg base CX0 13 fa fd ["script"] (spLaw (K w.params))) :
    PySem.W.WalkO q loose XP YP l.row.toRowW d [] (fun f vs => PySem.call f vs) :=
  L2.walk_of (n := 63) (k := 13) (x := "script") (CX := fun _ => CX0) (sp := fun w => spLaw (K w.params)) hn (by decide) hdf ⟨rfl, by decide, by decide⟩ hY F (fun _ _ a ns hl _ hS => ⟨a, ns, rfl, hS, hl, fun _ => rfl⟩) fun _ _ _ _ _ z => z
end VL

open PySem PySem.W PyProof.Rows in
set_option maxRecDepth 100000 in
set_option maxHeartbeats 0 in
theorem PySem.Challenge.cw_viewloom_k02_faults_of_tokens_holds : PySem.Challenge.rw_viewloom_k02_faults_of_tokens.Holds := by
  w_on; o_law; k_head; (case hw => w_witness2)
  k_fill
  refine VL.walk (l := PySem.Challenge.rw_viewloom_k02_faults_of_tokens) rfl rfl (fun w h Y => PySem.W.kIn_of Y) ?F
  case F =>
    intro w mg fa h KX G hmg
    refine' VL.all_mk (l := PySem.Challenge.rw_viewloom_k02_faults_of_tokens) KX G hmg ?aC ?gI ?aV ?aP ?aK ?a1 ?i1 ?l1 ?c1 ?k1 ?a2 ?i2 ?l2 ?c2 ?k2 ?a3 ?i3 ?l3 ?c3 ?k3 ?a4 ?i4 ?l4 ?c4 ?k4 ?a5 ?i5 ?l5 ?c5 ?k5 ?a6 ?i6 ?l6 ?c6 ?k6 ?a7 ?i7 ?l7 ?c7 ?k7 ?a8 ?i8 ?l8 ?c8 ?k8 ?a9 ?i9 ?l9 ?c9 ?k9 ?a10 ?i10 ?l10 ?c10 ?k10 ?a11 ?i11 ?l11 ?c11 ?k11 ?a12 ?i12 ?l12 ?c12 ?k12 ?a13 ?i13 ?l13 ?c13 ?k13 ?a14 ?l14 ?c14 ?k14 ?a15 ?l15 ?c15 ?k15 ?a16 ?l16 ?c16 ?k16 ?a17 ?l17 ?c17 ?k17 ?a18 ?l18 ?c18 ?k18 ?a19 ?l19 ?c19 ?k19 ?a20 ?l20 ?c20 ?k20 ?a21 ?l21 ?c21 ?k21 ?a22 ?l22 ?c22 ?k22 ?a23 ?l23 ?c23 ?k23 ?a24 ?l24 ?c24 ?k24 ?a25 ?l25 ?c25 ?k25 ?a26 ?l26 ?c26 ?k26 ?a27 ?i27 ?l27 ?c27 ?k27 ?pg ?hd ?po ?sa ?mk ?kc ?mk2 ?kc2 ?n_source ?n_end ?n_at ?n_line ?n_line_begin ?z_len ?z_int ?z_str ?z_bool ?z_list ?z_tuple ?z_isinstance ?z_range ?z_min ?z_max ?z_ValueError ?z_super ?g_LONGEST_SOURCE ?r_LONGEST_SOURCE ?g_LARGEST_NUMBER ?r_LARGEST_NUMBER ?g_MOST_DIGITS ?r_MOST_DIGITS ?g_SINGLES ?r_SINGLES ?gP ?lP ?szP ?vP ?gE ?lE ?litE ?lowE ?e34 ?r34 ?e92 ?r92 ?e110 ?r110 ?o97 ?o98 ?o116 ?o48 ?o32 ?o47 ?iI ?tI ?lI ?cI ?ceI ?coI ?vsI ?fiI ?clI ?sbI ?opI ?alI ?svI ?tpI ?lD ?bmR ?saD ?exD ?tyD ?kD ?m_line ?m_column ?m_message ?ssD ?gaD ?ggD ?hdD ?clD ?spD ?tkD ?mrD ?kV ?kE ?kP
    (case aC => k_is)
    (case gI => k_is)
    (case aV => k_is)
    (case aP => k_is)
    (case aK => k_is)
    (case a1 => k_is)
    (case i1 => k_is)
    (case l1 => k_is)
    (case c1 => k_is)
    (case k1 => k_is)
    (case a2 => k_is)
    (case i2 => k_is)
    (case l2 => k_is)
    (case c2 => k_is)
    (case k2 => k_is)
    (case a3 => k_is)
    (case i3 => k_is)
    (case l3 => k_is)
    (case c3 => k_is)
    (case k3 => k_is)
    (case a4 => k_is)
    (case i4 => k_is)
    (case l4 => k_is)
    (case c4 => k_is)
    (case k4 => k_is)
    (case a5 => k_is)
    (case i5 => k_is)
    (case l5 => k_is)
    (case c5 => k_is)
    (case k5 => k_is)
    (case a6 => k_is)
    (case i6 => k_is)
    (case l6 => k_is)
    (case c6 => k_is)
    (case k6 => k_is)
    (case a7 => k_is)
    (case i7 => k_is)
    (case l7 => k_is)
    (case c7 => k_is)
    (case k7 => k_is)
    (case a8 => k_is)
    (case i8 => k_is)
    (case l8 => k_is)
    (case c8 => k_is)
    (case k8 => k_is)
    (case a9 => k_is)
    (case i9 => k_is)
    (case l9 => k_is)
    (case c9 => k_is)
    (case k9 => k_is)
    (case a10 => k_is)
    (case i10 => k_is)
    (case l10 => k_is)
    (case c10 => k_is)
    (case k10 => k_is)
    (case a11 => k_is)
    (case i11 => k_is)
    (case l11 => k_is)
    (case c11 => k_is)
    (case k11 => k_is)
    (case a12 => k_is)
    (case i12 => k_is)
    (case l12 => k_is)
    (case c12 => k_is)
    (case k12 => k_is)
    (case a13 => k_is)
    (case i13 => k_is)
    (case l13 => k_is)
    (case c13 => k_is)
    (case k13 => k_is)
    (case a14 => k_is)
    (case l14 => k_is)
    (case c14 => k_is)
    (case k14 => k_is)
    (case a15 => k_is)
    (case l15 => k_is)
    (case c15 => k_is)
    (case k15 => k_is)
    (case a16 => k_is)
    (case l16 => k_is)
    (case c16 => k_is)
    (case k16 => k_is)
    (case a17 => k_is)
    (case l17 => k_is)
    (case c17 => k_is)
    (case k17 => k_is)
    (case a18 => k_is)
    (case l18 => k_is)
    (case c18 => k_is)
    (case k18 => k_is)
    (case a19 => k_is)
    (case l19 => k_is)
    (case c19 => k_is)
    (case k19 => k_is)
    (case a20 => k_is)
    (case l20 => k_is)
    (case c20 => k_is)
    (case k20 => k_is)
    (case a21 => k_is)
    (case l21 => k_is)
    (case c21 => k_is)
    (case k21 => k_is)
    (case a22 => k_is)
    (case l22 => k_is)
    (case c22 => k_is)
    (case k22 => k_is)
    (case a23 => k_is)
    (case l23 => k_is)
    (case c23 => k_is)
    (case k23 => k_is)
    (case a24 => k_is)
    (case l24 => k_is)
    (case c24 => k_is)
    (case k24 => k_is)
    (case a25 => k_is)
    (case l25 => k_is)
    (case c25 => k_is)
    (case k25 => k_is)
    (case a26 => k_is)
    (case l26 => k_is)
    (case c26 => k_is)
    (case k26 => k_is)
    (case a27 => k_is)
    (case i27 => k_is)
    (case l27 => k_is)
    (case c27 => k_is)
    (case k27 => k_is)
    (case pg => k_is)
    (case hd => k_is)
    (case po => k_is)
    (case sa => k_is)
    (case mk => k_is)
    (case kc => k_is)
    (case mk2 => k_is)
    (case kc2 => k_is)
    (case n_source => k_is)
    (case n_end => k_is)
    (case n_at => k_is)
    (case n_line => k_is)
    (case n_line_begin => k_is)
    (case z_len => k_is)
    (case z_int => k_is)
    (case z_str => k_is)
    (case z_bool => k_is)
    (case z_list => k_is)
    (case z_tuple => k_is)
    (case z_isinstance => k_is)
    (case z_range => k_is)
    (case z_min => k_is)
    (case z_max => k_is)
    (case z_ValueError => k_is)
    (case z_super => k_is)
    (case g_LONGEST_SOURCE => k_is)
    (case r_LONGEST_SOURCE => exact ⟨_, rfl⟩)
    (case g_LARGEST_NUMBER => k_is)
    (case r_LARGEST_NUMBER => exact ⟨_, rfl⟩)
    (case g_MOST_DIGITS => k_is)
    (case r_MOST_DIGITS => exact ⟨_, rfl⟩)
    (case g_SINGLES => k_is)
    (case r_SINGLES => exact ⟨_, rfl⟩)
    (case gP => k_is)
    (case lP => k_is)
    (case szP => show 7 ≤ sizeLine; decide)
    (case vP => exact (.cons ⟨_, rfl⟩ (.cons ⟨_, rfl⟩ (.cons ⟨_, rfl⟩ (.cons ⟨_, rfl⟩ (.cons ⟨_, rfl⟩ (.cons ⟨_, rfl⟩ (.cons ⟨_, rfl⟩ .nil))))))))
    (case gE => k_is)
    (case lE => k_is)
    (case litE => k_keys)
    (case lowE => decide)
    (case e34 => k_is)
    (case r34 => exact ⟨_, rfl⟩)
    (case e92 => k_is)
    (case r92 => exact ⟨_, rfl⟩)
    (case e110 => k_is)
    (case r110 => exact ⟨_, rfl⟩)
    (case o97 => k_is)
    (case o98 => k_is)
    (case o116 => k_is)
    (case o48 => k_is)
    (case o32 => k_is)
    (case o47 => k_is)
    (case iI => k_is)
    (case tI => k_is)
    (case lI => k_is)
    (case cI => k_is)
    (case ceI => k_is)
    (case coI => k_is)
    (case vsI => rfl)
    (case fiI => first | rfl | decide +kernel)
    (case clI => k_is)
    (case sbI => k_is)
    (case opI => k_is)
    (case alI => ks_is)
    (case svI => k_is)
    (case tpI => first | rfl | decide +kernel)
    (case lD => k_is)
    (case bmR => first | rfl | decide +kernel)
    (case saD => k_is)
    (case exD => k_is)
    (case tyD => k_is)
    (case kD => k_is)
    (case m_line => k_is)
    (case m_column => k_is)
    (case m_message => k_is)
    (case ssD => first | rfl | k_is)
    (case gaD => k_is)
    (case ggD => k_is)
    (case hdD => k_is)
    (case clD => k_is)
    (case spD => k_is)
    (case tkD => k_is)
    (case mrD => k_is)
    (case kV => kit_is)
    (case kE => kit_is)
    (case kP => kit_is)
#print axioms PySem.Challenge.cw_viewloom_k02_faults_of_tokens_holds
