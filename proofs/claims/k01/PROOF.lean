import PyProof.Rows.All
import Wide.All
import OpenK.AllK
import Wide.FinOn
import HandS.ForMost
import HandS.More
import HandS.StrMore
import HandS.Codes
import HandS.IsInst
import HandS.Steps
import HandS.Walk
import HandS.TupAny
import PySem.Challenge.RW_viewloom_k01_tokens_of_built_sources
set_option Elab.async false
set_option linter.all false
set_option maxRecDepth 100000
set_option maxHeartbeats 4000000
namespace VL
open PySem PySem.Spec PyProof.Rows L2

/-! ### texts as lists of signs -/
abbrev TX (l : List Nat) : Str := ⟨l.toArray⟩
theorem TX_tl (l : List Nat) : (TX l).cps.toList = l := by simp
theorem TX_len (l : List Nat) : (TX l).length = l.length := by simp [Str.length]
theorem TX_cat (a b : List Nat) : TX a ++ TX b = TX (a ++ b) := SX.S_cat a b
theorem TX_inj {a b : List Nat} (h : TX a = TX b) : a = b := SX.S_inj h
theorem vstr_TX {a b : List Nat} : decide (V.str (TX a) = V.str (TX b)) = decide (a = b) := by
  by_cases e : a = b
  · subst e; simp
  · have : ¬ V.str (TX a) = V.str (TX b) := fun q => e (TX_inj (V.str.inj q))
    rw [decide_eq_false this, decide_eq_false e]
theorem one_eq {c d : Nat} : decide (V.str (TX [c]) = V.str (TX [d])) = decide (c = d) := by
  rw [vstr_TX]
  by_cases e : c = d
  · subst e; simp
  · simp [e]
/-- the sign at a place -/
theorem at_mid {pre r : List Nat} {c : Nat} {i : Int} (hi : i = (pre.length : Int)) : atI (TX (pre ++ c :: r)).cps.toList i = some c := by
  subst hi
  rw [TX_tl]
  unfold atI ixN
  rw [if_pos (by omega), if_pos (by simp; omega)]
  show (pre ++ c :: r)[(pre.length : Int).toNat]? = _
  rw [Int.toNat_natCast]
  simp
theorem getD_TX (l : List Nat) (v : Nat) : (TX l).cps.getD v 0 = l.getD v 0 := by
  simp only [Array.getD, List.getD_eq_getElem?_getD]
  by_cases h : v < l.length
  · rw [dif_pos (by simpa using h)]
    simp [h]
  · rw [dif_neg (by simpa using h), List.getElem?_eq_none (by omega)]
    rfl
theorem lt_one {c d : Nat} : ([c] < [d]) ↔ c < d := by
  constructor
  · intro h
    cases h with
    | rel h => exact h
    | cons h => cases h
  · intro h
    exact .rel h
/-- s.startswith(y, i) -/
theorem starts_at {pre R y : List Nat} {i : Int} (hi : i = (pre.length : Int)) : Txt.startswith3 (TX (pre ++ R)) (TX y) i = (R.take y.length == y) := by
  subst hi
  have e : fromIndex (TX (pre ++ R)).length (pre.length : Int) = pre.length := by
    unfold fromIndex
    rw [if_neg (by omega)]
    omega
  unfold Txt.startswith3
  rw [e, StrLaws.subAt_eq]
  have h1 : (TX (pre ++ R)).cps.toList.drop pre.length = R := by simp
  rw [h1, TX_len, TX_len]
  show (decide (pre.length + y.length ≤ (pre ++ R).length) && (R.take y.length == (TX y).cps.toList)) = _
  rw [TX_tl, List.length_append]
  by_cases h : y.length ≤ R.length
  · rw [decide_eq_true (by omega)]
    rfl
  · rw [decide_eq_false (by omega)]
    have : (R.take y.length == y) = false := by
      refine beq_eq_false_iff_ne.mpr fun q => h ?_
      have := congrArg List.length q
      rw [List.length_take] at this
      omega
    rw [this]
    rfl
/-- s.find("\n", i) -/
theorem find_nl {pre c r : List Nat} {d : Nat} {i : Int} (hi : i = (pre.length : Int)) (hc : d ∉ c) : Txt.find3 (TX (pre ++ (c ++ d :: r))) (TX [d]) i = ((pre.length + c.length : Nat) : Int) := by
  subst hi
  have e : fromIndex (TX (pre ++ (c ++ d :: r))).length (pre.length : Int) = pre.length := by
    unfold fromIndex
    rw [if_neg (by omega)]
    omega
  have hg : ∀ v, v < (pre ++ (c ++ d :: r)).length → (TX (pre ++ (c ++ d :: r))).cps.getD v 0 = (pre ++ (c ++ d :: r)).getD v 0 := fun v _ => getD_TX _ v
  have hat : (pre ++ (c ++ d :: r)).getD (pre.length + c.length) 0 = d := by simp [List.getD_eq_getElem?_getD]
  have hlt : pre.length + c.length < (pre ++ (c ++ d :: r)).length := by rw [List.length_append, List.length_append, List.length_cons]; omega
  rcases StrLaws.find3_spec (TX (pre ++ (c ++ d :: r))) d (pre.length : Int) with ⟨_, h2⟩ | ⟨k, h1, h2, h3, h4, h5⟩
  · rw [e, TX_len] at h2
    exact absurd (by rw [hg _ hlt]; exact hat) (h2 (pre.length + c.length) (by omega) hlt)
  · rw [e] at h2 h5
    rw [TX_len] at h3
    rw [h1]
    have hk : k = pre.length + c.length := by
      rcases Nat.lt_trichotomy k (pre.length + c.length) with q | q | q
      · exfalso
        rw [hg k h3] at h4
        have e3 : (pre ++ (c ++ d :: r)).getD k 0 = c.getD (k - pre.length) 0 := by
          rw [List.getD_eq_getElem?_getD, List.getD_eq_getElem?_getD, List.getElem?_append_right h2, List.getElem?_append_left (by omega)]
        rw [e3] at h4
        apply hc
        have hlt2 : k - pre.length < c.length := by omega
        rw [List.getD_eq_getElem?_getD, List.getElem?_eq_getElem hlt2] at h4
        have h4 : c[k - pre.length] = d := h4
        rw [← h4]
        exact List.getElem_mem hlt2
      · exact q
      · exfalso
        exact h5 (pre.length + c.length) (by omega) q (by rw [hg _ hlt]; exact hat)
    rw [hk]
/-- s[i:j] -/
theorem cut_mid {pre m r : List Nat} {i j : Int} (hi : i = (pre.length : Int)) (hj : j = ((pre.length + m.length : Nat) : Int)) : cutS (TX (pre ++ (m ++ r))) (some i) (some j) = TX m := by
  subst hi hj
  unfold cutS
  rw [TX_len, HT.sIx_nat, HT.sIx_nat, TX_tl]
  have e1 : min pre.length (pre ++ (m ++ r)).length = pre.length := by simp
  have e2 : min (pre.length + m.length) (pre ++ (m ++ r)).length = pre.length + m.length := by simp
  rw [e1, e2]
  refine congrArg TX ?_
  rw [List.drop_left, Nat.add_sub_cancel_left, List.take_left]

/-! ### rows -/
def rws : List Nat → List Nat → List (List Nat)
  | acc, [] => [acc]
  | acc, c :: r => if c = 10 then acc :: rws [] r else rws (acc ++ [c]) r
theorem spl_rws : ∀ (l acc : List Nat), TL.spl [10] 0 acc l = rws acc l
  | [], acc => by rw [TL.spl_nil]; rfl
  | c :: r, acc => by
    unfold rws
    by_cases h : c = 10
    · subst h
      rw [if_pos rfl, TL.spl_hit (by rfl)]
      exact congrArg (acc :: ·) (spl_rws r [])
    · rw [if_neg h, TL.spl_miss (by
        show TL.pre [10] (c :: r) = false
        unfold TL.pre
        simp [h])]
      exact spl_rws r _
theorem rws_ne : ∀ (l acc : List Nat), rws acc l ≠ []
  | [], acc => by unfold rws; simp
  | c :: r, acc => by
    unfold rws
    split
    · simp
    · exact rws_ne r _
def lnOf (l : List Nat) : Nat := (rws [] l).length
def clOf (l : List Nat) : Nat := ((rws [] l).getLast (rws_ne _ _)).length
theorem rws_plain : ∀ (l acc m : List Nat), 10 ∉ m → ∃ fr la, rws acc l = fr ++ [la] ∧ rws acc (l ++ m) = fr ++ [la ++ m]
  | [], acc, m, h => by
    refine ⟨[], acc, rfl, ?_⟩
    show rws acc m = [acc ++ m]
    induction m generalizing acc with
    | nil => rw [List.append_nil]; rfl
    | cons c m ih =>
      have hc : c ≠ 10 := fun e => h (by rw [e]; exact List.mem_cons_self)
      unfold rws
      rw [if_neg hc, ih _ fun e => h (List.mem_cons_of_mem _ e), List.append_assoc]
      rfl
  | c :: r, acc, m, h => by
    rw [List.cons_append]
    unfold rws
    by_cases hc : c = 10
    · rw [if_pos hc, if_pos hc]
      obtain ⟨fr, la, e1, e2⟩ := rws_plain r [] m h
      exact ⟨acc :: fr, la, by rw [e1]; rfl, by rw [e2]; rfl⟩
    · rw [if_neg hc, if_neg hc]
      exact rws_plain r _ m h
theorem rws_nl : ∀ (l acc : List Nat), rws acc (l ++ [10]) = rws acc l ++ [[]]
  | [], acc => by
    show rws acc [10] = [acc] ++ [[]]
    unfold rws
    rw [if_pos rfl]
    rfl
  | c :: r, acc => by
    rw [List.cons_append]
    unfold rws
    split
    · rw [rws_nl r []]; rfl
    · exact rws_nl r _
theorem getLast_of {α : Type} {l fr : List α} {la : α} (h : l ≠ []) (e : l = fr ++ [la]) : l.getLast h = la := by
  subst e
  simp
theorem ln_plain (l m : List Nat) (h : 10 ∉ m) : lnOf (l ++ m) = lnOf l := by
  obtain ⟨fr, la, e1, e2⟩ := rws_plain l [] m h
  unfold lnOf
  rw [e1, e2]
  simp
theorem cl_plain (l m : List Nat) (h : 10 ∉ m) : clOf (l ++ m) = clOf l + m.length := by
  obtain ⟨fr, la, e1, e2⟩ := rws_plain l [] m h
  unfold clOf
  rw [getLast_of _ e1, getLast_of _ e2, List.length_append]
theorem ln_nl (l : List Nat) : lnOf (l ++ [10]) = lnOf l + 1 := by
  unfold lnOf
  rw [rws_nl]
  simp
theorem cl_nl (l : List Nat) : clOf (l ++ [10]) = 0 := by
  unfold clOf
  rw [getLast_of _ (rws_nl l [])]
  rfl
theorem cl_le : ∀ l : List Nat, clOf l ≤ l.length := by
  intro l
  have : ∀ (l acc : List Nat), ((rws acc l).getLast (rws_ne _ _)).length ≤ acc.length + l.length := by
    intro l
    induction l with
    | nil => intro acc; simp [rws]
    | cons c r ih =>
      intro acc
      by_cases hc : c = 10
      · have e : rws acc (c :: r) = acc :: rws [] r := by
          show (if c = 10 then _ else _) = _
          rw [if_pos hc]
        have e2 : (rws acc (c :: r)).getLast (rws_ne _ _) = (rws [] r).getLast (rws_ne _ _) := by
          simp only [e]
          exact List.getLast_cons (rws_ne _ _)
        rw [e2]
        have := ih []
        simp at this ⊢
        omega
      · have e : rws acc (c :: r) = rws (acc ++ [c]) r := by
          show (if c = 10 then _ else _) = _
          rw [if_neg hc]
        have e2 : (rws acc (c :: r)).getLast (rws_ne _ _) = (rws (acc ++ [c]) r).getLast (rws_ne _ _) := by simp only [e]
        rw [e2]
        have := ih (acc ++ [c])
        simp at this ⊢
        omega
  have := this l []
  simpa [clOf] using this
/-- row = source.split("\n"): how many, and the last one's length -/
theorem split_rows (l : List Nat) : Txt.split (TX l) (TX [10]) = (rws [] l).map TX := by
  have := SX.split_S (a := l) (b := [10]) (by simp) (by decide)
  rw [spl_rws] at this
  exact this
theorem rows_last (l : List Nat) : ∃ la : List Nat, atI ((rws [] l).map fun r => V.str (TX r)) (-1) = some (.str (TX la)) ∧ la.length = clOf l := by
  refine ⟨(rws [] l).getLast (rws_ne _ _), ?_, rfl⟩
  have hp : 0 < (rws [] l).length := List.length_pos_iff.mpr (rws_ne _ _)
  unfold atI ixN
  rw [if_neg (by decide), if_pos (by rw [List.length_map]; omega)]
  show ((rws [] l).map fun r => V.str (TX r))[_]? = _
  have e : (-1 + (((rws [] l).map fun r => V.str (TX r)).length : Int)).toNat = (rws [] l).length - 1 := by rw [List.length_map]; omega
  rw [e, List.getElem?_map, List.getElem?_eq_getElem (by omega), List.getLast_eq_getElem]
  rfl

/-! ### signs -/
def isLet (c : Nat) : Bool := (decide (97 ≤ c) && decide (c ≤ 122)) || (decide (65 ≤ c) && decide (c ≤ 90))
def isDig (c : Nat) : Bool := decide (48 ≤ c) && decide (c ≤ 57)
def isWs (c : Nat) : Bool := isLet c || isDig c || decide (c = 95)
end VL

set_option Elab.async false
set_option linter.all false
set_option maxRecDepth 100000
set_option maxHeartbeats 4000000
namespace VL
open PySem PySem.Spec PyProof.Rows L2

/-! ### defs, methods, classes, as callers see them -/
structure Cal (P : Program) (w : World) (K : PySem.W.Frag) (mg : Str → Option Value) (base : Heap) (k : Nat) (x : Str) (sp : Sp) : Prop where
  ex : ∃ (f : Addr) (fd : FuncData) (ps : List Str), FnOk P w K mg base CX0 k f fd ps sp ∧ mg x = some (.ref f) ∧ PySem.W.keepIn K (.ref f) = true ∧ Binds K fd ps []
structure Met (P : Program) (w : World) (K : PySem.W.Frag) (mg : Str → Option Value) (base : Heap) (k : Nat) (C : Addr) (m : Str) (sp : Sp) : Prop where
  ex : ∃ (f : Addr) (fd : FuncData) (ps : List Str), Cls K C ∧ Meth K C m f ∧ FnOk P w K mg base CX0 k f fd ps sp ∧ Binds K fd ps []
structure Mak (P : Program) (w : World) (K : PySem.W.Frag) (mg : Str → Option Value) (base : Heap) (k : Nat) (x : Str) (C : Addr) (sp : Sp) : Prop where
  ex : ∃ (f : Addr) (fd : FuncData) (ps : List Str), Mk K C f ∧ FnOk P w K mg base CX0 k f fd ps sp ∧ mg x = some (.ref C) ∧ Binds K fd ps []
section
variable {X : Cx} {k j : Nat} {C : Addr} {x m : Str} {sp : Sp} {p pos apos : Pos} {e o : Expr} {es : List Expr} {ta : TE} {t : TA}
theorem pe_c (c : Cal X.prog X.w X.K X.mg X.base k x sp) (hr : Room j X.A) (hk : k ≤ j) (hg : Gl X x) (ha : PA X (e :: es) t)
    (hdb : (x == ("__debug__" : Str)) = false := by decide) (he : starEach (e :: es) X.env = (false, eval e X.env) :: starEach es X.env := by rfl) (hpl : (backTo pos (starEach es X.env)).any (·.1) = false := by rfl) :
    PE X (.Call (.Name x p) (e :: es) [] pos) (tCall sp [] E0 t) := by
  obtain ⟨f, fd, ps, F, hm, kp, b⟩ := c.ex
  exact pe_call F (hr.mono hk) hg hm kp b .nil pass0 ha hdb he hpl
theorem pe_mk (c : Mak X.prog X.w X.K X.mg X.base k x C sp) (hr : Room j X.A) (hk : k + 1 ≤ j) (hg : Gl X x) (ha : PA X (e :: es) t)
    (hdb : (x == ("__debug__" : Str)) = false := by decide) (he : starEach (e :: es) X.env = (false, eval e X.env) :: starEach es X.env := by rfl) (hpl : (backTo pos (starEach es X.env)).any (·.1) = false := by rfl) :
    PE X (.Call (.Name x p) (e :: es) [] pos) (tMake C sp [] E0 t) := by
  obtain ⟨f, fd, ps, M, F, hm, b⟩ := c.ex
  exact pe_make M F (hr.mono hk) hg hm b .nil pass0 ha hdb he hpl
theorem pe_mk0 (c : Mak X.prog X.w X.K X.mg X.base k x C sp) (hr : Room j X.A) (hk : k + 1 ≤ j) (hg : Gl X x) (hdb : (x == ("__debug__" : Str)) = false := by decide) :
    PE X (.Call (.Name x p) [] [] pos) (tMake C sp [] E0 tNil) := by
  obtain ⟨f, fd, ps, M, F, hm, b⟩ := c.ex
  exact pe_make0 M F (hr.mono hk) hg hm b .nil pass0 hdb
theorem pe_mt {pl : Sem Bool} (c : Met X.prog X.w X.K X.mg X.base k C m sp) (hr : Room j X.A) (hk : k ≤ j) (he : PE X o ta) (ha : PA X (e :: es) t)
    (hst : starEach (e :: es) X.env = (false, eval e X.env) :: starEach es X.env := by rfl) (hpl : (backTo pos (starEach es X.env)).any (·.1) = false := by rfl)
    (ht : eval (.Call (.Attribute o m apos) (e :: es) [] pos) X.env = (do
      let ov ← eval o X.env
      standAt apos.atName
      let (f, first) ← holding [ov] (getMethod ov m pl)
      callWith pos f first (backTo pos (starEach (e :: es) X.env)) (backToKw pos (keywordEach [] X.env))) := by rfl) :
    PE X (.Call (.Attribute o m apos) (e :: es) [] pos) (tMeth C m sp [] E0 ta t) := by
  obtain ⟨f, fd, ps, hc, hm, F, b⟩ := c.ex
  exact pe_meth (pl := pl) he hc hm F (hr.mono hk) b .nil pass0 ha hst hpl ht
theorem pe_mt0 {pl : Sem Bool} (c : Met X.prog X.w X.K X.mg X.base k C m sp) (hr : Room j X.A) (hk : k ≤ j) (he : PE X o ta)
    (ht : eval (.Call (.Attribute o m apos) [] [] pos) X.env = (do
      let ov ← eval o X.env
      standAt apos.atName
      let (f, first) ← holding [ov] (getMethod ov m pl)
      callWith pos f first (backTo pos (starEach [] X.env)) (backToKw pos (keywordEach [] X.env))) := by rfl) :
    PE X (.Call (.Attribute o m apos) [] [] pos) (tMeth C m sp [] E0 ta tNil) := by
  obtain ⟨f, fd, ps, hc, hm, F, b⟩ := c.ex
  exact pe_meth0 (pl := pl) he hc hm F (hr.mono hk) b .nil pass0 ht
end

/-! ### what the text has -/
def DefE (K : PySem.W.Frag) (mg : Str → Option Value) (x : Str) (st : Stmt) (ps : List Str) : Prop := ∃ (f : Addr) (fd : FuncData), Fun K x x st f fd ∧ mg x = some (.ref f) ∧ Binds K fd ps []
def MethE (K : PySem.W.Frag) (C : Addr) (x qual : Str) (st : Stmt) (ps : List Str) : Prop := ∃ (f : Addr) (fd : FuncData), Fun K x qual st f fd ∧ Meth K C x f ∧ Binds K fd ps []
def InitE (K : PySem.W.Frag) (mg : Str → Option Value) (cn : Str) (C : Addr) (qual : Str) (st : Stmt) (ps : List Str) : Prop := ∃ (f : Addr) (fd : FuncData), Fun K "__init__" qual st f fd ∧ Mk K C f ∧ mg cn = some (.ref C) ∧ Binds K fd ps []
/-- a global name of the module has the value v -/
abbrev GV (mg : Str → Option Value) (x : Str) (v : V) : Prop := ∃ u, mg x = some u ∧ RelV v u
section
variable {P : Program} {w : World} {K : PySem.W.Frag} {mg : Str → Option Value} {base : Heap}
theorem cal_of {x : Str} {st : Stmt} {ps N : List Str} {k : Nat} {sp : Sp} (D : DefE K mg x st ps) (S : FnScope N ps (defScope st)) (len : ∀ vs H Q E, sp vs H Q E → vs.length = ps.length)
    (hbody : ∀ (f : Addr) (cdv : Value) (A : Around) (outer : List Env) (s : Shared) (H : Hp) (vs : List V) (Q : VK) (E : XK), Room k (A.deeper (envOfC x (defScope st) s.heap.objs.size f cdv)) → sp vs H Q E →
      ∃ t, PSs (cxOf CX0 P w K mg base N x (defScope st) f cdv A outer s H E).nox (defBody st) t ∧ t { nx := fun _ H' => Q .non H', rt := Q } (start N vs) H) : Cal P w K mg base (k + 1) x sp := by
  obtain ⟨f, fd, F, hm, b⟩ := D
  exact ⟨f, fd, ps, F.ok S len (hbody f), hm, F.kp, b⟩
theorem met_of {C : Addr} {x qual : Str} {st : Stmt} {ps N : List Str} {k : Nat} {sp : Sp} (D : MethE K C x qual st ps) (c : Cls K C) (S : FnScope N ps (defScope st)) (len : ∀ vs H Q E, sp vs H Q E → vs.length = ps.length)
    (hbody : ∀ (f : Addr) (cdv : Value) (A : Around) (outer : List Env) (s : Shared) (H : Hp) (vs : List V) (Q : VK) (E : XK), Room k (A.deeper (envOfC qual (defScope st) s.heap.objs.size f cdv)) → sp vs H Q E →
      ∃ t, PSs (cxOf CX0 P w K mg base N qual (defScope st) f cdv A outer s H E).nox (defBody st) t ∧ t { nx := fun _ H' => Q .non H', rt := Q } (start N vs) H) : Met P w K mg base (k + 1) C x sp := by
  obtain ⟨f, fd, F, hm, b⟩ := D
  exact ⟨f, fd, ps, c, hm, F.ok S len (hbody f), b⟩
theorem mak_of {C : Addr} {cn qual : Str} {st : Stmt} {ps N : List Str} {k : Nat} {sp : Sp} (D : InitE K mg cn C qual st ps) (S : FnScope N ps (defScope st)) (len : ∀ vs H Q E, sp vs H Q E → vs.length = ps.length)
    (hbody : ∀ (f : Addr) (cdv : Value) (A : Around) (outer : List Env) (s : Shared) (H : Hp) (vs : List V) (Q : VK) (E : XK), Room k (A.deeper (envOfC qual (defScope st) s.heap.objs.size f cdv)) → sp vs H Q E →
      ∃ t, PSs (cxOf CX0 P w K mg base N qual (defScope st) f cdv A outer s H E).nox (defBody st) t ∧ t { nx := fun _ H' => Q .non H', rt := Q } (start N vs) H) : Mak P w K mg base (k + 1) cn C sp := by
  obtain ⟨f, fd, F, M, hm, b⟩ := D
  exact ⟨f, fd, ps, M, F.ok S len (hbody f), hm, b⟩
end
theorem ps_str_loc : True := trivial
end VL

set_option Elab.async false
set_option linter.all false
set_option maxRecDepth 100000
set_option maxHeartbeats 4000000
namespace VL
open PySem PySem.Spec PyProof.Rows L2

def top (i : Nat) : Stmt := PySem.Challenge.pw_viewloom_k01_tokens_of_built_sources.main.body.getD i (.Pass ⟨0, 0, 0, 0⟩)
abbrev s_InvalidSource___init__ : Stmt := inClass (top 2) 0
abbrev s_is_letter : Stmt := top 4
abbrev s_is_digit : Stmt := top 5
abbrev s_tokens : Stmt := top 13
abbrev s_is_word_sign : Stmt := top 14
abbrev s_Scanner___init__ : Stmt := inClass (top 15) 0
abbrev s_Scanner_column_of : Stmt := inClass (top 15) 1
abbrev s_Scanner_fail : Stmt := inClass (top 15) 2
abbrev s_Scanner_skip : Stmt := inClass (top 15) 3
abbrev s_Scanner_token : Stmt := inClass (top 15) 4
abbrev s_Scanner_next_sort : Stmt := inClass (top 15) 5
abbrev s_Scanner_take_word : Stmt := inClass (top 15) 6
abbrev s_Scanner_take_until : Stmt := inClass (top 15) 7
abbrev s_Scanner_take_name : Stmt := inClass (top 15) 8
abbrev s_Scanner_take_number : Stmt := inClass (top 15) 9
abbrev s_Scanner_take_sign : Stmt := inClass (top 15) 10
abbrev s_Scanner_take_text : Stmt := inClass (top 15) 11
abbrev s_Scanner_text_end : Stmt := inClass (top 15) 12
abbrev s__law_cell : Stmt := top 17
abbrev s__law_is_integer : Stmt := top 18
abbrev s__law_start : Stmt := top 19
abbrev s__law_digit : Stmt := top 20
abbrev s__law_quoted : Stmt := top 21
abbrev s__law_text : Stmt := top 22
abbrev s__law_token : Stmt := top 23
abbrev s__law_gap : Stmt := top 24
abbrev s_law : Stmt := top 25

abbrev pairsL : List (List Nat) := [[61, 61], [33, 61], [60, 61], [62, 61], [38, 38], [124, 124], [47, 62]]
abbrev singlesL : List Nat := [43, 45, 42, 47, 60, 62, 61, 33, 63, 58, 46, 44, 59, 40, 41, 91, 93, 123, 125]
structure Txt (K : PySem.W.Frag) (w : World) (mg : Str → Option Value) (C : Addr) : Prop where
  cl : Cls K C
  n_source : NoAttr K C "source"
  n_end : NoAttr K C "length"
  n_at : NoAttr K C "at"
  n_line : NoAttr K C "line"
  n_line_begin : NoAttr K C "line_begin"
  z_len : mg "len" = none
  z_int : mg "int" = none
  z_str : mg "str" = none
  z_bool : mg "bool" = none
  z_list : mg "list" = none
  z_tuple : mg "tuple" = none
  z_isinstance : mg "isinstance" = none
  z_range : mg "range" = none
  z_min : mg "min" = none
  z_max : mg "max" = none
  g_LONGEST_SOURCE : GV mg "LONGEST_SOURCE" (.int 20000)
  g_LARGEST_NUMBER : GV mg "LARGEST_NUMBER" (.int 1000000000000000000000000000000)
  g_MOST_DIGITS : GV mg "MOST_DIGITS" (.int 31)
  g_SINGLES : GV mg "SINGLES" (.str (TX singlesL))
  t_PAIRS : ∃ a, GV mg "PAIRS" (.ref a) ∧ ∀ H, SqT K H a (pairsL.map fun l => V.str (TX l))
  t_ESCAPES : ∃ a es n, GV mg "ESCAPES" (.ref a) ∧ KDict K w a es n ∧ (∃ u, PySem.W.nsIn K a (TX [34]) = some (some u) ∧ RelV (.str (TX [34])) u) ∧ (∃ u, PySem.W.nsIn K a (TX [92]) = some (some u) ∧ RelV (.str (TX [92])) u) ∧
    ∃ u, PySem.W.nsIn K a (TX [110]) = some (some u) ∧ RelV (.str (TX [10])) u
  d_is_letter : DefE K mg "is_letter" s_is_letter ["sign"]
  d_is_digit : DefE K mg "is_digit" s_is_digit ["sign"]
  d_is_word_sign : DefE K mg "is_word_sign" s_is_word_sign ["sign"]
  d_tokens : DefE K mg "tokens" s_tokens ["source"]
  i_Scanner : InitE K mg "Scanner" C "Scanner.__init__" s_Scanner___init__ ["self", "source"]
  m_column_of : MethE K C "column_of" "Scanner.column_of" s_Scanner_column_of ["self", "at"]
  m_skip : MethE K C "skip" "Scanner.skip" s_Scanner_skip ["self"]
  m_token : MethE K C "token" "Scanner.token" s_Scanner_token ["self"]
  m_next_sort : MethE K C "next_sort" "Scanner.next_sort" s_Scanner_next_sort ["self"]
  m_take_word : MethE K C "take_word" "Scanner.take_word" s_Scanner_take_word ["self", "sort"]
  m_take_until : MethE K C "take_until" "Scanner.take_until" s_Scanner_take_until ["self", "end"]
  m_take_name : MethE K C "take_name" "Scanner.take_name" s_Scanner_take_name ["self"]
  m_take_number : MethE K C "take_number" "Scanner.take_number" s_Scanner_take_number ["self"]
  m_take_sign : MethE K C "take_sign" "Scanner.take_sign" s_Scanner_take_sign ["self"]
  m_take_text : MethE K C "take_text" "Scanner.take_text" s_Scanner_take_text ["self"]
  m_text_end : MethE K C "text_end" "Scanner.text_end" s_Scanner_text_end ["self"]
  d__law_cell : DefE K mg "_law_cell" s__law_cell ["script", "k"]
  d__law_is_integer : DefE K mg "_law_is_integer" s__law_is_integer ["told"]
  d__law_start : DefE K mg "_law_start" s__law_start ["cell", "k"]
  d__law_digit : DefE K mg "_law_digit" s__law_digit ["state", "many"]
  d__law_quoted : DefE K mg "_law_quoted" s__law_quoted ["text"]
  d__law_text : DefE K mg "_law_text" s__law_text ["state"]
  d__law_token : DefE K mg "_law_token" s__law_token ["state"]
  d__law_gap : DefE K mg "_law_gap" s__law_gap ["state"]

/-! ### a scanner -/
def fsS (src : List Nat) (e at_ ln lb : Int) : List (Str × V) := [("source", .str (TX src)), ("length", .int e), ("at", .int at_), ("line", .int ln), ("line_begin", .int lb)]
section
variable (src : List Nat) (e at_ ln lb z : Int)
theorem fs_source : (fsS src e at_ ln lb).lookup ("source" : Str) = some (.str (TX src)) := by rfl
theorem fs_end : (fsS src e at_ ln lb).lookup ("length" : Str) = some (.int e) := by rfl
theorem fs_at : (fsS src e at_ ln lb).lookup ("at" : Str) = some (.int at_) := by rfl
theorem fs_line : (fsS src e at_ ln lb).lookup ("line" : Str) = some (.int ln) := by rfl
theorem fs_line_begin : (fsS src e at_ ln lb).lookup ("line_begin" : Str) = some (.int lb) := by rfl
theorem put_at : putF "at" (.int z) (fsS src e at_ ln lb) = fsS src e z ln lb := by rfl
theorem put_line : putF "line" (.int z) (fsS src e at_ ln lb) = fsS src e at_ z lb := by rfl
theorem put_line_begin : putF "line_begin" (.int z) (fsS src e at_ ln lb) = fsS src e at_ ln z := by rfl
end
end VL

set_option Elab.async false
set_option linter.all false
set_option maxRecDepth 100000
set_option maxHeartbeats 4000000
namespace VL
open PySem PySem.Spec PyProof.Rows L2

theorem le_lo {c d : Nat} : (!decide ([c] < [d])) = decide (d ≤ c) := by
  by_cases h : c < d
  · rw [decide_eq_true (lt_one.mpr h), decide_eq_false (by omega)]; rfl
  · rw [decide_eq_false (fun q => h (lt_one.mp q)), decide_eq_true (by omega)]; rfl
abbrev rLeS : R2 := fun x y H Q => ∃ i j, x = .str i ∧ y = .str j ∧ Q (.bl (!decide (j.cps.toList < i.cps.toList))) H
theorem chain_le {lo hi c : Nat} {σ : L2.St} {H : Hp} {Q : VK} {i : Nat} (h0 : σ[i]? = some (some (.str (TX [c])))) (q : Q (.bl (decide (lo ≤ c) && decide (c ≤ hi))) H) :
    tChain rLeS rLeS (tC (.str (TX [lo]))) (tVar i) (tC (.str (TX [hi]))) σ H Q := by
  refine ⟨_, h0, _, _, rfl, rfl, _, rfl, ?_⟩
  show if (!decide ([c] < [lo])) = true then _ else _
  rw [le_lo]
  by_cases h : lo ≤ c
  · rw [if_pos (decide_eq_true h)]
    refine ⟨_, _, rfl, rfl, ?_⟩
    show Q (.bl (!decide ([hi] < [c]))) H
    rw [le_lo]
    rw [decide_eq_true h] at q
    exact q
  · rw [if_neg (by simp [h])]
    rw [decide_eq_false h] at q
    exact q
def spLet : Sp := fun vs H Q _ => ∃ c : Nat, vs = [.str (TX [c])] ∧ Q (.bl (isLet c)) H
def spDig : Sp := fun vs H Q _ => ∃ c : Nat, vs = [.str (TX [c])] ∧ Q (.bl (isDig c)) H
def spWs : Sp := fun vs H Q _ => ∃ c : Nat, vs = [.str (TX [c])] ∧ Q (.bl (isWs c)) H
section
variable {P : Program} {w : World} {K : PySem.W.Frag} {mg : Str → Option Value} {base : Heap} {C : Addr}
theorem sc_is_letter : FnScope ["sign"] ["sign"] (defScope s_is_letter) := ⟨rfl, rfl, rfl, by decide +kernel, rfl, by decide +kernel, by decide +kernel⟩
theorem ok_is_letter (T : Txt K w mg C) : Cal P w K mg base 1 "is_letter" spLet := by
  refine cal_of T.d_is_letter sc_is_letter (fun vs H Q E h => ?_) (fun f cdv A outer s H vs Q E hr h => ?_)
  · obtain ⟨c, rfl, _⟩ := h
    rfl
  · obtain ⟨c, rfl, k⟩ := h
    refine ⟨_, (pss_one (ps_ret (pe_or (pe_chain op_le_str op_le_str pe_str (pv 0) pe_str) (pe_one (pe_chain op_le_str op_le_str pe_str (pv 0) pe_str))))), ?_⟩
    dsimp only [tRet, tOrV]
    refine chain_le (lo := 97) (hi := 122) (c := c) (i := 0) rfl ⟨_, rfl, ?_⟩
    by_cases h : (decide (97 ≤ c) && decide (c ≤ 122)) = true
    · rw [if_pos h]
      have e : isLet c = true := by unfold isLet; rw [h]; rfl
      rw [e] at k
      exact k
    · rw [if_neg h]
      have e : isLet c = (decide (65 ≤ c) && decide (c ≤ 90)) := by
        unfold isLet
        rw [Bool.eq_false_iff.mpr h]
        rfl
      rw [e] at k
      exact chain_le (lo := 65) (hi := 90) (c := c) (i := 0) rfl k
theorem sc_is_digit : FnScope ["sign"] ["sign"] (defScope s_is_digit) := ⟨rfl, rfl, rfl, by decide +kernel, rfl, by decide +kernel, by decide +kernel⟩
theorem ok_is_digit (T : Txt K w mg C) : Cal P w K mg base 1 "is_digit" spDig := by
  refine cal_of T.d_is_digit sc_is_digit (fun vs H Q E h => ?_) (fun f cdv A outer s H vs Q E hr h => ?_)
  · obtain ⟨c, rfl, _⟩ := h
    rfl
  · obtain ⟨c, rfl, k⟩ := h
    refine ⟨_, (pss_one (ps_ret (pe_chain op_le_str op_le_str pe_str (pv 0) pe_str))), ?_⟩
    dsimp only [tRet]
    exact chain_le (lo := 48) (hi := 57) (c := c) (i := 0) rfl k
theorem sc_is_word_sign : FnScope ["sign"] ["sign"] (defScope s_is_word_sign) := ⟨rfl, rfl, rfl, by decide +kernel, rfl, by decide +kernel, by decide +kernel⟩
theorem ok_is_word_sign (T : Txt K w mg C) : Cal P w K mg base 2 "is_word_sign" spWs := by
  have Gis_letter : Cal P w K mg base 1 "is_letter" spLet := ok_is_letter T
  have Gis_digit : Cal P w K mg base 1 "is_digit" spDig := ok_is_digit T
  refine cal_of T.d_is_word_sign sc_is_word_sign (fun vs H Q E h => ?_) (fun f cdv A outer s H vs Q E hr h => ?_)
  · obtain ⟨c, rfl, _⟩ := h
    rfl
  · obtain ⟨c, rfl, k⟩ := h
    refine ⟨_, (pss_one (ps_ret (pe_or (pe_c Gis_letter hr (by decide) (by rfl) (pa_cons (pv 0) pa_nil)) (pe_or (pe_c Gis_digit hr (by decide) (by rfl) (pa_cons (pv 0) pa_nil)) (pe_one (pe_cmpR op_eq (pv 0) pe_str (nomark _))))))), ?_⟩
    refine ⟨_, rfl, c, rfl, _, rfl, ?_⟩
    unfold isWs at k
    cases h1 : isLet c with
    | true => rw [h1] at k; exact k
    | false =>
      rw [h1] at k
      refine ⟨_, rfl, c, rfl, _, rfl, ?_⟩
      cases h2 : isDig c with
      | true => rw [h2] at k; exact k
      | false =>
        rw [h2] at k
        refine ⟨_, rfl, rfl, ?_⟩
        show Q (.bl (decide (V.str (TX [c]) = V.str (TX [95])))) H
        rw [one_eq]
        exact k
end
end VL

set_option Elab.async false
set_option linter.all false
set_option maxRecDepth 100000
set_option maxHeartbeats 4000000
namespace VL
open PySem PySem.Spec PyProof.Rows L2

/-- the scanner stands behind cs -/
def fsAt (src cs : List Nat) : List (Str × V) := fsS src ((src.length : Int) - 1) (cs.length : Int) (lnOf cs : Int) ((cs.length : Int) - (clOf cs : Int))
theorem putA_at {src cs : List Nat} {z : Int} : putF "at" (.int z) (fsAt src cs) = fsS src ((src.length : Int) - 1) z (lnOf cs : Int) ((cs.length : Int) - (clOf cs : Int)) := rfl
theorem putA_line {src cs : List Nat} {z : Int} : putF "line" (.int z) (fsAt src cs) = fsS src ((src.length : Int) - 1) (cs.length : Int) z ((cs.length : Int) - (clOf cs : Int)) := rfl
theorem fsAt_plain {src cs m : List Nat} {z : Int} (h : 10 ∉ m) (hz : z = ((cs ++ m).length : Int)) : fsS src ((src.length : Int) - 1) z (lnOf cs : Int) ((cs.length : Int) - (clOf cs : Int)) = fsAt src (cs ++ m) := by
  unfold fsAt
  rw [ln_plain cs m h, cl_plain cs m h, hz, List.length_append]
  have e : ((cs.length + m.length : Nat) : Int) - ((clOf cs + m.length : Nat) : Int) = (cs.length : Int) - (clOf cs : Int) := by omega
  rw [e]
theorem fsAt_nl {src cs : List Nat} : fsS src ((src.length : Int) - 1) ((cs.length : Int) + 1) ((lnOf cs : Int) + 1) ((cs.length : Int) + 1) = fsAt src (cs ++ [10]) := by
  unfold fsAt
  rw [ln_nl, cl_nl, List.length_append]
  have e : (((cs.length + [10].length : Nat) : Int)) - ((0 : Nat) : Int) = (cs.length : Int) + 1 := by simp
  rw [e]
  rfl
/-- what skip passes: R' is where it ends -/
inductive Skips : List Nat → List Nat → Prop where
  | stop {R} (h : R.length ≤ 1) : Skips R R
  | done {c r} (h1 : c ≠ 10) (h2 : c ≠ 32) (h3 : ((c :: r).take 2 == [47, 47]) = false) : Skips (c :: r) (c :: r)
  | sp {R R'} (h : 1 ≤ R.length) (k : Skips R R') : Skips (32 :: R) R'
  | nl {R R'} (h : 1 ≤ R.length) (k : Skips R R') : Skips (10 :: R) R'
  | com {c R R'} (h : 10 ∉ c) (k : Skips (10 :: R) R') : Skips (47 :: 47 :: (c ++ 10 :: R)) R'
theorem ite_one {c d : Nat} {A B : Prop} (h1 : c = d → A) (h2 : c ≠ d → B) : if decide (V.str (TX [c]) = V.str (TX [d])) = true then A else B := by
  rw [one_eq]
  by_cases e : c = d
  · rw [if_pos (decide_eq_true e)]
    exact h1 e
  · rw [if_neg (by simp [e])]
    exact h2 e
theorem ite_oneN {c d : Nat} {A B : Prop} (h1 : c ≠ d → A) (h2 : c = d → B) : if (!decide (V.str (TX [c]) = V.str (TX [d]))) = true then A else B := by
  rw [one_eq]
  by_cases e : c = d
  · rw [decide_eq_true e, if_neg (by decide)]
    exact h2 e
  · rw [decide_eq_false e, if_pos (by decide)]
    exact h1 e
theorem ite_b {b : Bool} {A B : Prop} (h1 : b = true → A) (h2 : b = false → B) : if b = true then A else B := by
  cases b with
  | true => rw [if_pos rfl]; exact h1 rfl
  | false => rw [if_neg Bool.false_ne_true]; exact h2 rfl
def spSkip (C : Addr) : Sp := fun vs H Q _ => ∃ (p dx : Addr) (src cs R R' : List Nat), vs = [.ref p] ∧ H p = some (.ins C dx (fsAt src cs)) ∧ src = cs ++ R ∧ src.length ≤ 100000 ∧ Skips R R' ∧
  ∀ cs', src = cs' ++ R' → Q .non (upd H p (.ins C dx (fsAt src cs')))
theorem upd_id {H : Hp} {p : Addr} {o : HO} (h : H p = some o) : upd H p o = H := by
  funext b
  by_cases e : b = p
  · rw [e, upd_same, h]
  · rw [upd_ne e]
theorem size5 {n : Nat} (h : n ≤ 100000) : n ≤ sizeLine := Nat.le_trans h (by decide)
section
variable {P : Program} {w : World} {K : PySem.W.Frag} {mg : Str → Option Value} {base : Heap} {C : Addr}
theorem sc_Scanner_skip : FnScope ["self", "sign"] ["self"] (defScope s_Scanner_skip) := ⟨rfl, rfl, rfl, by decide +kernel, rfl, by decide +kernel, by decide +kernel⟩
theorem ok_skip (T : Txt K w mg C) : Met P w K mg base 1 C "skip" (spSkip C) := by
  refine met_of T.m_skip T.cl sc_Scanner_skip (fun vs H Q E h => ?_) (fun f cdv A outer s H vs Q E hr h => ?_)
  · obtain ⟨p, dx, src, cs, R, R', rfl, _⟩ := h
    rfl
  · obtain ⟨p, dx, src, cs, R, R', rfl, h0, hsrc, hlen, hk, k⟩ := h
    refine ⟨_, (pss_one (ps_while PassesOwn.never (pt_cmpR op_lt (pe_fld (pv 0) rfl) (pe_fld (pv 0) rfl) (nomark _)) (pss_cons (ps_set (i := 1) sc_Scanner_skip.nd rfl (Or.inl rfl) (pe_ix ix_str (pe_fld (pv 0) rfl) (pe_fld (pv 0) rfl) (fun _ _ => rfl))) (pss_one (ps_if (pt_cmpR op_eq (pv 1) pe_str (nomark _)) (pss_cons (ps_fldaug (pv 0) pe_int in_add) (pss_cons (ps_fld (pv 0) (pe_op op_add (pe_fld (pv 0) rfl) pe_int) rfl) (pss_one (ps_fldaug (pv 0) pe_int in_add)))) (pss_one (ps_if (pt_cmpR op_eq (pv 1) pe_str (nomark _)) (pss_one (ps_fldaug (pv 0) pe_int in_add)) (pss_one (ps_if (pt_val (pe_bm PySem.F.plainAttrs_str PySem.F.slot_str_startswith PySem.F.type_str_startswith mt_startswith3 (pe_fld (pv 0) rfl) (pa_cons pe_str (pa_cons (pe_fld (pv 0) rfl) pa_nil)))) (pss_one (ps_fld (pv 0) (pe_bm PySem.F.plainAttrs_str PySem.F.slot_str_find PySem.F.type_str_find mt_find3 (pe_fld (pv 0) rfl) (pa_cons pe_str (pa_cons (pe_fld (pv 0) rfl) pa_nil))) rfl)) (pss_one ps_retN)))))))))), ?_⟩
    refine ⟨fun m σ H' => ∃ (cs R : List Nat) (sg : Option V), m = R.length ∧ src = cs ++ R ∧ Skips R R' ∧ σ = [some (.ref p), sg] ∧ H' = upd H p (.ins C dx (fsAt src cs)), ⟨_, cs, R, none, rfl, hsrc, hk, rfl, (upd_id h0).symm⟩, ?_⟩
    rintro m σ H1 ⟨cs, R, sg, rfl, hsrc, hk, rfl, rfl⟩
    have h1 : upd H p (.ins C dx (fsAt src cs)) p = some (.ins C dx (fsAt src cs)) := upd_same
    have hl : src.length = cs.length + R.length := by rw [hsrc, List.length_append]
    refine ⟨_, rfl, p, C, dx, _, _, rfl, h1, T.cl, T.n_at, fs_at _ _ _ _ _, _, rfl, p, C, dx, _, _, rfl, h1, T.cl, T.n_end, fs_end _ _ _ _ _, _, _, rfl, rfl, _, rfl, ?_⟩
    refine ite2 (fun q => ?_) (fun q => ?_)
    · have q := of_decide_eq_true q
      have hR : 2 ≤ R.length := by omega
      have hN : ∀ (cs2 R2 : List Nat) (sg2 : Option V), src = cs2 ++ R2 → R2.length < R.length → Skips R2 R' → ∃ m', m' < R.length ∧ ∃ (cs R : List Nat) (sg : Option V), m' = R.length ∧ src = cs ++ R ∧ Skips R R' ∧ [some (V.ref p), sg2] = [some (.ref p), sg] ∧ upd H p (.ins C dx (fsAt src cs2)) = upd H p (.ins C dx (fsAt src cs)) :=
        fun cs2 R2 sg2 e1 e2 e3 => ⟨_, e2, cs2, R2, sg2, rfl, e1, e3, rfl, rfl⟩
      refine ⟨fun σ' H' => ∃ m', m' < R.length ∧ ∃ (cs R : List Nat) (sg : Option V), m' = R.length ∧ src = cs ++ R ∧ Skips R R' ∧ σ' = [some (.ref p), sg] ∧ H' = upd H p (.ins C dx (fsAt src cs)), fun σ' H' z => z, ?_⟩
      obtain ⟨c, r, rfl⟩ : ∃ c r, R = c :: r := by
        cases R with
        | nil => simp at hR
        | cons c r => exact ⟨c, r, rfl⟩
      refine ⟨_, rfl, p, C, dx, _, _, rfl, h1, T.cl, T.n_source, fs_source _ _ _ _ _, _, rfl, p, C, dx, _, _, rfl, h1, T.cl, T.n_at, fs_at _ _ _ _ _, _, _, c, rfl, rfl, by rw [TX_len]; exact size5 hlen, by rw [hsrc]; exact at_mid rfl, ?_⟩
      refine ⟨_, rfl, rfl, _, rfl, ?_⟩
      refine ite_one (c := c) (d := 10) (fun e => ?_) (fun e => ?_)
      · subst e
        cases hk with
        | stop h => simp at hR; omega
        | done a1 a2 a3 => exact absurd rfl a1
        | nl a1 a2 =>
          refine ⟨_, rfl, p, C, dx, _, _, rfl, h1, T.cl, T.n_line, fs_line _ _ _ _ _, _, _, rfl, rfl, dx, _, h1, (by show 5 < 1000; decide), ?_⟩
          rw [putA_line, upd_upd]
          have h2 : ∀ o, upd H p o p = some o := fun o => upd_same
          refine ⟨_, rfl, p, C, dx, _, _, rfl, (h2 _), T.cl, T.n_at, fs_at _ _ _ _ _, _, _, rfl, rfl, _, rfl, p, C, dx, _, rfl, (h2 _), T.cl, T.n_line_begin, (by show 5 < 1000; decide), ?_⟩
          rw [put_line_begin, upd_upd]
          refine ⟨_, rfl, p, C, dx, _, _, rfl, (h2 _), T.cl, T.n_at, fs_at _ _ _ _ _, _, _, rfl, rfl, dx, _, (h2 _), (by show 5 < 1000; decide), ?_⟩
          rw [put_at, upd_upd]
          have e3 := fsAt_nl (src := src) (cs := cs)
          have := hN (cs ++ [10]) r (some (.str (TX [10]))) (by rw [hsrc]; simp) (by simp) a2
          rw [← e3] at this
          exact this
      · refine ⟨_, rfl, rfl, _, rfl, ?_⟩
        refine ite_one (c := c) (d := 32) (fun e => ?_) (fun e2 => ?_)
        · subst e
          cases hk with
          | stop h => simp at hR; omega
          | done a1 a2 a3 => exact absurd rfl a2
          | sp a1 a2 =>
            refine ⟨_, rfl, p, C, dx, _, _, rfl, h1, T.cl, T.n_at, fs_at _ _ _ _ _, _, _, rfl, rfl, dx, _, h1, (by show 5 < 1000; decide), ?_⟩
            rw [putA_at, upd_upd]
            have := hN (cs ++ [32]) r (some (.str (TX [32]))) (by rw [hsrc]; simp) (by simp) a2
            rw [← fsAt_plain (m := [32]) (z := (cs.length : Int) + 1) (by decide) (by simp)] at this
            exact this
        · refine ⟨_, rfl, p, C, dx, _, _, rfl, h1, T.cl, T.n_source, fs_source _ _ _ _ _, rfl, _, rfl, p, C, dx, _, _, rfl, h1, T.cl, T.n_at, fs_at _ _ _ _ _, _, _, _, rfl, rfl, _, rfl, ?_⟩
          have est : Txt.startswith3 (TX src) (TX [47, 47]) (cs.length : Int) = ((c :: r).take 2 == [47, 47]) := by rw [hsrc]; exact starts_at rfl
          refine ite_b (b := Txt.startswith3 (TX src) (TX [47, 47]) (cs.length : Int)) (fun q3 => ?_) (fun q3 => ?_)
          · rw [est] at q3
            cases hk with
            | stop h => simp at hR; omega
            | done a1 a2 a3 => rw [q3] at a3; cases a3
            | sp a1 a2 => exact absurd rfl e2
            | nl a1 a2 => exact absurd rfl e
            | @com c2 R2 R3 a1 a2 =>
              refine ⟨_, rfl, p, C, dx, _, _, rfl, h1, T.cl, T.n_source, fs_source _ _ _ _ _, rfl, _, rfl, p, C, dx, _, _, rfl, h1, T.cl, T.n_at, fs_at _ _ _ _ _, _, _, _, rfl, rfl, _, rfl, p, C, dx, _, rfl, h1, T.cl, T.n_at, (by show 5 < 1000; decide), ?_⟩
              have ef : Txt.find3 (TX src) (TX [10]) (cs.length : Int) = ((cs.length + (47 :: 47 :: c2).length : Nat) : Int) := by
                rw [hsrc]
                exact find_nl (c := 47 :: 47 :: c2) (r := R2) rfl (by simp [a1])
              rw [putA_at, upd_upd]
              have := hN (cs ++ 47 :: 47 :: c2) (10 :: R2) (some (.str (TX [47]))) (by rw [hsrc]; simp) (by simp; omega) a2
              rw [← fsAt_plain (m := 47 :: 47 :: c2) (z := Txt.find3 (TX src) (TX [10]) (cs.length : Int)) (by simp [a1]) (by rw [ef, List.length_append])] at this
              exact this
          · rw [est] at q3
            cases hk with
            | stop h => simp at hR; omega
            | done a1 a2 a3 => exact k cs hsrc
            | sp a1 a2 => exact absurd rfl e2
            | nl a1 a2 => exact absurd rfl e
            | @com c2 R2 R3 a1 a2 => simp at q3
    · have q : ¬ ((cs.length : Int) < (src.length : Int) - 1) := fun z => q (decide_eq_true z)
      cases hk with
      | stop h => exact k cs hsrc
      | done a1 a2 a3 => exact k cs hsrc
      | sp a1 a2 => simp at hl; omega
      | nl a1 a2 => simp at hl; omega
      | com a1 a2 => simp at hl; omega
end
end VL

set_option Elab.async false
set_option linter.all false
set_option maxRecDepth 100000
set_option maxHeartbeats 4000000
namespace VL
open PySem PySem.Spec PyProof.Rows L2

def spColumn (C : Addr) : Sp := fun vs H Q _ => ∃ (p dx : Addr) (src cs : List Nat), vs = [.ref p, .int (cs.length : Int)] ∧ H p = some (.ins C dx (fsAt src cs)) ∧ Q (.int ((clOf cs : Int) + 1)) H
def spUntil (C : Addr) : Sp := fun vs H Q _ => ∃ (p dx : Addr) (src cs m r : List Nat), vs = [.ref p, .int ((cs.length + m.length : Nat) : Int)] ∧ H p = some (.ins C dx (fsAt src cs)) ∧ src = cs ++ (m ++ r) ∧ src.length ≤ 100000 ∧ 10 ∉ m ∧
  Q (.str (TX m)) (upd H p (.ins C dx (fsAt src (cs ++ m))))
def spName (C : Addr) : Sp := fun vs H Q _ => ∃ (p dx : Addr) (src cs m r : List Nat) (d : Nat), vs = [.ref p] ∧ H p = some (.ins C dx (fsAt src cs)) ∧ src = cs ++ (m ++ d :: r) ∧ src.length ≤ 100000 ∧ (∀ c ∈ m, isWs c = true) ∧ isWs d = false ∧
  Q (.str (TX m)) (upd H p (.ins C dx (fsAt src (cs ++ m))))
def spNumber (C : Addr) : Sp := fun vs H Q _ => ∃ (p dx : Addr) (src cs r : List Nat) (n d : Nat), vs = [.ref p] ∧ H p = some (.ins C dx (fsAt src cs)) ∧ src = cs ++ (TL.numL n ++ d :: r) ∧ src.length ≤ 100000 ∧ n ≤ 10 ^ 30 ∧ isWs d = false ∧
  Q (.str (TX (TL.numL n))) (upd H p (.ins C dx (fsAt src (cs ++ TL.numL n))))
theorem ws_nl {c : Nat} (h : isWs c = true) : c ≠ 10 := fun e => by subst e; revert h; decide
theorem at_app {cs m r : List Nat} {i : Nat} {c : Nat} {z : Int} (hz : z = ((cs.length + i : Nat) : Int)) (h : (m ++ r)[i]? = some c) : atI (TX (cs ++ (m ++ r))).cps.toList z = some c := by
  subst hz
  rw [TX_tl]
  have hi : i < (m ++ r).length := (List.getElem?_eq_some_iff.mp h).1
  unfold atI ixN
  rw [if_pos (by omega), if_pos (by rw [List.length_append]; omega)]
  show (cs ++ (m ++ r))[((cs.length + i : Nat) : Int).toNat]? = _
  rw [Int.toNat_natCast, List.getElem?_append_right (by omega), Nat.add_sub_cancel_left]
  exact h
theorem digits_ws {n : Nat} : ∀ c ∈ TL.numL n, isDig c = true := fun c hc => by
  have := TL.numL_digits n c hc
  unfold isDig
  rw [Bool.and_eq_true]
  exact ⟨decide_eq_true this.1, decide_eq_true this.2⟩
theorem dig_nl {c : Nat} (h : isDig c = true) : c ≠ 10 := fun e => by subst e; revert h; decide
theorem num_head : ∀ {n : Nat} {c : Nat} {r : List Nat}, TL.numL n = c :: r → c = 48 → n = 0 := by
  intro n
  induction n using Nat.strongRecOn with
  | _ n ih =>
    intro c r h hc
    by_cases h9 : n < 10
    · rw [TL.numL_lt h9] at h
      injection h with h _
      omega
    · rw [TL.numL_step (by omega)] at h
      cases e : TL.numL (n / 10) with
      | nil => exact absurd e (TL.numL_ne _)
      | cons c2 r2 =>
        rw [e, List.cons_append] at h
        injection h with h _
        have := ih (n / 10) (by omega) e (by omega)
        omega
section
variable {P : Program} {w : World} {K : PySem.W.Frag} {mg : Str → Option Value} {base : Heap} {C : Addr}
theorem sc_Scanner_column_of : FnScope ["self", "at"] ["self", "at"] (defScope s_Scanner_column_of) := ⟨rfl, rfl, rfl, by decide +kernel, rfl, by decide +kernel, by decide +kernel⟩
theorem ok_column_of (T : Txt K w mg C) : Met P w K mg base 1 C "column_of" (spColumn C) := by
  refine met_of T.m_column_of T.cl sc_Scanner_column_of (fun vs H Q E h => ?_) (fun f cdv A outer s H vs Q E hr h => ?_)
  · obtain ⟨p, dx, src, cs, rfl, _⟩ := h
    rfl
  · obtain ⟨p, dx, src, cs, rfl, h1, k⟩ := h
    refine ⟨_, (pss_one (ps_ret (pe_op op_add (pe_op op_sub (pv 1) (pe_fld (pv 0) rfl)) pe_int))), ?_⟩
    refine ⟨_, rfl, _, rfl, p, C, dx, _, _, rfl, h1, T.cl, T.n_line_begin, fs_line_begin _ _ _ _ _, _, _, rfl, rfl, _, _, rfl, rfl, ?_⟩
    have e : (cs.length : Int) - ((cs.length : Int) - (clOf cs : Int)) + 1 = (clOf cs : Int) + 1 := by omega
    show Q (.int ((cs.length : Int) - ((cs.length : Int) - (clOf cs : Int)) + 1)) H
    rw [e]
    exact k
theorem sc_Scanner_take_until : FnScope ["self", "end", "word"] ["self", "end"] (defScope s_Scanner_take_until) := ⟨rfl, rfl, rfl, by decide +kernel, rfl, by decide +kernel, by decide +kernel⟩
theorem ok_take_until (T : Txt K w mg C) : Met P w K mg base 1 C "take_until" (spUntil C) := by
  refine met_of T.m_take_until T.cl sc_Scanner_take_until (fun vs H Q E h => ?_) (fun f cdv A outer s H vs Q E hr h => ?_)
  · obtain ⟨p, dx, src, cs, m, r, rfl, _⟩ := h
    rfl
  · obtain ⟨p, dx, src, cs, m, r, rfl, h1, hsrc, hlen, hm, k⟩ := h
    refine ⟨_, (pss_cons (ps_set (i := 2) sc_Scanner_take_until.nd rfl (Or.inl rfl) (pe_slice sl_str (pe_fld (pv 0) rfl) (po_some (pe_fld (pv 0) rfl)) (po_some (pv 1)))) (pss_cons (ps_fld (pv 0) (pv 1) rfl) (pss_one (ps_ret (pv 2))))), ?_⟩
    refine ⟨_, rfl, p, C, dx, _, _, rfl, h1, T.cl, T.n_source, fs_source _ _ _ _ _, _, rfl, p, C, dx, _, _, rfl, h1, T.cl, T.n_at, fs_at _ _ _ _ _, _, rfl, _, rfl, _, rfl, _, rfl, (by rw [TX_len]; exact size5 hlen), ?_⟩
    have ec : cutS (TX src) (some (cs.length : Int)) (some ((cs.length + m.length : Nat) : Int)) = TX m := by rw [hsrc]; exact cut_mid rfl rfl
    rw [ec]
    refine ⟨_, rfl, _, rfl, p, C, dx, _, rfl, h1, T.cl, T.n_at, (by show 5 < 1000; decide), ?_⟩
    rw [putA_at, fsAt_plain (m := m) hm (by rw [List.length_append])]
    exact ⟨_, rfl, k⟩
theorem sc_Scanner_take_name : FnScope ["self", "end"] ["self"] (defScope s_Scanner_take_name) := ⟨rfl, rfl, rfl, by decide +kernel, rfl, by decide +kernel, by decide +kernel⟩
theorem ok_take_name (T : Txt K w mg C) : Met P w K mg base 3 C "take_name" (spName C) := by
  have Gis_word_sign : Cal P w K mg base 2 "is_word_sign" spWs := ok_is_word_sign T
  have Mtake_until : Met P w K mg base 1 C "take_until" (spUntil C) := ok_take_until T
  refine met_of T.m_take_name T.cl sc_Scanner_take_name (fun vs H Q E h => ?_) (fun f cdv A outer s H vs Q E hr h => ?_)
  · obtain ⟨p, dx, src, cs, m, r, d, rfl, _⟩ := h
    rfl
  · obtain ⟨p, dx, src, cs, m, r, d, rfl, h1, hsrc, hlen, hm, hd, k⟩ := h
    refine ⟨_, (pss_cons (ps_set (i := 1) sc_Scanner_take_name.nd rfl (Or.inl rfl) (pe_fld (pv 0) rfl)) (pss_cons (ps_while PassesOwn.never (pt_val (pe_c Gis_word_sign hr (by decide) (by rfl) (pa_cons (pe_ix ix_str (pe_fld (pv 0) rfl) (pv 1) (fun _ _ => rfl)) pa_nil))) (pss_one (ps_aug (i := 1) sc_Scanner_take_name.nd rfl (Or.inl rfl) pe_int ip_add))) (pss_one (ps_ret (pe_mt Mtake_until hr (by decide) (pv 0) (pa_cons (pv 1) pa_nil)))))), ?_⟩
    refine ⟨_, rfl, p, C, dx, _, _, rfl, h1, T.cl, T.n_at, fs_at _ _ _ _ _, ?_⟩
    refine ⟨fun n σ H' => ∃ i, n = m.length - i ∧ i ≤ m.length ∧ σ = [some (.ref p), some (.int ((cs.length + i : Nat) : Int))] ∧ H' = H, ⟨_, 0, rfl, Nat.zero_le _, rfl, rfl⟩, ?_⟩
    rintro n σ H1 ⟨i, rfl, hi, rfl, rfl⟩
    by_cases hlt : i < m.length
    · have hat : (m ++ d :: r)[i]? = some m[i] := by rw [List.getElem?_append_left hlt, List.getElem?_eq_getElem hlt]
      refine ⟨_, rfl, p, C, dx, _, _, rfl, h1, T.cl, T.n_source, fs_source _ _ _ _ _, _, rfl, _, _, m[i], rfl, rfl, (by rw [TX_len]; exact size5 hlen), (by rw [hsrc]; exact at_app rfl hat), ?_⟩
      refine ⟨_, rfl, _, rfl, ?_⟩
      refine ite_b (b := isWs m[i]) (fun _ => ?_) (fun z => absurd (hm _ (List.getElem_mem hlt)) (by rw [z]; decide))
      refine ⟨fun σ' H' => ∃ i', i' = i + 1 ∧ σ' = [some (.ref p), some (.int ((cs.length + i' : Nat) : Int))] ∧ H' = H1, ?_, ?_⟩
      · rintro σ' H' ⟨i', rfl, rfl, rfl⟩
        exact ⟨m.length - (i + 1), by omega, i + 1, rfl, hlt, rfl, rfl⟩
      · refine ⟨_, rfl, _, _, rfl, rfl, i + 1, rfl, ?_, rfl⟩
        have e : ((cs.length + i : Nat) : Int) + 1 = ((cs.length + (i + 1) : Nat) : Int) := by omega
        show [some (V.ref p), some (V.int (((cs.length + i : Nat) : Int) + 1))] = _
        rw [e]
    · have e : i = m.length := by omega
      subst e
      have hat : (m ++ d :: r)[m.length]? = some d := by rw [List.getElem?_append_right (Nat.le_refl _)]; simp
      refine ⟨_, rfl, p, C, dx, _, _, rfl, h1, T.cl, T.n_source, fs_source _ _ _ _ _, _, rfl, _, _, d, rfl, rfl, (by rw [TX_len]; exact size5 hlen), (by rw [hsrc]; exact at_app rfl hat), ?_⟩
      refine ⟨_, rfl, _, rfl, ?_⟩
      refine ite_b (b := isWs d) (fun z => absurd z (by rw [hd]; decide)) (fun _ => ?_)
      exact ⟨_, rfl, p, dx, _, rfl, h1, rfl, _, rfl, p, dx, src, cs, m, d :: r, rfl, h1, hsrc, hlen, fun z => ws_nl (hm _ z) rfl, k⟩
theorem sc_Scanner_take_number : FnScope ["self", "end", "digits"] ["self"] (defScope s_Scanner_take_number) := ⟨rfl, rfl, rfl, by decide +kernel, rfl, by decide +kernel, by decide +kernel⟩
theorem ok_take_number (T : Txt K w mg C) : Met P w K mg base 3 C "take_number" (spNumber C) := by
  have Gis_word_sign : Cal P w K mg base 2 "is_word_sign" spWs := ok_is_word_sign T
  have Gis_digit : Cal P w K mg base 1 "is_digit" spDig := ok_is_digit T
  have Mtake_until : Met P w K mg base 1 C "take_until" (spUntil C) := ok_take_until T
  refine met_of T.m_take_number T.cl sc_Scanner_take_number (fun vs H Q E h => ?_) (fun f cdv A outer s H vs Q E hr h => ?_)
  · obtain ⟨p, dx, src, cs, r, n, d, rfl, _⟩ := h
    rfl
  · obtain ⟨p, dx, src, cs, r, n, d, rfl, h1, hsrc, hlen, hn, hd, k⟩ := h
    have hz := TX_len src
    have hz5 : (TX src).length ≤ sizeLine := by rw [hz]; exact size5 hlen
    have hdd : isDig d = false := by
      unfold isWs at hd
      cases e : isDig d with
      | false => rfl
      | true => rw [e] at hd; simp at hd
    obtain ⟨c0, r0, e0⟩ : ∃ c0 r0, TL.numL n = c0 :: r0 := by
      cases e : TL.numL n with
      | nil => exact absurd e (TL.numL_ne n)
      | cons c r => exact ⟨c, r, rfl⟩
    have hl1 : 1 ≤ (TL.numL n).length := by rw [e0]; simp
    have hl31 : (TL.numL n).length ≤ 31 := TL.numL_len (by decide) (Nat.lt_of_le_of_lt hn (by decide))
    have hat0 : (TL.numL n ++ d :: r)[0]? = some c0 := by rw [e0]; rfl
    have hat0' : atI (TX src).cps.toList (cs.length : Int) = some c0 := by rw [hsrc]; exact at_app (i := 0) rfl hat0
    refine ⟨_, (pss_cons (ps_set (i := 1) sc_Scanner_take_number.nd rfl (Or.inl rfl) (pe_op op_add (pe_fld (pv 0) rfl) pe_int)) (C8.pss_cut (ps_while PassesOwn.never ((pw_and (pt_cmpR op_ne (pe_ix ix_str (pe_fld (pv 0) rfl) (pe_fld (pv 0) rfl) (fun _ _ => rfl)) pe_str (nomark _)) (pw_and1 (pt_val (pe_c Gis_digit hr (by decide) (by rfl) (pa_cons (pe_ix ix_str (pe_fld (pv 0) rfl) (pv 1) (fun _ _ => rfl)) pa_nil)))))).pt (pss_one (ps_aug (i := 1) sc_Scanner_take_number.nd rfl (Or.inl rfl) pe_int ip_add))) (pss_cons (ps_if (pt_val (pe_c Gis_word_sign hr (by decide) (by rfl) (pa_cons (pe_ix ix_str (pe_fld (pv 0) rfl) (pv 1) (fun _ _ => rfl)) pa_nil))) (pss_one ps_never) pss_nil) (pss_cons (ps_set (i := 2) sc_Scanner_take_number.nd rfl (Or.inl rfl) (pe_slice sl_str (pe_fld (pv 0) rfl) (po_some (pe_fld (pv 0) rfl)) (po_some (pv 1)))) (pss_cons (ps_if ((pw_or (pt_cmpR op_gt (pe_callB call_len_str (by rfl) T.z_len PySem.boot_len (pa_cons (pv 2) pa_nil)) (C8.pe_gc (by rfl) T.g_MOST_DIGITS) (nomark _)) (pw_or1 (pt_cmpR op_gt (pe_callTy call_int_str (by rfl) T.z_int (by decide +kernel) (pa_cons (pv 2) pa_nil)) (C8.pe_gc (by rfl) T.g_LARGEST_NUMBER) (nomark _))))).pt (pss_one ps_never) pss_nil) (pss_one (ps_ret (pe_mt Mtake_until hr (by decide) (pv 0) (pa_cons (pv 1) pa_nil))))))))), ?_⟩
    refine ⟨_, rfl, p, C, dx, _, _, rfl, h1, T.cl, T.n_at, fs_at _ _ _ _ _, _, _, rfl, rfl, ?_⟩
    refine ⟨fun σ H' => σ = [some (V.ref p), some (.int ((cs.length + (TL.numL n).length : Nat) : Int)), none] ∧ H' = H, ?_, ?_⟩
    · by_cases h48 : c0 = 48
      · have hn0 := num_head e0 h48
        have hlen1 : (TL.numL n).length = 1 := by rw [hn0]; rfl
        refine ⟨fun m σ H' => m = 0 ∧ σ = [some (.ref p), some (.int ((cs.length : Int) + 1)), none] ∧ H' = H, ⟨0, rfl, rfl, rfl⟩, ?_⟩
        rintro m σ H1 ⟨rfl, rfl, rfl⟩
        refine ⟨_, rfl, p, C, dx, _, _, rfl, h1, T.cl, T.n_source, fs_source _ _ _ _ _, _, rfl, p, C, dx, _, _, rfl, h1, T.cl, T.n_at, fs_at _ _ _ _ _, _, _, c0, rfl, rfl, hz5, hat0', ?_⟩
        refine ⟨rfl, _, rfl, ?_⟩
        refine ite_oneN (c := c0) (d := 48) (fun z => absurd h48 z) (fun _ => ?_)
        refine ite_b (b := false) (fun z => by cases z) (fun _ => ?_)
        exact ⟨by rw [hlen1]; rfl, rfl⟩
      · refine ⟨fun m σ H' => ∃ i, m = (TL.numL n).length - i ∧ 1 ≤ i ∧ i ≤ (TL.numL n).length ∧ σ = [some (.ref p), some (.int ((cs.length + i : Nat) : Int)), none] ∧ H' = H, ⟨_, 1, rfl, Nat.le_refl _, hl1, rfl, rfl⟩, ?_⟩
        rintro m σ H1 ⟨i, rfl, hi1, hi, rfl, rfl⟩
        refine ⟨_, rfl, p, C, dx, _, _, rfl, h1, T.cl, T.n_source, fs_source _ _ _ _ _, _, rfl, p, C, dx, _, _, rfl, h1, T.cl, T.n_at, fs_at _ _ _ _ _, _, _, c0, rfl, rfl, hz5, hat0', ?_⟩
        refine ⟨rfl, _, rfl, ?_⟩
        refine ite_oneN (c := c0) (d := 48) (fun _ => ?_) (fun z => absurd z h48)
        by_cases hlt : i < (TL.numL n).length
        · have hat : (TL.numL n ++ d :: r)[i]? = some (TL.numL n)[i] := by rw [List.getElem?_append_left hlt, List.getElem?_eq_getElem hlt]
          refine ⟨_, rfl, p, C, dx, _, _, rfl, h1, T.cl, T.n_source, fs_source _ _ _ _ _, _, rfl, _, _, (TL.numL n)[i], rfl, rfl, hz5, (by rw [hsrc]; exact at_app rfl hat), ?_⟩
          refine ⟨_, rfl, _, rfl, ?_⟩
          refine ite_b (b := isDig (TL.numL n)[i]) (fun _ => ?_) (fun z => absurd (digits_ws _ (List.getElem_mem hlt)) (by rw [z]; decide))
          refine ⟨fun σ' H' => ∃ i', i' = i + 1 ∧ σ' = [some (.ref p), some (.int ((cs.length + i' : Nat) : Int)), none] ∧ H' = H1, ?_, ?_⟩
          · rintro σ' H' ⟨i', rfl, rfl, rfl⟩
            exact ⟨(TL.numL n).length - (i + 1), by omega, i + 1, rfl, by omega, hlt, rfl, rfl⟩
          · refine ⟨_, rfl, _, _, rfl, rfl, i + 1, rfl, ?_, rfl⟩
            have e : ((cs.length + i : Nat) : Int) + 1 = ((cs.length + (i + 1) : Nat) : Int) := by omega
            show [some (V.ref p), some (V.int (((cs.length + i : Nat) : Int) + 1)), none] = _
            rw [e]
        · have e : i = (TL.numL n).length := by omega
          subst e
          have hatn : (TL.numL n ++ d :: r)[(TL.numL n).length]? = some d := by rw [List.getElem?_append_right (Nat.le_refl _)]; simp
          refine ⟨_, rfl, p, C, dx, _, _, rfl, h1, T.cl, T.n_source, fs_source _ _ _ _ _, _, rfl, _, _, d, rfl, rfl, hz5, (by rw [hsrc]; exact at_app rfl hatn), ?_⟩
          refine ⟨_, rfl, _, rfl, ?_⟩
          refine ite_b (b := isDig d) (fun z => absurd z (by rw [hdd]; decide)) (fun _ => ?_)
          exact ⟨rfl, rfl⟩
    · rintro σ H' ⟨rfl, rfl⟩
      have hatn : (TL.numL n ++ d :: r)[(TL.numL n).length]? = some d := by rw [List.getElem?_append_right (Nat.le_refl _)]; simp
      refine ⟨_, rfl, p, C, dx, _, _, rfl, h1, T.cl, T.n_source, fs_source _ _ _ _ _, _, rfl, _, _, d, rfl, rfl, hz5, (by rw [hsrc]; exact at_app rfl hatn), ?_⟩
      refine ⟨_, rfl, _, rfl, ?_⟩
      refine ite_b (b := isWs d) (fun z => absurd z (by rw [hd]; decide)) (fun _ => ?_)
      refine ⟨_, rfl, p, C, dx, _, _, rfl, h1, T.cl, T.n_source, fs_source _ _ _ _ _, _, rfl, p, C, dx, _, _, rfl, h1, T.cl, T.n_at, fs_at _ _ _ _ _, _, rfl, _, rfl, _, rfl, _, rfl, hz5, ?_⟩
      have ec : cutS (TX src) (some (cs.length : Int)) (some ((cs.length + (TL.numL n).length : Nat) : Int)) = TX (TL.numL n) := by rw [hsrc]; exact cut_mid rfl rfl
      rw [ec]
      have hnl : (TX (TL.numL n)).length = (TL.numL n).length := TX_len _
      refine ⟨_, rfl, _, rfl, (by rw [hnl]; exact Nat.le_trans hl31 (by decide)), _, _, rfl, rfl, _, rfl, ?_⟩
      refine ite_b (fun z => absurd (of_decide_eq_true z) (by rw [hnl]; omega)) (fun _ => ?_)
      refine ⟨_, rfl, _, (n : Int), rfl, ?_, (by rw [hnl]; omega), _, _, rfl, rfl, _, rfl, ?_⟩
      · have := TL.int_num (n := n) (by omega)
        rw [SX.num_S] at this
        exact this
      · refine ite_b (fun z => absurd (of_decide_eq_true z) (by have : n ≤ 1000000000000000000000000000000 := hn; omega)) (fun _ => ?_)
        exact ⟨_, rfl, p, dx, _, rfl, h1, rfl, _, rfl, p, dx, src, cs, TL.numL n, d :: r, rfl, h1, hsrc, hlen, fun z => dig_nl (digits_ws _ z) rfl, k⟩
end
end VL

set_option Elab.async false
set_option linter.all false
set_option maxRecDepth 100000
set_option maxHeartbeats 4000000
namespace VL
open PySem PySem.Spec PyProof.Rows L2

/-- the sign that is read ahead of d -/
inductive Sg : List Nat → Nat → Prop where
  | pair {s d} (h : s ∈ pairsL) : Sg s d
  | single {c d} (h : c ∈ singlesL) (h2 : [c, d] ∉ pairsL) : Sg [c] d
def spSign (C : Addr) : Sp := fun vs H Q _ => ∃ (p dx : Addr) (src cs r s : List Nat) (d : Nat), vs = [.ref p] ∧ H p = some (.ins C dx (fsAt src cs)) ∧ src = cs ++ (s ++ d :: r) ∧ src.length ≤ 100000 ∧ Sg s d ∧
  Q (.str (TX s)) (upd H p (.ins C dx (fsAt src (cs ++ s))))
theorem inV_TX (n : List Nat) : ∀ ns : List (List Nat), inV (.str (TX n)) (ns.map fun l => V.str (TX l)) = decide (n ∈ ns)
  | [] => rfl
  | a :: ns => by
    show (eqV (.str (TX a)) (.str (TX n)) || inV (.str (TX n)) (ns.map fun l => V.str (TX l))) = _
    rw [inV_TX n ns]
    show ((TX a == TX n) || decide (n ∈ ns)) = decide (n ∈ a :: ns)
    by_cases e : a = n
    · subst e
      simp
    · have e2 : n ≠ a := fun q => e q.symm
      have e3 : (TX a == TX n) = false := beq_eq_false_iff_ne.mpr fun q => e (TX_inj q)
      simp [e2, e3]
theorem flat_TX : ∀ ns : List (List Nat), (ns.map fun l => V.str (TX l)).all flatV = true
  | [] => rfl
  | a :: ns => by
    show (true && (ns.map fun l => V.str (TX l)).all flatV) = true
    rw [flat_TX ns]
    rfl
theorem pairs_two {s : List Nat} (h : s ∈ pairsL) : ∃ a b, s = [a, b] ∧ a ≠ 10 ∧ b ≠ 10 := by
  simp at h
  rcases h with rfl | rfl | rfl | rfl | rfl | rfl | rfl <;> exact ⟨_, _, rfl, by decide, by decide⟩
theorem singles_nl {c : Nat} (h : c ∈ singlesL) : c ≠ 10 := by
  intro e
  subst e
  revert h
  decide
section
variable {P : Program} {w : World} {K : PySem.W.Frag} {mg : Str → Option Value} {base : Heap} {C : Addr}
theorem sc_Scanner_take_sign : FnScope ["self"] ["self"] (defScope s_Scanner_take_sign) := ⟨rfl, rfl, rfl, by decide +kernel, rfl, by decide +kernel, by decide +kernel⟩
theorem ok_take_sign (T : Txt K w mg C) : Met P w K mg base 2 C "take_sign" (spSign C) := by
  have Mtake_until : Met P w K mg base 1 C "take_until" (spUntil C) := ok_take_until T
  obtain ⟨aP, gP, sP⟩ := T.t_PAIRS
  refine met_of T.m_take_sign T.cl sc_Scanner_take_sign (fun vs H Q E h => ?_) (fun f cdv A outer s H vs Q E hr h => ?_)
  · obtain ⟨p, dx, src, cs, r, s, d, rfl, _⟩ := h
    rfl
  · obtain ⟨p, dx, src, cs, r, s, d, rfl, h1, hsrc, hlen, hs, k⟩ := h
    have hz5 : (TX src).length ≤ sizeLine := by rw [TX_len]; exact size5 hlen
    refine ⟨_, (pss_cons (ps_if (pt_cmpR op_in_seq (pe_slice sl_str (pe_fld (pv 0) rfl) (po_some (pe_fld (pv 0) rfl)) (po_some (pe_op op_add (pe_fld (pv 0) rfl) pe_int))) (C8.pe_gc (by rfl) gP) rfl) (pss_one (ps_ret (pe_mt Mtake_until hr (by decide) (pv 0) (pa_cons (pe_op op_add (pe_fld (pv 0) rfl) pe_int) pa_nil)))) pss_nil) (pss_cons (ps_if (pt_cmpR op_notIn_sign (pe_ix ix_str (pe_fld (pv 0) rfl) (pe_fld (pv 0) rfl) (fun _ _ => rfl)) (C8.pe_gc (by rfl) T.g_SINGLES) rfl) (pss_one ps_never) pss_nil) (pss_one (ps_ret (pe_mt Mtake_until hr (by decide) (pv 0) (pa_cons (pe_op op_add (pe_fld (pv 0) rfl) pe_int) pa_nil)))))), ?_⟩
    refine ⟨_, rfl, p, C, dx, _, _, rfl, h1, T.cl, T.n_source, fs_source _ _ _ _ _, _, rfl, p, C, dx, _, _, rfl, h1, T.cl, T.n_at, fs_at _ _ _ _ _, _, rfl, _, rfl, p, C, dx, _, _, rfl, h1, T.cl, T.n_at, fs_at _ _ _ _ _, _, _, rfl, rfl, _, rfl, _, rfl, hz5, ?_⟩
    cases hs with
    | pair h =>
      obtain ⟨a, b, rfl, na, nb⟩ := pairs_two h
      have ec : cutS (TX src) (some (cs.length : Int)) (some ((cs.length : Int) + 2)) = TX [a, b] := by rw [hsrc]; exact cut_mid rfl rfl
      refine ⟨aP, _, rfl, .inr (sP H), rfl, flat_TX pairsL, _, rfl, ?_⟩
      refine ite_b (fun _ => ?_) (fun z => ?_)
      · exact ⟨_, rfl, p, dx, _, rfl, h1, rfl, _, rfl, p, C, dx, _, _, rfl, h1, T.cl, T.n_at, fs_at _ _ _ _ _, _, _, rfl, rfl, p, dx, src, cs, [a, b], d :: r, rfl, h1, hsrc, hlen, by simp [Ne.symm na, Ne.symm nb], k⟩
      · exfalso
        revert z
        show ¬ inV (.str (cutS (TX src) (some (cs.length : Int)) (some ((cs.length : Int) + 2)))) (pairsL.map fun l => V.str (TX l)) = false
        rw [ec, inV_TX, decide_eq_true h]
        decide
    | @single c _ h h2 =>
      have ec : cutS (TX src) (some (cs.length : Int)) (some ((cs.length : Int) + 2)) = TX [c, d] := by rw [hsrc]; exact cut_mid (m := [c, d]) rfl rfl
      refine ⟨aP, _, rfl, .inr (sP H), rfl, flat_TX pairsL, _, rfl, ?_⟩
      refine ite_b (fun z => ?_) (fun _ => ?_)
      · exfalso
        revert z
        show ¬ inV (.str (cutS (TX src) (some (cs.length : Int)) (some ((cs.length : Int) + 2)))) (pairsL.map fun l => V.str (TX l)) = true
        rw [ec, inV_TX, decide_eq_false h2]
        decide
      · refine ⟨_, rfl, p, C, dx, _, _, rfl, h1, T.cl, T.n_source, fs_source _ _ _ _ _, _, rfl, p, C, dx, _, _, rfl, h1, T.cl, T.n_at, fs_at _ _ _ _ _, _, _, c, rfl, rfl, hz5, (by rw [hsrc]; exact at_app (i := 0) (m := [c]) rfl rfl), ?_⟩
        refine ⟨c, _, rfl, rfl, _, rfl, ?_⟩
        refine ite_b (fun z => ?_) (fun _ => ?_)
        · exfalso
          revert z
          show ¬ (!decide (c ∈ (TX singlesL).cps.toList)) = true
          rw [TX_tl, decide_eq_true h]
          decide
        · exact ⟨_, rfl, p, dx, _, rfl, h1, rfl, _, rfl, p, C, dx, _, _, rfl, h1, T.cl, T.n_at, fs_at _ _ _ _ _, _, _, rfl, rfl, p, dx, src, cs, [c], d :: r, rfl, h1, hsrc, hlen, by simp [Ne.symm (singles_nl h)], k⟩
end

/-! ### texts -/
def esc1 (c : Nat) : List Nat := if c = 10 then [92, 110] else if c = 34 then [92, 34] else if c = 92 then [92, 92] else [c]
def escL (t : List Nat) : List Nat := t.flatMap esc1
theorem escL_cons (c : Nat) (t : List Nat) : escL (c :: t) = esc1 c ++ escL t := rfl
theorem escL_app (a b : List Nat) : escL (a ++ b) = escL a ++ escL b := by unfold escL; rw [List.flatMap_append]
/-- a sign that stands for itself, or a backslash and what follows it -/
theorem esc1_two (c : Nat) : (esc1 c = [c] ∧ c ≠ 10 ∧ c ≠ 34 ∧ c ≠ 92) ∨ ∃ x, esc1 c = [92, x] ∧ x ≠ 10 ∧ ((x = 110 ∧ c = 10) ∨ (x = 34 ∧ c = 34) ∨ (x = 92 ∧ c = 92)) := by
  unfold esc1
  split
  · exact .inr ⟨110, rfl, by decide, .inl ⟨rfl, by assumption⟩⟩
  · split
    · exact .inr ⟨34, rfl, by decide, .inr (.inl ⟨rfl, by assumption⟩)⟩
    · split
      · exact .inr ⟨92, rfl, by decide, .inr (.inr ⟨rfl, by assumption⟩)⟩
      · exact .inl ⟨rfl, by assumption, by assumption, by assumption⟩
theorem escL_nl : ∀ t : List Nat, 10 ∉ escL t
  | [] => by simp [escL]
  | c :: t => by
    rw [escL_cons, List.mem_append]
    rintro (h | h)
    · rcases esc1_two c with ⟨e, n1, _, _⟩ | ⟨x, e, n1, _⟩
      · rw [e] at h
        exact n1 (List.mem_singleton.mp h).symm
      · rw [e] at h
        simp at h
        exact n1 h.symm
    · exact escL_nl t h
def spTextEnd (C : Addr) : Sp := fun vs H Q _ => ∃ (p dx : Addr) (src cs r t : List Nat), vs = [.ref p] ∧ H p = some (.ins C dx (fsAt src cs)) ∧ src = cs ++ (34 :: (escL t ++ 34 :: r)) ∧ src.length ≤ 100000 ∧
  Q (.int ((cs.length + (1 + (escL t).length) : Nat) : Int)) H
def spTextS (C : Addr) : Sp := fun vs H Q _ => ∃ (p dx : Addr) (src cs r t : List Nat), vs = [.ref p] ∧ H p = some (.ins C dx (fsAt src cs)) ∧ src = cs ++ (34 :: (escL t ++ 34 :: r)) ∧ src.length ≤ 100000 ∧
  ∀ l, H l = none → Q (.str (TX t)) (upd (upd H l (.lst (t.map fun c => V.str (TX [c])))) p (.ins C dx (fsAt src (cs ++ (34 :: (escL t ++ [34]))))))
section
variable {P : Program} {w : World} {K : PySem.W.Frag} {mg : Str → Option Value} {base : Heap} {C : Addr}
theorem sc_Scanner_text_end : FnScope ["self", "at"] ["self"] (defScope s_Scanner_text_end) := ⟨rfl, rfl, rfl, by decide +kernel, rfl, by decide +kernel, by decide +kernel⟩
theorem ok_text_end (T : Txt K w mg C) : Met P w K mg base 1 C "text_end" (spTextEnd C) := by
  refine met_of T.m_text_end T.cl sc_Scanner_text_end (fun vs H Q E h => ?_) (fun f cdv A outer s H vs Q E hr h => ?_)
  · obtain ⟨p, dx, src, cs, r, t, rfl, _⟩ := h
    rfl
  · obtain ⟨p, dx, src, cs, r, t, rfl, h1, hsrc, hlen, k⟩ := h
    have hz5 : (TX src).length ≤ sizeLine := by rw [TX_len]; exact size5 hlen
    refine ⟨_, (pss_cons (ps_set (i := 1) sc_Scanner_text_end.nd rfl (Or.inl rfl) (pe_op op_add (pe_fld (pv 0) rfl) pe_int)) (pss_cons (ps_while PassesOwn.never (pt_cmpR op_ne (pe_ix ix_str (pe_fld (pv 0) rfl) (pv 1) (fun _ _ => rfl)) pe_str (nomark _)) (pss_cons (ps_if ((pw_and (pt_cmpR op_eq (pe_ix ix_str (pe_fld (pv 0) rfl) (pv 1) (fun _ _ => rfl)) pe_str (nomark _)) (pw_and1 (pt_cmpR op_ne (pe_ix ix_str (pe_fld (pv 0) rfl) (pe_op op_add (pv 1) pe_int) (fun _ _ => rfl)) pe_str (nomark _))))).pt (pss_one (ps_aug (i := 1) sc_Scanner_text_end.nd rfl (Or.inl rfl) pe_int ip_add)) (pss_one (ps_if (pt_cmpR op_eq (pe_ix ix_str (pe_fld (pv 0) rfl) (pv 1) (fun _ _ => rfl)) pe_str (nomark _)) (pss_one ps_never) pss_nil))) (pss_one (ps_aug (i := 1) sc_Scanner_text_end.nd rfl (Or.inl rfl) pe_int ip_add)))) (pss_one (ps_ret (pv 1))))), ?_⟩
    refine ⟨_, rfl, p, C, dx, _, _, rfl, h1, T.cl, T.n_at, fs_at _ _ _ _ _, _, _, rfl, rfl, ?_⟩
    refine ⟨fun m σ H' => ∃ t1 t2, m = t2.length ∧ t = t1 ++ t2 ∧ σ = [some (.ref p), some (.int ((cs.length + (1 + (escL t1).length) : Nat) : Int))] ∧ H' = H, ⟨_, [], t, rfl, rfl, rfl, rfl⟩, ?_⟩
    rintro m σ H1 ⟨t1, t2, rfl, rfl, rfl, rfl⟩
    -- what stands at the place
    have hat : ∀ (x : List Nat) (j : Nat) (c : Nat) (z : Int), z = ((cs.length + (1 + (escL t1).length) : Nat) : Int) + (j : Int) → escL t2 ++ 34 :: r = x → x[j]? = some c → atI (TX src).cps.toList z = some c := by
      intro x j c z hz ex hx
      have e2 : src = cs ++ ((34 :: escL t1) ++ x) := by rw [hsrc, escL_app, ← ex]; simp
      rw [e2]
      refine at_app (i := 1 + (escL t1).length + j) (by rw [hz]; omega) ?_
      rw [List.getElem?_append_right (by simp; omega)]
      have e3 : 1 + (escL t1).length + j - (34 :: escL t1).length = j := by simp; omega
      rw [e3]
      exact hx
    cases t2 with
    | nil =>
      refine ⟨_, rfl, p, C, dx, _, _, rfl, h1, T.cl, T.n_source, fs_source _ _ _ _ _, _, rfl, _, _, 34, rfl, rfl, hz5, hat _ 0 34 _ (by omega) rfl rfl, ?_⟩
      refine ⟨rfl, _, rfl, ?_⟩
      refine ite_oneN (c := 34) (d := 34) (fun z => absurd rfl z) (fun _ => ?_)
      rw [List.append_nil] at k
      exact ⟨_, rfl, k⟩
    | cons c t2 =>
      have hgo : ∀ (j : Nat), j = (esc1 c).length → ∃ m', m' < (c :: t2).length ∧ ∃ u1 u2, m' = u2.length ∧ t1 ++ c :: t2 = u1 ++ u2 ∧ [some (V.ref p), some (V.int (((cs.length + (1 + (escL t1).length) : Nat) : Int) + (j : Int)))] = [some (V.ref p), some (.int ((cs.length + (1 + (escL u1).length) : Nat) : Int))] ∧ H1 = H1 := by
        intro j hj
        refine ⟨t2.length, by simp, t1 ++ [c], t2, rfl, by simp, ?_, rfl⟩
        have e : ((cs.length + (1 + (escL t1).length) : Nat) : Int) + (j : Int) = ((cs.length + (1 + (escL (t1 ++ [c])).length) : Nat) : Int) := by
          rw [escL_app, List.length_append, hj]
          have : (escL [c]).length = (esc1 c).length := by unfold escL; simp
          rw [this]
          omega
        rw [e]
      have es : escL (c :: t2) ++ 34 :: r = esc1 c ++ (escL t2 ++ 34 :: r) := by rw [escL_cons, List.append_assoc]
      rcases esc1_two c with ⟨e, n1, n2, n3⟩ | ⟨x, e, n1, _⟩
      · rw [e] at es
        refine ⟨_, rfl, p, C, dx, _, _, rfl, h1, T.cl, T.n_source, fs_source _ _ _ _ _, _, rfl, _, _, c, rfl, rfl, hz5, hat _ 0 c _ (by omega) es rfl, ?_⟩
        refine ⟨rfl, _, rfl, ?_⟩
        refine ite_oneN (c := c) (d := 34) (fun _ => ?_) (fun z => absurd z n2)
        refine ⟨fun σ' H' => ∃ m', m' < (c :: t2).length ∧ ∃ u1 u2, m' = u2.length ∧ t1 ++ c :: t2 = u1 ++ u2 ∧ σ' = [some (V.ref p), some (.int ((cs.length + (1 + (escL u1).length) : Nat) : Int))] ∧ H' = H1, fun σ' H' z => z, ?_⟩
        refine ⟨_, rfl, p, C, dx, _, _, rfl, h1, T.cl, T.n_source, fs_source _ _ _ _ _, _, rfl, _, _, c, rfl, rfl, hz5, hat _ 0 c _ (by omega) es rfl, ?_⟩
        refine ⟨rfl, _, rfl, ?_⟩
        refine ite_one (c := c) (d := 92) (fun z => absurd z n3) (fun _ => ?_)
        refine ite_b (b := false) (fun z => by cases z) (fun _ => ?_)
        refine ⟨_, rfl, p, C, dx, _, _, rfl, h1, T.cl, T.n_source, fs_source _ _ _ _ _, _, rfl, _, _, c, rfl, rfl, hz5, hat _ 0 c _ (by omega) es rfl, ?_⟩
        refine ⟨rfl, _, rfl, ?_⟩
        refine ite_one (c := c) (d := 10) (fun z => absurd z n1) (fun _ => ?_)
        exact ⟨_, rfl, _, _, rfl, rfl, hgo 1 (by rw [e]; rfl)⟩
      · rw [e] at es
        refine ⟨_, rfl, p, C, dx, _, _, rfl, h1, T.cl, T.n_source, fs_source _ _ _ _ _, _, rfl, _, _, 92, rfl, rfl, hz5, hat _ 0 92 _ (by omega) es rfl, ?_⟩
        refine ⟨rfl, _, rfl, ?_⟩
        refine ite_oneN (c := 92) (d := 34) (fun _ => ?_) (fun z => by cases z)
        refine ⟨fun σ' H' => ∃ m', m' < (c :: t2).length ∧ ∃ u1 u2, m' = u2.length ∧ t1 ++ c :: t2 = u1 ++ u2 ∧ σ' = [some (V.ref p), some (.int ((cs.length + (1 + (escL u1).length) : Nat) : Int))] ∧ H' = H1, fun σ' H' z => z, ?_⟩
        refine ⟨_, rfl, p, C, dx, _, _, rfl, h1, T.cl, T.n_source, fs_source _ _ _ _ _, _, rfl, _, _, 92, rfl, rfl, hz5, hat _ 0 92 _ (by omega) es rfl, ?_⟩
        refine ⟨rfl, _, rfl, ?_⟩
        refine ite_one (c := 92) (d := 92) (fun _ => ?_) (fun z => absurd rfl z)
        refine ⟨_, rfl, p, C, dx, _, _, rfl, h1, T.cl, T.n_source, fs_source _ _ _ _ _, _, rfl, _, _, rfl, rfl, _, _, x, rfl, rfl, hz5, hat _ 1 x _ rfl es rfl, ?_⟩
        refine ⟨rfl, _, rfl, ?_⟩
        refine ite_oneN (c := x) (d := 10) (fun _ => ?_) (fun z => absurd z n1)
        refine ⟨_, rfl, _, _, rfl, rfl, _, rfl, _, _, rfl, rfl, ?_⟩
        have := hgo 2 (by rw [e]; rfl)
        have e4 : ((cs.length + (1 + (escL t1).length) : Nat) : Int) + ((2 : Nat) : Int) = ((cs.length + (1 + (escL t1).length) : Nat) : Int) + 1 + 1 := by omega
        rw [e4] at this
        exact this
end
end VL

set_option Elab.async false
set_option linter.all false
set_option maxRecDepth 100000
set_option maxHeartbeats 4000000
namespace VL
open PySem PySem.Spec PyProof.Rows L2

theorem joinL_ones : ∀ t : List Nat, TL.joinL [] (t.map fun c => [c]) = t
  | [] => rfl
  | [c] => rfl
  | c :: d :: r => by
    have := joinL_ones (d :: r)
    show [c] ++ ([] ++ TL.joinL [] ((d :: r).map fun c => [c])) = c :: d :: r
    rw [this]
    rfl
theorem join_ones (t : List Nat) : Txt.join (TX []) (t.map fun c => TX [c]) = TX t := by
  have := SX.join_S [] (t.map fun c => [c])
  rw [joinL_ones, List.map_map] at this
  exact this
theorem ones_sum : ∀ t : List Nat, ((t.map fun c => TX [c]).map (·.length)).sum = t.length
  | [] => rfl
  | c :: t => by
    have := ones_sum t
    simp only [List.map_cons, List.sum_cons, List.length_cons] at this ⊢
    rw [this]
    have e : (TX [c]).length = 1 := rfl
    omega
theorem escL_len : ∀ t : List Nat, t.length ≤ (escL t).length
  | [] => Nat.zero_le _
  | c :: t => by
    rw [escL_cons, List.length_append, List.length_cons]
    have := escL_len t
    rcases esc1_two c with ⟨e, _⟩ | ⟨x, e, _⟩ <;> rw [e] <;> simp <;> omega
section
variable {P : Program} {w : World} {K : PySem.W.Frag} {mg : Str → Option Value} {base : Heap} {C : Addr}
theorem sc_Scanner_take_text : FnScope ["self", "end", "signs", "at", "sign"] ["self"] (defScope s_Scanner_take_text) := ⟨rfl, rfl, rfl, by decide +kernel, rfl, by decide +kernel, by decide +kernel⟩
theorem ok_take_text (T : Txt K w mg C) : Met P w K mg base 2 C "take_text" (spTextS C) := by
  have Mtext_end : Met P w K mg base 1 C "text_end" (spTextEnd C) := ok_text_end T
  obtain ⟨aE, esE, nE, gE, kE, ⟨u34, e34, r34⟩, ⟨u92, e92, r92⟩, ⟨u110, e110, r110⟩⟩ := T.t_ESCAPES
  refine met_of T.m_take_text T.cl sc_Scanner_take_text (fun vs H Q E h => ?_) (fun f cdv A outer s H vs Q E hr h => ?_)
  · obtain ⟨p, dx, src, cs, r, t, rfl, _⟩ := h
    rfl
  · obtain ⟨p, dx, src, cs, r, t, rfl, h1, hsrc, hlen, k⟩ := h
    have hz5 : (TX src).length ≤ sizeLine := by rw [TX_len]; exact size5 hlen
    have ht5 : t.length ≤ 100000 := by
      have h1 := escL_len t
      have h2 : (escL t).length ≤ src.length := by rw [hsrc]; simp; omega
      omega
    refine ⟨_, (pss_cons (ps_set (i := 1) sc_Scanner_take_text.nd rfl (Or.inl rfl) (pe_mt0 Mtext_end hr (by decide) (pv 0))) (pss_cons (ps_set (i := 2) sc_Scanner_take_text.nd rfl (Or.inl rfl) (pe_lst pa_nil)) (pss_cons (ps_set (i := 3) sc_Scanner_take_text.nd rfl (Or.inl rfl) (pe_op op_add (pe_fld (pv 0) rfl) pe_int)) (pss_cons (ps_while PassesOwn.never (pt_cmpR op_lt (pv 3) (pv 1) (nomark _)) (pss_cons (ps_set (i := 4) sc_Scanner_take_text.nd rfl (Or.inl rfl) (pe_ix ix_str (pe_fld (pv 0) rfl) (pv 3) (fun _ _ => rfl))) (pss_cons (ps_if (pt_cmpR op_eq (pv 4) pe_str (nomark _)) (pss_cons (ps_if (pt_cmpR (op_notIn_kd kE) (pe_ix ix_str (pe_fld (pv 0) rfl) (pe_op op_add (pv 3) pe_int) (fun _ _ => rfl)) (C8.pe_gc (by rfl) gE) rfl) (pss_one ps_never) pss_nil) (pss_cons (ps_set (i := 4) sc_Scanner_take_text.nd rfl (Or.inl rfl) (pe_ix ix_kdict (C8.pe_gc (by rfl) gE) (pe_ix ix_str (pe_fld (pv 0) rfl) (pe_op op_add (pv 3) pe_int) (fun _ _ => rfl)) (fun _ _ => rfl))) (pss_one (ps_aug (i := 3) sc_Scanner_take_text.nd rfl (Or.inl rfl) pe_int ip_add)))) pss_nil) (pss_cons (ps_expr (pe_bm PySem.F.plainAttrs_list PySem.F.slot_list_append PySem.F.type_list_append mt_append (pv 2) (pa_cons (pv 4) pa_nil))) (pss_one (ps_aug (i := 3) sc_Scanner_take_text.nd rfl (Or.inl rfl) pe_int ip_add)))))) (pss_cons (ps_fld (pv 0) (pe_op op_add (pv 1) pe_int) rfl) (pss_one (ps_ret (pe_join pe_str (pv 2))))))))), ?_⟩
    refine ⟨_, rfl, p, dx, _, rfl, h1, rfl, p, dx, src, cs, r, t, rfl, h1, hsrc, hlen, ?_⟩
    refine ⟨Nat.zero_le _, fun l hl => ?_⟩
    have npl : p ≠ l := ne_of_none h1 hl
    have hp : ∀ o, upd H l o p = some (.ins C dx (fsAt src cs)) := fun o => by rw [upd_ne npl]; exact h1
    refine ⟨_, rfl, p, C, dx, _, _, rfl, (hp _), T.cl, T.n_at, fs_at _ _ _ _ _, _, _, rfl, rfl, ?_⟩
    refine ⟨fun m σ H' => ∃ t1 t2 sg, m = t2.length ∧ t = t1 ++ t2 ∧ σ = [some (.ref p), some (.int ((cs.length + (1 + (escL t).length) : Nat) : Int)), some (.ref l), some (.int ((cs.length + (1 + (escL t1).length) : Nat) : Int)), sg] ∧ H' = upd H l (.lst (t1.map fun c => V.str (TX [c]))),
      ⟨_, [], t, none, rfl, rfl, rfl, rfl⟩, ?_⟩
    rintro m σ H1 ⟨t1, t2, sg, rfl, et, rfl, rfl⟩
    have hat : ∀ (x : List Nat) (j : Nat) (c : Nat) (z : Int), z = ((cs.length + (1 + (escL t1).length) : Nat) : Int) + (j : Int) → escL t2 ++ 34 :: r = x → x[j]? = some c → atI (TX src).cps.toList z = some c := by
      intro x j c z hz ex hx
      have e2 : src = cs ++ ((34 :: escL t1) ++ x) := by rw [hsrc, et, escL_app, ← ex]; simp
      rw [e2]
      refine at_app (i := 1 + (escL t1).length + j) (by rw [hz]; omega) ?_
      rw [List.getElem?_append_right (by simp; omega)]
      have e3 : 1 + (escL t1).length + j - (34 :: escL t1).length = j := by simp; omega
      rw [e3]
      exact hx
    refine ⟨_, rfl, _, rfl, _, _, rfl, rfl, _, rfl, ?_⟩
    refine ite2 (fun q => ?_) (fun q => ?_)
    · have q := of_decide_eq_true q
      cases t2 with
      | nil =>
        rw [List.append_nil] at et
        rw [et] at q
        omega
      | cons c t2 =>
        have hgo : ∀ (j : Nat) (sg : Option V), j = (esc1 c).length → ∃ m', m' < (c :: t2).length ∧ ∃ u1 u2 sg2, m' = u2.length ∧ t = u1 ++ u2 ∧ [some (V.ref p), some (.int ((cs.length + (1 + (escL t).length) : Nat) : Int)), some (V.ref l), some (V.int (((cs.length + (1 + (escL t1).length) : Nat) : Int) + (j : Int))), sg] = [some (V.ref p), some (.int ((cs.length + (1 + (escL t).length) : Nat) : Int)), some (.ref l), some (.int ((cs.length + (1 + (escL u1).length) : Nat) : Int)), sg2] ∧
            upd (upd H l (.lst (t1.map fun c => V.str (TX [c])))) l (.lst ((t1.map fun c => V.str (TX [c])) ++ [V.str (TX [c])])) = upd H l (.lst (u1.map fun c => V.str (TX [c]))) := by
          intro j sg hj
          refine ⟨t2.length, by simp, t1 ++ [c], t2, sg, rfl, by rw [et]; simp, ?_, by rw [upd_upd, List.map_append]; rfl⟩
          have e : ((cs.length + (1 + (escL t1).length) : Nat) : Int) + (j : Int) = ((cs.length + (1 + (escL (t1 ++ [c])).length) : Nat) : Int) := by
            rw [escL_app, List.length_append, hj]
            have : (escL [c]).length = (esc1 c).length := by unfold escL; simp
            rw [this]
            omega
          rw [e]
        have es : escL (c :: t2) ++ 34 :: r = esc1 c ++ (escL t2 ++ 34 :: r) := by rw [escL_cons, List.append_assoc]
        have hl1 : upd H l (.lst (t1.map fun c => V.str (TX [c]))) l = some (.lst (t1.map fun c => V.str (TX [c]))) := upd_same
        have hlt : (t1.map fun c => V.str (TX [c])).length < sizeLine := by
          rw [List.length_map]
          have : t1.length ≤ 100000 := by
            have := congrArg List.length et
            rw [List.length_append] at this
            omega
          exact Nat.lt_of_le_of_lt this (by decide)
        refine ⟨fun σ' H' => ∃ m', m' < (c :: t2).length ∧ ∃ u1 u2 sg2, m' = u2.length ∧ t = u1 ++ u2 ∧ σ' = [some (V.ref p), some (.int ((cs.length + (1 + (escL t).length) : Nat) : Int)), some (.ref l), some (.int ((cs.length + (1 + (escL u1).length) : Nat) : Int)), sg2] ∧ H' = upd H l (.lst (u1.map fun c => V.str (TX [c]))), fun σ' H' z => z, ?_⟩
        rcases esc1_two c with ⟨e, n1, n2, n3⟩ | ⟨x, e, n1, hx⟩
        · rw [e] at es
          refine ⟨_, rfl, p, C, dx, _, _, rfl, (hp _), T.cl, T.n_source, fs_source _ _ _ _ _, _, rfl, _, _, c, rfl, rfl, hz5, hat _ 0 c _ (by omega) es rfl, ?_⟩
          refine ⟨_, rfl, rfl, _, rfl, ?_⟩
          refine ite_one (c := c) (d := 92) (fun z => absurd z n3) (fun _ => ?_)
          refine ⟨_, rfl, .inl ⟨rfl, _, SqL.of hl1⟩, _, rfl, l, _, _, rfl, rfl, hl1, hlt, ?_⟩
          exact ⟨_, rfl, _, _, rfl, rfl, hgo 1 _ (by rw [e]; rfl)⟩
        · rw [e] at es
          refine ⟨_, rfl, p, C, dx, _, _, rfl, (hp _), T.cl, T.n_source, fs_source _ _ _ _ _, _, rfl, _, _, 92, rfl, rfl, hz5, hat _ 0 92 _ (by omega) es rfl, ?_⟩
          refine ⟨_, rfl, rfl, _, rfl, ?_⟩
          refine ite_one (c := 92) (d := 92) (fun _ => ?_) (fun z => absurd rfl z)
          have hk : ∃ u, PySem.W.nsIn K aE (TX [x]) = some (some u) ∧ RelV (.str (TX [c])) u := by
            rcases hx with ⟨rfl, rfl⟩ | ⟨rfl, rfl⟩ | ⟨rfl, rfl⟩
            · exact ⟨u110, e110, r110⟩
            · exact ⟨u34, e34, r34⟩
            · exact ⟨u92, e92, r92⟩
          obtain ⟨ux, ex, rx⟩ := hk
          refine ⟨_, rfl, p, C, dx, _, _, rfl, (hp _), T.cl, T.n_source, fs_source _ _ _ _ _, _, rfl, _, _, rfl, rfl, _, _, x, rfl, rfl, hz5, hat _ 1 x _ rfl es rfl, ?_⟩
          refine ⟨_, _, rfl, rfl, ex, _, rfl, ?_⟩
          refine ite_b (b := !(some ux).isSome) (fun z => by cases z) (fun _ => ?_)
          refine ⟨_, rfl, p, C, dx, _, _, rfl, (hp _), T.cl, T.n_source, fs_source _ _ _ _ _, _, rfl, _, _, rfl, rfl, _, _, x, rfl, rfl, hz5, hat _ 1 x _ rfl es rfl, ?_⟩
          refine ⟨aE, _, .str (TX [c]), rfl, rfl, ⟨esE, nE, ux, kE.at_, kE.lit, ex, rx⟩, ?_⟩
          refine ⟨_, rfl, _, _, rfl, rfl, ?_⟩
          refine ⟨_, rfl, .inl ⟨rfl, _, SqL.of hl1⟩, _, rfl, l, _, _, rfl, rfl, hl1, hlt, ?_⟩
          refine ⟨_, rfl, _, _, rfl, rfl, ?_⟩
          have := hgo 2 (some (.str (TX [c]))) (by rw [e]; rfl)
          have e4 : ((cs.length + (1 + (escL t1).length) : Nat) : Int) + ((2 : Nat) : Int) = ((cs.length + (1 + (escL t1).length) : Nat) : Int) + 1 + 1 := by omega
          rw [e4] at this
          exact this
    · have q : ¬ (((cs.length + (1 + (escL t1).length) : Nat) : Int) < ((cs.length + (1 + (escL t).length) : Nat) : Int)) := fun z => q (decide_eq_true z)
      have h2 : t2 = [] := by
        cases t2 with
        | nil => rfl
        | cons c t2 =>
          exfalso
          apply q
          rw [et, escL_app, List.length_append, escL_cons, List.length_append]
          have : 1 ≤ (esc1 c).length := by rcases esc1_two c with ⟨e, _⟩ | ⟨x, e, _⟩ <;> rw [e] <;> simp
          omega
      subst h2
      rw [List.append_nil] at et
      subst et
      refine ⟨_, rfl, _, _, rfl, rfl, _, rfl, p, C, dx, _, rfl, (hp _), T.cl, T.n_at, (by show 5 < 1000; decide), ?_⟩
      rw [putA_at, fsAt_plain (m := 34 :: (escL t ++ [34])) (by simp [escL_nl]) (by simp; omega)]
      have hl2 : upd (upd H l (.lst (t.map fun c => V.str (TX [c])))) p (.ins C dx (fsAt src (cs ++ (34 :: (escL t ++ [34]))))) l = some (.lst (t.map fun c => V.str (TX [c]))) := by rw [upd_ne npl.symm, upd_same]
      refine ⟨⟨_, rfl⟩, _, rfl, TX [], l, t.map fun c => TX [c], rfl, rfl, .inl (SqL.of (by rw [List.map_map]; exact hl2)), ?_, ?_⟩
      · rw [ones_sum]
        have e : (TX []).length = 0 := rfl
        rw [e]
        omega
      · rw [join_ones]
        exact k l hl
end
end VL

set_option Elab.async false
set_option linter.all false
set_option maxRecDepth 100000
set_option maxHeartbeats 4000000
namespace VL
open PySem PySem.Spec PyProof.Rows L2

/-- a token of this sort, with this word, so written, ahead of d -/
inductive Tk : Str → List Nat → List Nat → Nat → Prop where
  | word {c r d} (hc : isLet c = true) (hw : ∀ x ∈ c :: r, isWs x = true) (hd : isWs d = false) : Tk "word" (c :: r) (c :: r) d
  | number {n d} (h : n ≤ 10 ^ 30) (hd : isWs d = false) : Tk "number" (TL.numL n) (TL.numL n) d
  | text {t d} : Tk "text" t (34 :: (escL t ++ [34])) d
  | closing {c r d} (hc : isLet c = true) (hw : ∀ x ∈ c :: r, isWs x = true) (hd : isWs d = false) : Tk "closing" (c :: r) (60 :: 47 :: c :: r) d
  | sign {s d} (h : Sg s d) (h3 : ∀ c, s = [c] → (c = 60 → d ≠ 47) ∧ (c = 47 → d ≠ 47)) : Tk "sign" s s d
theorem sg_head {s : List Nat} {d : Nat} (h : Sg s d) : ∃ c r, s = c :: r ∧ isLet c = false ∧ isDig c = false ∧ c ≠ 34 ∧ c ≠ 10 ∧ c ≠ 32 ∧ 10 ∉ s ∧ (r = [] ∨ ∃ b, r = [b] ∧ b ≠ 47) := by
  cases h with
  | pair h =>
    simp at h
    rcases h with rfl | rfl | rfl | rfl | rfl | rfl | rfl <;> exact ⟨_, _, rfl, by decide, by decide, by decide, by decide, by decide, by decide, .inr ⟨_, rfl, by decide⟩⟩
  | single h _ =>
    have : ∀ c ∈ singlesL, isLet c = false ∧ isDig c = false ∧ c ≠ 34 ∧ c ≠ 10 ∧ c ≠ 32 := by decide
    obtain ⟨h1, h2, h3, h4, h5⟩ := this _ h
    exact ⟨_, [], rfl, h1, h2, h3, h4, h5, by simp [Ne.symm h4], .inl rfl⟩
theorem dig_let {c : Nat} (h : isDig c = true) : isLet c = false := by
  unfold isDig at h
  rw [Bool.and_eq_true, decide_eq_true_eq, decide_eq_true_eq] at h
  unfold isLet
  rw [decide_eq_false (show ¬ 97 ≤ c by omega), decide_eq_false (show ¬ 65 ≤ c by omega)]
  rfl
theorem let_ne {c : Nat} (h : isLet c = true) : c ≠ 10 ∧ c ≠ 32 ∧ c ≠ 47 := by
  refine ⟨fun e => ?_, fun e => ?_, fun e => ?_⟩ <;> subst e <;> revert h <;> decide
theorem dig_ne {c : Nat} (h : isDig c = true) : c ≠ 10 ∧ c ≠ 32 ∧ c ≠ 47 := by
  refine ⟨fun e => ?_, fun e => ?_, fun e => ?_⟩ <;> subst e <;> revert h <;> decide
/-- no token begins with a blank or a comment, none has a newline in it -/
theorem tk_head {so : Str} {wo wr : List Nat} {d : Nat} (h : Tk so wo wr d) : 10 ∉ wr ∧ ∀ r, ∃ c q, wr ++ d :: r = c :: q ∧ wr ≠ [] ∧ c ≠ 10 ∧ c ≠ 32 ∧ ((c :: q).take 2 == [47, 47]) = false := by
  cases h with
  | word hc hw hd =>
    obtain ⟨n1, n2, n3⟩ := let_ne hc
    exact ⟨fun z => ws_nl (hw _ z) rfl, fun r => ⟨_, _, rfl, by simp, n1, n2, by
      refine beq_eq_false_iff_ne.mpr fun e => n3 ?_
      injection e⟩⟩
  | number h hd =>
    rename_i n
    refine ⟨fun z => dig_nl (digits_ws _ z) rfl, fun r => ?_⟩
    cases e : TL.numL n with
    | nil => exact absurd e (TL.numL_ne _)
    | cons c q =>
      obtain ⟨n1, n2, n3⟩ := dig_ne (digits_ws (n := n) c (by rw [e]; exact List.mem_cons_self))
      exact ⟨c, q ++ d :: r, rfl, by simp, n1, n2, by
        refine beq_eq_false_iff_ne.mpr fun e => n3 ?_
        injection e⟩
  | text =>
    exact ⟨by simp [escL_nl], fun r => ⟨34, _, rfl, by simp, by decide, by decide, by
      refine beq_eq_false_iff_ne.mpr fun e => ?_
      injection e with e
      cases e⟩⟩
  | closing hc hw hd =>
    rename_i c q
    refine ⟨?_, fun r => ⟨60, 47 :: ((c :: q) ++ d :: r), rfl, by simp, by decide, by decide, rfl⟩⟩
    intro z
    rcases List.mem_cons.mp z with z | z
    · cases z
    · rcases List.mem_cons.mp z with z | z
      · cases z
      · exact ws_nl (hw _ z) rfl
  | sign h h3 =>
    obtain ⟨c, q, rfl, _, _, _, n1, n2, n10, hq⟩ := sg_head h
    refine ⟨n10, fun r => ⟨c, q ++ d :: r, rfl, by simp, n1, n2, ?_⟩⟩
    refine beq_eq_false_iff_ne.mpr fun e => ?_
    rcases hq with rfl | ⟨b, rfl, hb⟩
    · injection e with e1 e2
      injection e2 with e2
      exact (h3 c rfl).2 e1 e2
    · injection e with e1 e2
      injection e2 with e2
      exact hb e2
def spSort (C : Addr) : Sp := fun vs H Q _ => ∃ (p dx : Addr) (src cs : List Nat), vs = [.ref p] ∧ H p = some (.ins C dx (fsAt src cs)) ∧ src.length ≤ 100000 ∧
  ((∃ so wo wr d r, src = cs ++ (wr ++ d :: r) ∧ Tk so wo wr d ∧ Q (.str so) H) ∨ (src = cs ++ [10] ∧ Q (.str "end") H))
def spWord (C : Addr) : Sp := fun vs H Q _ => ∃ (p dx : Addr) (src cs : List Nat) (so : Str), vs = [.ref p, .str so] ∧ H p = some (.ins C dx (fsAt src cs)) ∧ src.length ≤ 100000 ∧
  ((∃ wo wr d r, src = cs ++ (wr ++ d :: r) ∧ Tk so wo wr d ∧ ∀ H', H' p = some (.ins C dx (fsAt src (cs ++ wr))) → (∀ b o, H b = some o → b ≠ p → H' b = some o) → Q (.str (TX wo)) H') ∨ (so = "end" ∧ Q (.str (TX [])) H))
def spToken (C : Addr) : Sp := fun vs H Q _ => ∃ (p dx : Addr) (src cs R : List Nat), vs = [.ref p] ∧ H p = some (.ins C dx (fsAt src cs)) ∧ src.length ≤ 100000 ∧ src = cs ++ R ∧
  ((∃ so wo wr d r, Skips R (wr ++ d :: r) ∧ Tk so wo wr d ∧ ∀ cs1 t H', src = cs1 ++ (wr ++ d :: r) → H' p = some (.ins C dx (fsAt src (cs1 ++ wr))) → H t = none → H' t = some (.tup [.str so, .str (TX wo), .int (lnOf cs1 : Int), .int ((clOf cs1 : Int) + 1)]) →
      (∀ b o, H b = some o → b ≠ p → H' b = some o) → Q (.ref t) H') ∨
    (Skips R [10] ∧ ∀ cs1 t H', src = cs1 ++ [10] → H' p = some (.ins C dx (fsAt src cs1)) → H t = none → H' t = some (.tup [.str "end", .str (TX []), .int (lnOf cs1 : Int), .int ((clOf cs1 : Int) + 1)]) →
      (∀ b o, H b = some o → b ≠ p → H' b = some o) → Q (.ref t) H'))
section
variable {P : Program} {w : World} {K : PySem.W.Frag} {mg : Str → Option Value} {base : Heap} {C : Addr}
theorem sc_Scanner_next_sort : FnScope ["self", "sign"] ["self"] (defScope s_Scanner_next_sort) := ⟨rfl, rfl, rfl, by decide +kernel, rfl, by decide +kernel, by decide +kernel⟩
theorem ok_next_sort (T : Txt K w mg C) : Met P w K mg base 2 C "next_sort" (spSort C) := by
  have Gis_letter : Cal P w K mg base 1 "is_letter" spLet := ok_is_letter T
  have Gis_digit : Cal P w K mg base 1 "is_digit" spDig := ok_is_digit T
  refine met_of T.m_next_sort T.cl sc_Scanner_next_sort (fun vs H Q E h => ?_) (fun f cdv A outer s H vs Q E hr h => ?_)
  · obtain ⟨p, dx, src, cs, rfl, _⟩ := h
    rfl
  · obtain ⟨p, dx, src, cs, rfl, h1, hlen, k⟩ := h
    have hz5 : (TX src).length ≤ sizeLine := by rw [TX_len]; exact size5 hlen
    refine ⟨_, (pss_cons (ps_set (i := 1) sc_Scanner_next_sort.nd rfl (Or.inl rfl) (pe_ix ix_str (pe_fld (pv 0) rfl) (pe_fld (pv 0) rfl) (fun _ _ => rfl))) (pss_cons (ps_if (pt_cmpR op_eq (pe_fld (pv 0) rfl) (pe_fld (pv 0) rfl) (nomark _)) (pss_one (ps_ret pe_str)) pss_nil) (pss_cons (ps_if (pt_val (pe_c Gis_letter hr (by decide) (by rfl) (pa_cons (pv 1) pa_nil))) (pss_one (ps_ret pe_str)) pss_nil) (pss_cons (ps_if (pt_val (pe_c Gis_digit hr (by decide) (by rfl) (pa_cons (pv 1) pa_nil))) (pss_one (ps_ret pe_str)) pss_nil) (pss_cons (ps_if (pt_cmpR op_eq (pv 1) pe_str (nomark _)) (pss_one (ps_ret pe_str)) pss_nil) (pss_cons (ps_if ((pw_and (pt_val (pe_bm PySem.F.plainAttrs_str PySem.F.slot_str_startswith PySem.F.type_str_startswith mt_startswith3 (pe_fld (pv 0) rfl) (pa_cons pe_str (pa_cons (pe_fld (pv 0) rfl) pa_nil)))) (pw_and1 (pt_val (pe_c Gis_letter hr (by decide) (by rfl) (pa_cons (pe_ix ix_str (pe_fld (pv 0) rfl) (pe_op op_add (pe_fld (pv 0) rfl) pe_int) (fun _ _ => rfl)) pa_nil)))))).pt (pss_one (ps_ret pe_str)) pss_nil) (pss_one (ps_ret pe_str)))))))), ?_⟩
    rcases k with ⟨so, wo, wr, d, r, hsrc, tk, k⟩ | ⟨hsrc, k⟩
    · obtain ⟨h10, hh⟩ := tk_head tk
      obtain ⟨c, q, ec, nw, n1, n2, n3⟩ := hh r
      have hl : cs.length + 2 ≤ src.length := by
        have : 1 ≤ wr.length := List.length_pos_iff.mpr nw
        rw [hsrc, List.length_append, List.length_append, List.length_cons]
        omega
      have hat : atI (TX src).cps.toList (cs.length : Int) = some c := by rw [hsrc, ec]; exact at_mid rfl
      refine ⟨_, rfl, p, C, dx, _, _, rfl, h1, T.cl, T.n_source, fs_source _ _ _ _ _, _, rfl, p, C, dx, _, _, rfl, h1, T.cl, T.n_at, fs_at _ _ _ _ _, _, _, c, rfl, rfl, hz5, hat, ?_⟩
      refine ⟨_, rfl, p, C, dx, _, _, rfl, h1, T.cl, T.n_at, fs_at _ _ _ _ _, _, rfl, p, C, dx, _, _, rfl, h1, T.cl, T.n_end, fs_end _ _ _ _ _, rfl, _, rfl, ?_⟩
      refine ite_b (fun z => ?_) (fun _ => ?_)
      · have z := of_decide_eq_true z
        injection z with z
        omega
      refine ⟨_, rfl, c, rfl, _, rfl, ?_⟩
      refine ite_b (b := isLet c) (fun z => ?_) (fun z => ?_)
      · cases tk with
        | word hc hw hd => exact k
        | number h hd =>
          rename_i n
          have : isDig c = true := by
            cases e : TL.numL n with
            | nil => exact absurd e (TL.numL_ne _)
            | cons c2 r2 =>
              rw [e] at ec
              injection ec with ec
              exact digits_ws (n := n) c (by rw [e, ec]; exact List.mem_cons_self)
          rw [dig_let this] at z
          cases z
        | text =>
          injection ec with ec
          exfalso
          rw [← ec] at z
          revert z
          decide
        | closing hc hw hd =>
          injection ec with ec
          exfalso
          rw [← ec] at z
          revert z
          decide
        | sign h h3 =>
          obtain ⟨c2, q2, rfl, m1, _⟩ := sg_head h
          injection ec with ec
          rw [← ec, m1] at z
          cases z
      refine ⟨_, rfl, c, rfl, _, rfl, ?_⟩
      refine ite_b (b := isDig c) (fun z2 => ?_) (fun z2 => ?_)
      · cases tk with
        | word hc hw hd =>
          injection ec with ec
          rw [ec, z] at hc
          cases hc
        | number h hd => exact k
        | text =>
          injection ec with ec
          exfalso
          rw [← ec] at z2
          revert z2
          decide
        | closing hc hw hd =>
          injection ec with ec
          exfalso
          rw [← ec] at z2
          revert z2
          decide
        | sign h h3 =>
          obtain ⟨c2, q2, rfl, _, m1, _⟩ := sg_head h
          injection ec with ec
          rw [← ec, m1] at z2
          cases z2
      refine ⟨_, rfl, rfl, _, rfl, ?_⟩
      refine ite_one (c := c) (d := 34) (fun z3 => ?_) (fun z3 => ?_)
      · cases tk with
        | word hc hw hd =>
          injection ec with ec
          rw [ec, z] at hc
          cases hc
        | number h hd =>
          rename_i n
          have : isDig c = true := by
            cases e : TL.numL n with
            | nil => exact absurd e (TL.numL_ne _)
            | cons c2 r2 =>
              rw [e] at ec
              injection ec with ec
              exact digits_ws (n := n) c (by rw [e, ec]; exact List.mem_cons_self)
          rw [z2] at this
          cases this
        | text => exact k
        | closing hc hw hd =>
          injection ec with ec
          rw [← ec] at z3
          cases z3
        | sign h h3 =>
          obtain ⟨c2, q2, rfl, _, _, m1, _⟩ := sg_head h
          injection ec with ec
          exact absurd (ec.trans z3) m1
      have est : Txt.startswith3 (TX src) (TX [60, 47]) (cs.length : Int) = ((wr ++ d :: r).take 2 == [60, 47]) := by rw [hsrc]; exact starts_at rfl
      refine ⟨_, rfl, p, C, dx, _, _, rfl, h1, T.cl, T.n_source, fs_source _ _ _ _ _, rfl, _, rfl, p, C, dx, _, _, rfl, h1, T.cl, T.n_at, fs_at _ _ _ _ _, _, _, _, rfl, rfl, _, rfl, ?_⟩
      refine ite_b (b := Txt.startswith3 (TX src) (TX [60, 47]) (cs.length : Int)) (fun z4 => ?_) (fun z4 => ?_)
      · rw [est] at z4
        replace z4 := eq_of_beq z4
        cases tk with
        | word hc hw hd =>
          injection ec with ec
          rw [ec, z] at hc
          cases hc
        | number h hd =>
          rename_i n
          have : isDig c = true := by
            cases e : TL.numL n with
            | nil => exact absurd e (TL.numL_ne _)
            | cons c2 r2 =>
              rw [e] at ec
              injection ec with ec
              exact digits_ws (n := n) c (by rw [e, ec]; exact List.mem_cons_self)
          rw [z2] at this
          cases this
        | text =>
          injection z4 with z4
          cases z4
        | closing hc hw hd =>
          rename_i c3 r3
          refine ⟨_, rfl, p, C, dx, _, _, rfl, h1, T.cl, T.n_source, fs_source _ _ _ _ _, _, rfl, p, C, dx, _, _, rfl, h1, T.cl, T.n_at, fs_at _ _ _ _ _, _, _, rfl, rfl, _, _, c3, rfl, rfl, hz5, (by rw [hsrc]; exact at_app (m := 60 :: 47 :: c3 :: r3) (i := 2) rfl rfl), ?_⟩
          refine ⟨c3, rfl, _, rfl, ?_⟩
          refine ite_b (b := isLet c3) (fun _ => k) (fun z5 => absurd hc (by rw [z5]; decide))
        | sign h h3 =>
          obtain ⟨c2, q2, rfl, _, _, _, _, _, _, hq⟩ := sg_head h
          exfalso
          rcases hq with rfl | ⟨b, rfl, hb⟩
          · injection z4 with e1 e2
            injection e2 with e2
            exact (h3 c2 rfl).1 e1 e2
          · injection z4 with e1 e2
            injection e2 with e2
            exact hb e2
      · rw [est] at z4
        refine ite_b (b := false) (fun z => by cases z) (fun _ => ?_)
        cases tk with
        | word hc hw hd =>
          injection ec with ec
          rw [ec, z] at hc
          cases hc
        | number h hd =>
          rename_i n
          have : isDig c = true := by
            cases e : TL.numL n with
            | nil => exact absurd e (TL.numL_ne _)
            | cons c2 r2 =>
              rw [e] at ec
              injection ec with ec
              exact digits_ws (n := n) c (by rw [e, ec]; exact List.mem_cons_self)
          rw [z2] at this
          cases this
        | text =>
          injection ec with ec
          exact absurd ec.symm z3
        | closing hc hw hd => cases z4
        | sign h h3 => exact k
    · have hat : atI (TX src).cps.toList (cs.length : Int) = some 10 := by rw [hsrc]; exact at_mid rfl
      refine ⟨_, rfl, p, C, dx, _, _, rfl, h1, T.cl, T.n_source, fs_source _ _ _ _ _, _, rfl, p, C, dx, _, _, rfl, h1, T.cl, T.n_at, fs_at _ _ _ _ _, _, _, 10, rfl, rfl, hz5, hat, ?_⟩
      refine ⟨_, rfl, p, C, dx, _, _, rfl, h1, T.cl, T.n_at, fs_at _ _ _ _ _, _, rfl, p, C, dx, _, _, rfl, h1, T.cl, T.n_end, fs_end _ _ _ _ _, rfl, _, rfl, ?_⟩
      refine ite_b (fun _ => k) (fun z => ?_)
      exfalso
      have z := of_decide_eq_false z
      apply z
      rw [hsrc]
      simp
end
end VL

set_option Elab.async false
set_option linter.all false
set_option maxRecDepth 100000
set_option maxHeartbeats 4000000
namespace VL
open PySem PySem.Spec PyProof.Rows L2
theorem skips_suf : ∀ {R R' : List Nat}, Skips R R' → ∃ g, R = g ++ R' := by
  intro R R' h
  induction h with
  | stop h => exact ⟨[], rfl⟩
  | done h1 h2 h3 => exact ⟨[], rfl⟩
  | sp h k ih => obtain ⟨g, e⟩ := ih; exact ⟨32 :: g, by rw [e]; rfl⟩
  | nl h k ih => obtain ⟨g, e⟩ := ih; exact ⟨10 :: g, by rw [e]; rfl⟩
  | @com c R R' h k ih => obtain ⟨g, e⟩ := ih; exact ⟨47 :: 47 :: (c ++ g), by rw [e]; simp⟩
theorem ite_lit {a b : Str} {A B : Prop} (h : A) (e : a = b) : if decide (V.str a = V.str b) = true then A else B := by
  subst e
  rw [if_pos (by simp)]
  exact h
theorem ite_litN {a b : Str} {A B : Prop} (h : B) (e : a ≠ b) : if decide (V.str a = V.str b) = true then A else B := by
  rw [if_neg (by simp [e])]
  exact h
section
variable {P : Program} {w : World} {K : PySem.W.Frag} {mg : Str → Option Value} {base : Heap} {C : Addr}
theorem sc_Scanner_take_word : FnScope ["self", "sort"] ["self", "sort"] (defScope s_Scanner_take_word) := ⟨rfl, rfl, rfl, by decide +kernel, rfl, by decide +kernel, by decide +kernel⟩
theorem ok_take_word (T : Txt K w mg C) : Met P w K mg base 4 C "take_word" (spWord C) := by
  have Mtake_name : Met P w K mg base 3 C "take_name" (spName C) := ok_take_name T
  have Mtake_number : Met P w K mg base 3 C "take_number" (spNumber C) := ok_take_number T
  have Mtake_text : Met P w K mg base 2 C "take_text" (spTextS C) := ok_take_text T
  have Mtake_sign : Met P w K mg base 2 C "take_sign" (spSign C) := ok_take_sign T
  refine met_of T.m_take_word T.cl sc_Scanner_take_word (fun vs H Q E h => ?_) (fun f cdv A outer s H vs Q E hr h => ?_)
  · obtain ⟨p, dx, src, cs, so, rfl, _⟩ := h
    rfl
  · obtain ⟨p, dx, src, cs, so, rfl, h1, hlen, k⟩ := h
    refine ⟨_, (pss_cons (ps_if (pt_cmpR op_eq (pv 1) pe_str (nomark _)) (pss_one (ps_ret pe_str)) pss_nil) (pss_cons (ps_if (pt_cmpR op_eq (pv 1) pe_str (nomark _)) (pss_one (ps_ret (pe_mt0 Mtake_number hr (by decide) (pv 0)))) pss_nil) (pss_cons (ps_if (pt_cmpR op_eq (pv 1) pe_str (nomark _)) (pss_one (ps_ret (pe_mt0 Mtake_text hr (by decide) (pv 0)))) pss_nil) (pss_cons (ps_if (pt_cmpR op_eq (pv 1) pe_str (nomark _)) (pss_one (ps_ret (pe_mt0 Mtake_sign hr (by decide) (pv 0)))) pss_nil) (pss_cons (ps_if (pt_cmpR op_eq (pv 1) pe_str (nomark _)) (pss_one (ps_fldaug (pv 0) (pe_callB call_len_str (by rfl) T.z_len PySem.boot_len (pa_cons pe_str pa_nil)) in_add)) pss_nil) (pss_one (ps_ret (pe_mt0 Mtake_name hr (by decide) (pv 0))))))))), ?_⟩
    rcases k with ⟨wo, wr, d, r, hsrc, tk, k⟩ | ⟨rfl, k⟩
    · have kp : ∀ o, (∀ b u, H b = some u → b ≠ p → upd H p o b = some u) := fun o b u e n => by rw [upd_ne n]; exact e
      cases tk with
      | word hc hw hd =>
        refine ⟨_, rfl, rfl, _, rfl, ite_litN ?_ (by decide +kernel)⟩
        refine ⟨_, rfl, rfl, _, rfl, ite_litN ?_ (by decide +kernel)⟩
        refine ⟨_, rfl, rfl, _, rfl, ite_litN ?_ (by decide +kernel)⟩
        refine ⟨_, rfl, rfl, _, rfl, ite_litN ?_ (by decide +kernel)⟩
        refine ⟨_, rfl, rfl, _, rfl, ite_litN ?_ (by decide +kernel)⟩
        exact ⟨_, rfl, p, dx, _, rfl, h1, rfl, p, dx, src, cs, _, r, d, rfl, h1, hsrc, hlen, hw, hd, k _ upd_same (kp _)⟩
      | number h hd =>
        refine ⟨_, rfl, rfl, _, rfl, ite_litN ?_ (by decide +kernel)⟩
        refine ⟨_, rfl, rfl, _, rfl, ite_lit ?_ rfl⟩
        exact ⟨_, rfl, p, dx, _, rfl, h1, rfl, p, dx, src, cs, r, _, d, rfl, h1, hsrc, hlen, h, hd, k _ upd_same (kp _)⟩
      | text =>
        refine ⟨_, rfl, rfl, _, rfl, ite_litN ?_ (by decide +kernel)⟩
        refine ⟨_, rfl, rfl, _, rfl, ite_litN ?_ (by decide +kernel)⟩
        refine ⟨_, rfl, rfl, _, rfl, ite_lit ?_ rfl⟩
        refine ⟨_, rfl, p, dx, _, rfl, h1, rfl, p, dx, src, cs, d :: r, wo, rfl, h1, (by rw [hsrc]; simp), hlen, fun l hl => ?_⟩
        refine k _ upd_same fun b u e n => ?_
        rw [upd_ne n, upd_ne (ne_of_none e hl)]
        exact e
      | closing hc hw hd =>
        rename_i c q
        refine ⟨_, rfl, rfl, _, rfl, ite_litN ?_ (by decide +kernel)⟩
        refine ⟨_, rfl, rfl, _, rfl, ite_litN ?_ (by decide +kernel)⟩
        refine ⟨_, rfl, rfl, _, rfl, ite_litN ?_ (by decide +kernel)⟩
        refine ⟨_, rfl, rfl, _, rfl, ite_litN ?_ (by decide +kernel)⟩
        refine ⟨_, rfl, rfl, _, rfl, ite_lit ?_ rfl⟩
        refine ⟨_, rfl, p, C, dx, _, _, rfl, h1, T.cl, T.n_at, fs_at _ _ _ _ _, _, rfl, (by decide), _, _, rfl, rfl, dx, _, h1, (by show 5 < 1000; decide), ?_⟩
        rw [putA_at, fsAt_plain (m := [60, 47]) (by decide) (by simp; rfl)]
        have h2 : upd H p (.ins C dx (fsAt src (cs ++ [60, 47]))) p = some (.ins C dx (fsAt src (cs ++ [60, 47]))) := upd_same
        refine ⟨_, rfl, p, dx, _, rfl, h2, rfl, p, dx, src, cs ++ [60, 47], c :: q, r, d, rfl, h2, (by rw [hsrc]; simp), hlen, hw, hd, ?_⟩
        rw [upd_upd]
        have e : cs ++ [60, 47] ++ c :: q = cs ++ 60 :: 47 :: c :: q := by simp
        rw [e]
        exact k _ upd_same (kp _)
      | sign h h3 =>
        refine ⟨_, rfl, rfl, _, rfl, ite_litN ?_ (by decide +kernel)⟩
        refine ⟨_, rfl, rfl, _, rfl, ite_litN ?_ (by decide +kernel)⟩
        refine ⟨_, rfl, rfl, _, rfl, ite_litN ?_ (by decide +kernel)⟩
        refine ⟨_, rfl, rfl, _, rfl, ite_lit ?_ rfl⟩
        exact ⟨_, rfl, p, dx, _, rfl, h1, rfl, p, dx, src, cs, r, _, d, rfl, h1, hsrc, hlen, h, k _ upd_same (kp _)⟩
    · refine ⟨_, rfl, rfl, _, rfl, ite_lit ?_ rfl⟩
      exact k
theorem sc_Scanner_token : FnScope ["self", "column", "sort"] ["self"] (defScope s_Scanner_token) := ⟨rfl, rfl, rfl, by decide +kernel, rfl, by decide +kernel, by decide +kernel⟩
theorem ok_token (T : Txt K w mg C) : Met P w K mg base 5 C "token" (spToken C) := by
  have Mskip : Met P w K mg base 1 C "skip" (spSkip C) := ok_skip T
  have Mcolumn_of : Met P w K mg base 1 C "column_of" (spColumn C) := ok_column_of T
  have Mnext_sort : Met P w K mg base 2 C "next_sort" (spSort C) := ok_next_sort T
  have Mtake_word : Met P w K mg base 4 C "take_word" (spWord C) := ok_take_word T
  refine met_of T.m_token T.cl sc_Scanner_token (fun vs H Q E h => ?_) (fun f cdv A outer s H vs Q E hr h => ?_)
  · obtain ⟨p, dx, src, cs, R, rfl, _⟩ := h
    rfl
  · obtain ⟨p, dx, src, cs, R, rfl, h0, hlen, hsrc, k⟩ := h
    refine ⟨_, (pss_cons (ps_expr (pe_mt0 Mskip hr (by decide) (pv 0))) (pss_cons (ps_set (i := 1) sc_Scanner_token.nd rfl (Or.inl rfl) (pe_mt Mcolumn_of hr (by decide) (pv 0) (pa_cons (pe_fld (pv 0) rfl) pa_nil))) (pss_cons (ps_set (i := 2) sc_Scanner_token.nd rfl (Or.inl rfl) (pe_mt0 Mnext_sort hr (by decide) (pv 0))) (pss_one (ps_ret (pe_tup (pa_cons (pv 2) (pa_cons (pe_mt Mtake_word hr (by decide) (pv 0) (pa_cons (pv 2) pa_nil)) (pa_cons (pe_fld (pv 0) rfl) (pa_cons (pv 1) pa_nil)))))))))), ?_⟩
    rcases k with ⟨so, wo, wr, d, r, sk, tk, k⟩ | ⟨sk, k⟩
    · refine ⟨_, rfl, p, dx, _, rfl, h0, rfl, p, dx, src, cs, R, _, rfl, h0, hsrc, hlen, sk, fun cs1 e1 => ?_⟩
      have h1 : upd H p (.ins C dx (fsAt src cs1)) p = some (.ins C dx (fsAt src cs1)) := upd_same
      have kp1 : ∀ b u, H b = some u → b ≠ p → upd H p (.ins C dx (fsAt src cs1)) b = some u := fun b u e n => by rw [upd_ne n]; exact e
      refine ⟨_, rfl, p, dx, _, rfl, h1, rfl, _, rfl, p, C, dx, _, _, rfl, h1, T.cl, T.n_at, fs_at _ _ _ _ _, p, dx, src, cs1, rfl, h1, ?_⟩
      refine ⟨_, rfl, p, dx, _, rfl, h1, rfl, p, dx, src, cs1, rfl, h1, hlen, .inl ⟨so, wo, wr, d, r, e1, tk, ?_⟩⟩
      refine ⟨_, rfl, _, rfl, p, dx, _, rfl, h1, rfl, _, rfl, p, dx, src, cs1, so, rfl, h1, hlen, .inl ⟨wo, wr, d, r, e1, tk, fun H' h2 kp2 => ?_⟩⟩
      refine ⟨_, rfl, p, C, dx, _, _, rfl, h2, T.cl, T.n_line, fs_line _ _ _ _ _, _, rfl, (by show 4 ≤ sizeLine; decide), fun t ht => ?_⟩
      have npt : p ≠ t := ne_of_none h2 ht
      have htn : H t = none := by
        cases q : H t with
        | none => rfl
        | some u =>
          have := kp2 t u (kp1 t u q npt.symm) npt.symm
          rw [ht] at this
          cases this
      have e10 := (tk_head tk).1
      refine k cs1 t _ e1 (by rw [upd_ne npt]; exact h2) htn ?_ fun b u e n => ?_
      · rw [upd_same]
        have e2 : lnOf (cs1 ++ wr) = lnOf cs1 := ln_plain _ _ e10
        rw [e2]
      · have := kp2 b u (kp1 b u e n) n
        rw [upd_ne (ne_of_none this ht)]
        exact this
    · refine ⟨_, rfl, p, dx, _, rfl, h0, rfl, p, dx, src, cs, R, _, rfl, h0, hsrc, hlen, sk, fun cs1 e1 => ?_⟩
      have h1 : upd H p (.ins C dx (fsAt src cs1)) p = some (.ins C dx (fsAt src cs1)) := upd_same
      have kp1 : ∀ b u, H b = some u → b ≠ p → upd H p (.ins C dx (fsAt src cs1)) b = some u := fun b u e n => by rw [upd_ne n]; exact e
      refine ⟨_, rfl, p, dx, _, rfl, h1, rfl, _, rfl, p, C, dx, _, _, rfl, h1, T.cl, T.n_at, fs_at _ _ _ _ _, p, dx, src, cs1, rfl, h1, ?_⟩
      refine ⟨_, rfl, p, dx, _, rfl, h1, rfl, p, dx, src, cs1, rfl, h1, hlen, .inr ⟨e1, ?_⟩⟩
      refine ⟨_, rfl, _, rfl, p, dx, _, rfl, h1, rfl, _, rfl, p, dx, src, cs1, _, rfl, h1, hlen, .inr ⟨rfl, ?_⟩⟩
      refine ⟨_, rfl, p, C, dx, _, _, rfl, h1, T.cl, T.n_line, fs_line _ _ _ _ _, _, rfl, (by show 4 ≤ sizeLine; decide), fun t ht => ?_⟩
      have npt : p ≠ t := ne_of_none h1 ht
      have htn : H t = none := by rw [upd_ne npt.symm] at ht; exact ht
      refine k cs1 t _ e1 (by rw [upd_ne npt]; exact h1) htn upd_same fun b u e n => ?_
      have := kp1 b u e n
      rw [upd_ne (ne_of_none this ht)]
      exact this
end
end VL

set_option Elab.async false
set_option linter.all false
set_option maxRecDepth 100000
set_option maxHeartbeats 4000000
namespace VL
open PySem PySem.Spec PyProof.Rows L2

abbrev Tok4 := Str × List Nat × Nat × Nat
def vTok (t : Tok4) : List V := [.str t.1, .str (TX t.2.1), .int (t.2.2.1 : Int), .int ((t.2.2.2 : Int) + 1)]
/-- from behind cs on, where R is left, these tokens are read -/
inductive Lx : List Nat → List Nat → List Tok4 → Prop where
  | done {cs R cs1} (sk : Skips R [10]) (e : cs ++ R = cs1 ++ [10]) : Lx cs R [("end", [], lnOf cs1, clOf cs1)]
  | tok {cs R cs1 so wo wr d r l} (sk : Skips R (wr ++ d :: r)) (tk : Tk so wo wr d) (e : cs ++ R = cs1 ++ (wr ++ d :: r)) (rest : Lx (cs1 ++ wr) (d :: r) l) : Lx cs R ((so, wo, lnOf cs1, clOf cs1) :: l)
theorem tk_ne_end {so : Str} {wo wr : List Nat} {d : Nat} (h : Tk so wo wr d) : so ≠ "end" := by
  cases h <;> decide +kernel
theorem suffix_inj {α : Type} {a b c : List α} (h : a ++ c = b ++ c) : a = b := List.append_cancel_right h
theorem paired_snoc {α β : Type} {G : α → β → Prop} {a : α} {b : β} (h : G a b) : ∀ {l₁ : List α} {l₂ : List β}, Paired G l₁ l₂ → Paired G (l₁ ++ [a]) (l₂ ++ [b])
  | _, _, .nil => .cons h .nil
  | _, _, .cons r t => .cons r (paired_snoc h t)
theorem paired_mono {α β : Type} {F G : α → β → Prop} (f : ∀ a b, F a b → G a b) : ∀ {l₁ : List α} {l₂ : List β}, Paired F l₁ l₂ → Paired G l₁ l₂
  | _, _, .nil => .nil
  | _, _, .cons r t => .cons (f _ _ r) (paired_mono f t)
/-- one token more -/
theorem lx_token {C p dx : Addr} {src cs R : List Nat} {tk : Tok4} {l : List Tok4} {H : Hp} {Q : VK} {E : XK} (L : Lx cs R (tk :: l)) (hsrc : src = cs ++ R) (hlen : src.length ≤ 100000) (h : H p = some (.ins C dx (fsAt src cs)))
    (k : ∀ t H', H t = none → H' t = some (.tup (vTok tk)) → (∀ b o, H b = some o → b ≠ p → H' b = some o) → ((l = [] ∧ tk.1 = "end") ∨ (tk.1 ≠ "end" ∧ ∃ cs' R', src = cs' ++ R' ∧ H' p = some (.ins C dx (fsAt src cs')) ∧ Lx cs' R' l)) → Q (.ref t) H') :
    spToken C [.ref p] H Q E := by
  refine ⟨p, dx, src, cs, R, rfl, h, hlen, hsrc, ?_⟩
  cases L with
  | @done _ _ cs1 sk e =>
    refine .inr ⟨sk, fun cs2 t H' e2 hp ht h2 kp => ?_⟩
    have ec : cs2 = cs1 := suffix_inj (c := [10]) (by rw [← e2, ← e, hsrc])
    subst ec
    exact k t H' ht h2 kp (.inl ⟨rfl, rfl⟩)
  | @tok _ _ cs1 so wo wr d r _ sk tk e rest =>
    refine .inl ⟨so, wo, wr, d, r, sk, tk, fun cs2 t H' e2 hp ht h2 kp => ?_⟩
    have ec : cs2 = cs1 := suffix_inj (c := wr ++ d :: r) (by rw [← e2, ← e, hsrc])
    subst ec
    exact k t H' ht h2 kp (.inr ⟨tk_ne_end tk, cs2 ++ wr, d :: r, by rw [e2, List.append_assoc], hp, rest⟩)
def spInitS (C : Addr) : Sp := fun vs H Q _ => ∃ (p dx : Addr) (s : List Nat), vs = [.ref p, .str (TX s)] ∧ H p = some (.ins C dx []) ∧ s.length ≤ 100000 ∧ Q .non (upd H p (.ins C dx (fsAt (s ++ [10]) [])))
def spTokens : Sp := fun vs H Q _ => ∃ (s : List Nat) (due : List Tok4), vs = [.str (TX s)] ∧ s.length ≤ 20000 ∧ due.length ≤ 100 ∧ Lx [] (s ++ [10]) due ∧
  ∀ H' l ts, Same H H' → H' l = some (.lst (ts.map V.ref)) → Paired (fun t tk => H' t = some (.tup (vTok tk))) ts due → Q (.ref l) H'
theorem lx_ne {cs R : List Nat} {due : List Tok4} (h : Lx cs R due) : ∃ tk l, due = tk :: l := by
  cases h with
  | done _ _ => exact ⟨_, _, rfl⟩
  | tok _ _ _ _ => exact ⟨_, _, rfl⟩
theorem meth0 {sp : Sp} {x : V} {σ : L2.St} {H : Hp} {Q : VK} {E : XK} (h : sp [x] H Q E) : tNil σ H fun vs H2 => sp (x :: (vs ++ [])) H2 Q E := h
theorem last_at {α : Type} {xs : List α} {x : α} : atI (xs ++ [x]) (-1) = some x := by
  unfold atI ixN
  rw [if_neg (by decide), if_pos (by rw [List.length_append]; simp; omega)]
  show (xs ++ [x])[_]? = _
  have e : (-1 + ((xs ++ [x]).length : Int)).toNat = xs.length := by rw [List.length_append]; simp; omega
  rw [e]
  simp
section
variable {P : Program} {w : World} {K : PySem.W.Frag} {mg : Str → Option Value} {base : Heap} {C : Addr}
theorem sc_Scanner___init__ : FnScope ["self", "source"] ["self", "source"] (defScope s_Scanner___init__) := ⟨rfl, rfl, rfl, by decide +kernel, rfl, by decide +kernel, by decide +kernel⟩
theorem ok_init (T : Txt K w mg C) : Mak P w K mg base 1 "Scanner" C (spInitS C) := by
  refine mak_of T.i_Scanner sc_Scanner___init__ (fun vs H Q E h => ?_) (fun f cdv A outer s H vs Q E hr h => ?_)
  · obtain ⟨p, dx, s, rfl, _⟩ := h
    rfl
  · obtain ⟨p, dx, z, rfl, h1, hlen, k⟩ := h
    refine ⟨_, (pss_cons (ps_fld (pv 0) (pe_op op_add_str (pv 1) pe_str) rfl) (pss_cons (ps_fld (pv 0) (pe_callB call_len_str (by rfl) T.z_len PySem.boot_len (pa_cons (pv 1) pa_nil)) rfl) (pss_cons (ps_fld (pv 0) pe_int rfl) (pss_cons (ps_fld (pv 0) pe_int rfl) (pss_one (ps_fld (pv 0) pe_int rfl)))))), ?_⟩
    refine ⟨_, rfl, _, _, rfl, rfl, (by rw [TX_len]; show z.length + 1 ≤ sizeLine; exact Nat.le_trans (Nat.succ_le_succ hlen) (by decide)), ?_⟩
    refine ⟨_, rfl, p, C, dx, _, rfl, h1, T.cl, T.n_source, (by show 0 < 1000; decide), ?_⟩
    refine ⟨_, rfl, _, rfl, (by rw [TX_len]; exact size5 hlen), ?_⟩
    refine ⟨_, rfl, p, C, dx, _, rfl, (by exact upd_same), T.cl, T.n_end, (by show 1 < 1000; decide), ?_⟩
    refine ⟨_, rfl, p, C, dx, _, rfl, (by exact upd_same), T.cl, T.n_at, (by show 2 < 1000; decide), ?_⟩
    refine ⟨_, rfl, p, C, dx, _, rfl, (by exact upd_same), T.cl, T.n_line, (by show 3 < 1000; decide), ?_⟩
    refine ⟨_, rfl, p, C, dx, _, rfl, (by exact upd_same), T.cl, T.n_line_begin, (by show 4 < 1000; decide), ?_⟩
    rw [upd_upd, upd_upd, upd_upd, upd_upd]
    have e : fsAt (z ++ [10]) [] = fsS (z ++ [10]) (z.length : Int) 0 1 0 := by
      unfold fsAt
      have e1 : (((z ++ [10]).length : Nat) : Int) - 1 = (z.length : Int) := by simp
      rw [e1]
      rfl
    rw [e] at k
    have ec : (TX z ++ (Str.ofString "\n")) = TX (z ++ [10]) := TX_cat z [10]
    have el : ((TX z).length : Int) = (z.length : Int) := by rw [TX_len]
    have k2 : Q .non (upd H p (.ins C dx [("source", .str (TX z ++ Str.ofString "\n")), ("length", .int ((TX z).length : Int)), ("at", .int 0), ("line", .int 1), ("line_begin", .int 0)])) := by
      rw [ec, el]
      exact k
    exact k2
theorem sc_tokens : FnScope ["source", "scanner", "found"] ["source"] (defScope s_tokens) := ⟨rfl, rfl, rfl, by decide +kernel, rfl, by decide +kernel, by decide +kernel⟩
theorem ok_tokens (T : Txt K w mg C) : Cal P w K mg base 6 "tokens" spTokens := by
  have KScanner : Mak P w K mg base 1 "Scanner" C (spInitS C) := ok_init T
  have Mtoken : Met P w K mg base 5 C "token" (spToken C) := ok_token T
  refine cal_of T.d_tokens sc_tokens (fun vs H Q E h => ?_) (fun f cdv A outer s H vs Q E hr h => ?_)
  · obtain ⟨z, due, rfl, _⟩ := h
    rfl
  · obtain ⟨z, due, rfl, hlen, hdl, L, k⟩ := h
    refine ⟨_, (pss_cons (ps_if (pt_cmpR op_gt (pe_callB call_len_str (by rfl) T.z_len PySem.boot_len (pa_cons (pv 0) pa_nil)) (C8.pe_gc (by rfl) T.g_LONGEST_SOURCE) (nomark _)) (pss_one ps_never) pss_nil) (pss_cons (ps_set (i := 1) sc_tokens.nd rfl (Or.inl rfl) (pe_mk KScanner hr (by decide) (by rfl) (pa_cons (pv 0) pa_nil))) (pss_cons (ps_set (i := 2) sc_tokens.nd rfl (Or.inl rfl) (pe_lst (pa_cons (pe_mt0 Mtoken hr (by decide) (pv 1)) pa_nil))) (pss_cons (ps_while PassesOwn.never (pt_cmpR op_ne (pe_ix ix_tup (pe_ix ix_list (pv 2) (pe_un un_neg pe_int) (fun _ _ => rfl)) pe_int (fun _ _ => rfl)) pe_str (nomark _)) (pss_one (ps_expr (pe_bm PySem.F.plainAttrs_list PySem.F.slot_list_append PySem.F.type_list_append mt_append (pv 2) (pa_cons (pe_mt0 Mtoken hr (by decide) (pv 1)) pa_nil))))) (pss_one (ps_ret (pv 2))))))), ?_⟩
    refine ⟨_, rfl, _, rfl, (by rw [TX_len]; exact size5 (by omega)), _, _, rfl, rfl, _, rfl, ?_⟩
    refine ite_b (fun q => absurd (of_decide_eq_true q) (by rw [TX_len]; omega)) (fun _ => ?_)
    refine ⟨_, rfl, fun p dx np ndx ne => ?_⟩
    have s0 : Same H (upd (upd H dx (.own p)) p (.ins C dx [])) := fun b o e => by
      rw [upd_ne (ne_of_none e np), upd_ne (ne_of_none e ndx)]
      exact e
    refine ⟨p, dx, z, rfl, upd_same, by omega, rfl, ?_⟩
    rw [upd_upd]
    have s1 : Same H (upd (upd H dx (.own p)) p (.ins C dx (fsAt (z ++ [10]) []))) := fun b o e => by
      rw [upd_ne (ne_of_none e np), upd_ne (ne_of_none e ndx)]
      exact e
    have hp1 : upd (upd H dx (.own p)) p (.ins C dx (fsAt (z ++ [10]) [])) p = some (.ins C dx (fsAt (z ++ [10]) [])) := upd_same
    generalize upd (upd H dx (.own p)) p (.ins C dx (fsAt (z ++ [10]) [])) = H1 at s1 hp1 ⊢
    have hsl : (z ++ [10]).length ≤ 100000 := by simp; omega
    obtain ⟨tk0, l0, rfl⟩ := lx_ne L
    -- found = [scanner.token()]
    refine ⟨_, rfl, p, dx, _, rfl, hp1, rfl, ?_⟩
    refine meth0 (sp := spToken C) ?_
    refine lx_token L rfl hsl hp1 fun t H2 ht h2 kp st => ?_
    refine ⟨by show 1 ≤ sizeLine; decide, fun l hl => ?_⟩
    have s2 : Same H (upd H2 l (.lst [.ref t])) := fun b o e => by
      have := kp b o (s1 b o e) (ne_of_none e np)
      rw [upd_ne (ne_of_none this hl)]
      exact this
    have htl : t ≠ l := ne_of_none h2 hl
    have nlp : ∀ o, H2 p = some o → p ≠ l := fun o e => ne_of_none e hl
    have nl0 : H l = none := by
      cases q : H l with
      | none => rfl
      | some u =>
        have := s2 l u q
        rw [upd_same] at this
        have h3 := kp l u (s1 l u q) (ne_of_none q np)
        rw [hl] at h3
        cases h3
    refine ⟨fun m σ H' => ∃ (t0 : List Addr) (t : Addr) (d0 : List Tok4) (tk : Tok4) (d2 : List Tok4), m = d2.length ∧ tk0 :: l0 = d0 ++ [tk] ++ d2 ∧ σ = [some (.str (TX z)), some (.ref p), some (.ref l)] ∧ Same H H' ∧ H' l = some (.lst ((t0 ++ [t]).map V.ref)) ∧
        Paired (fun t tk => H' t = some (.tup (vTok tk))) (t0 ++ [t]) (d0 ++ [tk]) ∧ ((d2 = [] ∧ tk.1 = "end") ∨ (tk.1 ≠ "end" ∧ ∃ cs R, z ++ [10] = cs ++ R ∧ H' p = some (.ins C dx (fsAt (z ++ [10]) cs)) ∧ Lx cs R d2)),
      ⟨_, [], t, [], tk0, l0, rfl, rfl, rfl, s2, upd_same, .cons (by rw [upd_ne htl]; exact h2) .nil, ?_⟩, ?_⟩
    · rcases st with st | ⟨ne0, cs', R', e1, e2, e3⟩
      · exact .inl st
      · exact .inr ⟨ne0, cs', R', e1, by rw [upd_ne (nlp _ e2)]; exact e2, e3⟩
    rintro m σ H3 ⟨t0, t1, d0, tk, d2, rfl, ed, rfl, s3, hl3, pr, st3⟩
    have ht1 : H3 t1 = some (.tup (vTok tk)) := by
      have : ∀ {l₁ : List Addr} {l₂ : List Tok4}, Paired (fun t tk => H3 t = some (.tup (vTok tk))) (l₁ ++ [t1]) (l₂ ++ [tk]) → H3 t1 = some (.tup (vTok tk)) := by
        intro l₁
        induction l₁ with
        | nil =>
          intro l₂ h
          cases l₂ with
          | nil => cases h with | cons r _ => exact r
          | cons a b => cases h with | cons r q => cases b <;> cases q
        | cons a l₁ ih =>
          intro l₂ h
          cases l₂ with
          | nil => cases h with | cons r q => cases l₁ <;> cases q
          | cons b l₂ => cases h with | cons r q => exact ih q
      exact this pr
    refine ⟨_, rfl, _, rfl, l, _, -1, .ref t1, rfl, rfl, SqL.of hl3, (by rw [List.map_append]; exact last_at), ?_⟩
    refine ⟨t1, _, 0, _, rfl, rfl, SqT.of ht1, rfl, ?_⟩
    refine ⟨rfl, _, rfl, ?_⟩
    refine ite_b (fun q => ?_) (fun q => ?_)
    · have hne : tk.1 ≠ "end" := fun e => by
        have q2 : (!decide (V.str tk.1 = V.str (Str.ofString "end"))) = true := q
        rw [e] at q2
        simp at q2
      rcases st3 with ⟨_, e⟩ | ⟨_, cs, R, e1, hp3, L3⟩
      · exact absurd e hne
      obtain ⟨tk2, d3, rfl⟩ := lx_ne L3
      refine ⟨fun σ' H' => ∃ m', m' < (tk2 :: d3).length ∧ ∃ (t0 : List Addr) (t : Addr) (d0 : List Tok4) (tk : Tok4) (d2 : List Tok4), m' = d2.length ∧ tk0 :: l0 = d0 ++ [tk] ++ d2 ∧ σ' = [some (.str (TX z)), some (.ref p), some (.ref l)] ∧ Same H H' ∧ H' l = some (.lst ((t0 ++ [t]).map V.ref)) ∧
        Paired (fun t tk => H' t = some (.tup (vTok tk))) (t0 ++ [t]) (d0 ++ [tk]) ∧ ((d2 = [] ∧ tk.1 = "end") ∨ (tk.1 ≠ "end" ∧ ∃ cs R, z ++ [10] = cs ++ R ∧ H' p = some (.ins C dx (fsAt (z ++ [10]) cs)) ∧ Lx cs R d2)), fun σ' H' y => y, ?_⟩
      refine ⟨_, rfl, .inl ⟨rfl, _, SqL.of hl3⟩, ?_⟩
      refine ⟨_, rfl, p, dx, _, rfl, hp3, rfl, ?_⟩
      refine meth0 (sp := spToken C) ?_
      refine lx_token L3 e1 hsl hp3 fun t2 H4 ht2 h4 kp4 st4 => ?_
      have npl : l ≠ p := ne_of hl3 hp3 (by intro e; cases e)
      have hl4 : H4 l = some (.lst ((t0 ++ [t1]).map V.ref)) := kp4 _ _ hl3 npl
      have hlen3 : (t0 ++ [t1]).length = (d0 ++ [tk]).length := Paired.length pr
      refine ⟨l, _, _, rfl, rfl, hl4, ?_, ?_⟩
      · rw [List.length_map]
        rw [ed] at hdl
        rw [hlen3]
        have e5 : (d0 ++ [tk] ++ tk2 :: d3).length = (d0 ++ [tk]).length + (tk2 :: d3).length := List.length_append
        have e6 : 100 < sizeLine := by decide
        omega
      · have ht2l : t2 ≠ l := ne_of h4 hl4 (by intro e; cases e)
        refine ⟨d3.length, by simp, t0 ++ [t1], t2, d0 ++ [tk], tk2, d3, rfl, by rw [ed]; simp, rfl, fun b o e => ?_, by rw [upd_same, List.map_append (l₂ := [t2])]; rfl, ?_, ?_⟩
        · rw [upd_ne (ne_of_none e nl0)]
          exact kp4 b o (s3 b o e) (ne_of_none e np)
        · refine paired_snoc (by rw [upd_ne ht2l]; exact h4) (paired_mono (fun a b e => ?_) pr)
          have ha : a ≠ l := ne_of e hl3 (by intro e; cases e)
          have hap : a ≠ p := ne_of e hp3 (by intro e; cases e)
          rw [upd_ne ha]
          exact kp4 _ _ e hap
        · rcases st4 with st4 | ⟨ne4, cs', R', a1, a2, a3⟩
          · exact .inl st4
          · exact .inr ⟨ne4, cs', R', a1, by rw [upd_ne npl.symm]; exact a2, a3⟩
    · have he : tk.1 = "end" := by
        have q2 : (!decide (V.str tk.1 = V.str (Str.ofString "end"))) = false := q
        simpa using q2
      rcases st3 with ⟨e, _⟩ | ⟨ne, _⟩
      · subst e
        rw [List.append_nil] at ed
        refine ⟨_, rfl, k H3 l _ s3 hl3 ?_⟩
        rw [ed]
        exact pr
      · exact absurd he ne
end
end VL

set_option Elab.async false
set_option linter.all false
set_option maxRecDepth 100000
set_option maxHeartbeats 4000000
namespace VL
open PySem PySem.Spec PyProof.Rows L2

abbrev MM : Int := 18446744073709551557
/-- a state of drawing -/
def StA (H : Hp) (a : Addr) : Prop := ∃ z, H a = some (.lst [.int z]) ∧ 0 ≤ z ∧ z < MM
/-- all but a is kept -/
def Kp (a : Addr) (H H' : Hp) : Prop := ∀ b o, H b = some o → b ≠ a → H' b = some o
theorem Kp.trans {a : Addr} {H H' H'' : Hp} (h : Kp a H H') (k : Kp a H' H'') : Kp a H H'' := fun b o e n => k b o (h b o e n) n
theorem Kp.refl {a : Addr} {H : Hp} : Kp a H H := fun _ _ e _ => e
theorem Kp.new {a t : Addr} {o : HO} {H : Hp} (h : H t = none) : Kp a H (upd H t o) := fun b u e _ => by rw [upd_ne (ne_of_none e h)]; exact e
theorem StA.new {a t : Addr} {o : HO} {H : Hp} (S : StA H a) (h : H t = none) : StA (upd H t o) a := by
  obtain ⟨z, e, r⟩ := S
  exact ⟨z, by rw [upd_ne (ne_of_none e h)]; exact e, r⟩
abbrev gapsL : List (List Nat) := [[32], [10], [32, 32], [32, 47, 47, 32, 120, 32, 34, 32, 110, 111, 10], [10, 10, 32], [32, 47, 47, 10]]
def spCellA (K : PySem.W.Frag) : Sp := fun vs H Q _ => ∃ (a : Addr) (ns : List Int) (j : Int), vs = [.ref a, .int j] ∧ SqL K H a (ns.map V.int) ∧ 0 ≤ j ∧ ∀ z, Q (.int z) H
def spIsInt : Sp := fun vs H Q _ => ∃ i : Int, vs = [.int i] ∧ Q (.bl true) H
def spStart : Sp := fun vs H Q _ => ∃ c k : Int, vs = [.int c, .int k] ∧ ∀ p H', H p = none → Same H H' → StA H' p → Q (.ref p) H'
def spDigit : Sp := fun vs H Q _ => ∃ (a : Addr) (m : Int), vs = [.ref a, .int m] ∧ StA H a ∧ 0 < m ∧ ∀ r H', StA H' a → Kp a H H' → 0 ≤ r → r < m → Q (.int r) H'
def spGap : Sp := fun vs H Q _ => ∃ (a : Addr), vs = [.ref a] ∧ StA H a ∧ ∀ g H', g ∈ gapsL → StA H' a → Kp a H H' → Q (.str (TX g)) H'
def spQuoted : Sp := fun vs H Q _ => ∃ (t : List Nat), vs = [.str (TX t)] ∧ t.length ≤ 100 ∧ Q (.str (TX (34 :: (escL t ++ [34])))) H
theorem map_int_at {ns : List Int} {j : Int} (h0 : 0 ≤ j) (h1 : j < (ns.length : Int)) : ∃ z, atI (ns.map V.int) j = some (.int z) := by
  have hj : j.toNat < ns.length := by omega
  refine ⟨ns[j.toNat], ?_⟩
  unfold atI ixN
  rw [if_pos h0, if_pos (by rw [List.length_map]; exact h1)]
  show (ns.map V.int)[j.toNat]? = _
  rw [List.getElem?_map, List.getElem?_eq_getElem hj]
  rfl
theorem atI_map {α : Type} {rs : List α} {f : α → V} {r : Int} (h0 : 0 ≤ r) (h1 : r.toNat < rs.length) : atI (rs.map f) r = some (f rs[r.toNat]) := by
  unfold atI ixN
  rw [if_pos h0, if_pos (by rw [List.length_map]; omega)]
  show (rs.map f)[r.toNat]? = _
  rw [List.getElem?_map, List.getElem?_eq_getElem h1]
  rfl
theorem escL_len2 : ∀ t : List Nat, (escL t).length ≤ 2 * t.length
  | [] => Nat.zero_le _
  | c :: t => by
    rw [escL_cons, List.length_append, List.length_cons]
    have := escL_len2 t
    rcases esc1_two c with ⟨e, _⟩ | ⟨x, e, _⟩ <;> rw [e] <;> simp <;> omega
section
variable {P : Program} {w : World} {K : PySem.W.Frag} {mg : Str → Option Value} {base : Heap} {C : Addr}
theorem sc__law_cell : FnScope ["script", "k"] ["script", "k"] (defScope s__law_cell) := ⟨rfl, rfl, rfl, by decide +kernel, rfl, by decide +kernel, by decide +kernel⟩
theorem ok_cell (T : Txt K w mg C) : Cal P w K mg base 1 "_law_cell" (spCellA K) := by
  refine cal_of T.d__law_cell sc__law_cell (fun vs H Q E h => ?_) (fun f cdv A outer s H vs Q E hr h => ?_)
  · obtain ⟨a, ns, j, rfl, _⟩ := h
    rfl
  · obtain ⟨a, ns, j, rfl, hS, h0, k⟩ := h
    refine ⟨_, (pss_cons (ps_if (pt_cmpR op_lt (pv 1) (pe_callB call_len_seq (by rfl) T.z_len PySem.boot_len (pa_cons (pv 0) pa_nil)) (nomark _)) (pss_one (ps_ret (pe_ix ix_list (pv 0) (pv 1) (fun _ _ => rfl)))) pss_nil) (pss_one (ps_ret pe_int))), ?_⟩
    refine ⟨_, rfl, _, rfl, a, _, rfl, .inl hS, _, _, rfl, rfl, _, rfl, ?_⟩
    refine ite2 (fun q => ?_) (fun q => ?_)
    · have q' := of_decide_eq_true q
      rw [List.length_map] at q'
      obtain ⟨z, hz⟩ := map_int_at h0 q'
      exact ⟨_, rfl, _, rfl, a, _, j, _, rfl, rfl, hS, hz, k z⟩
    · exact k 0
theorem sc__law_is_integer : FnScope ["told"] ["told"] (defScope s__law_is_integer) := ⟨rfl, rfl, rfl, by decide +kernel, rfl, by decide +kernel, by decide +kernel⟩
theorem ok_isInt (T : Txt K w mg C) : Cal P w K mg base 1 "_law_is_integer" spIsInt := by
  refine cal_of T.d__law_is_integer sc__law_is_integer (fun vs H Q E h => ?_) (fun f cdv A outer s H vs Q E hr h => ?_)
  · obtain ⟨i, rfl, _⟩ := h
    rfl
  · obtain ⟨i, rfl, k⟩ := h
    refine ⟨_, (pss_one (ps_ret (pe_and (pe_callB call_isi (by rfl) T.z_isinstance (by decide +kernel) (pa_cons (pv 0) (pa_cons (pe_bltn (v := .ty "int") (by rfl) T.z_int (by decide +kernel) rfl) pa_nil))) (pe_one (pe_not (pe_callB call_isi (by rfl) T.z_isinstance (by decide +kernel) (pa_cons (pv 0) (pa_cons (pe_bltn (v := .ty "bool") (by rfl) T.z_bool (by decide +kernel) rfl) pa_nil)))))))), ?_⟩
    refine ⟨_, rfl, .int i, .ty "int", _, _, true, rfl, .ty _, .base (.int i), kit_ty (by decide +kernel), true, rfl, ?_⟩
    refine iteT ?_
    exact ⟨_, rfl, .int i, .ty "bool", _, _, false, rfl, .ty _, .base (.int i), kit_ty (by decide +kernel), false, rfl, k⟩
theorem sc__law_start : FnScope ["cell", "k"] ["cell", "k"] (defScope s__law_start) := ⟨rfl, rfl, rfl, by decide +kernel, rfl, by decide +kernel, by decide +kernel⟩
theorem ok_start (T : Txt K w mg C) : Cal P w K mg base 1 "_law_start" spStart := by
  refine cal_of T.d__law_start sc__law_start (fun vs H Q E h => ?_) (fun f cdv A outer s H vs Q E hr h => ?_)
  · obtain ⟨c, k, rfl, _⟩ := h
    rfl
  · obtain ⟨c, j, rfl, k⟩ := h
    refine ⟨_, (pss_one (ps_ret (pe_lst (pa_cons (pe_op op_mod (pe_callTy call_int1 (by rfl) T.z_int (by decide +kernel) (pa_cons (pe_op op_add (pe_op op_mul (pv 0) pe_int) (pe_op op_mul (pe_op op_add (pv 1) pe_int) pe_int)) pa_nil)) pe_int) pa_nil)))), ?_⟩
    refine ⟨_, rfl, _, _, rfl, rfl, .inr ⟨by decide, by decide⟩, _, rfl, _, _, rfl, rfl, _, _, rfl, rfl, .inr ⟨by decide, by decide⟩, _, _, rfl, rfl, .inl ⟨_, rfl, _, _, rfl, rfl, (by show (0 : Int) < MM; decide), ?_⟩⟩
    refine ⟨by show 1 ≤ sizeLine; decide, fun p hp => ?_⟩
    refine k p _ hp (fun b o e => by rw [upd_ne (ne_of_none e hp)]; exact e) ⟨_, upd_same, Int.emod_nonneg _ (by decide), Int.emod_lt_of_pos _ (by decide)⟩
theorem sc__law_digit : FnScope ["state", "many"] ["state", "many"] (defScope s__law_digit) := ⟨rfl, rfl, rfl, by decide +kernel, rfl, by decide +kernel, by decide +kernel⟩
theorem ok_digit (T : Txt K w mg C) : Cal P w K mg base 1 "_law_digit" spDigit := by
  refine cal_of T.d__law_digit sc__law_digit (fun vs H Q E h => ?_) (fun f cdv A outer s H vs Q E hr h => ?_)
  · obtain ⟨a, m, rfl, _⟩ := h
    rfl
  · obtain ⟨a, m, rfl, ⟨z, hS, h0, h1⟩, hm, k⟩ := h
    refine ⟨_, (pss_cons (ps_asg (pe_op op_mod (pe_callTy call_int1 (by rfl) T.z_int (by decide +kernel) (pa_cons (pe_op op_add (pe_op op_mul (pe_ix ix_list (pv 0) pe_int (fun _ _ => rfl)) pe_int) pe_int) pa_nil)) pe_int) (pg_sub (pv 0) pe_int set_list)) (pss_one (ps_ret (pe_op op_mod (pe_callTy call_int1 (by rfl) T.z_int (by decide +kernel) (pa_cons (pe_op op_fdiv (pe_ix ix_list (pv 0) pe_int (fun _ _ => rfl)) pe_int) pa_nil)) (pv 1))))), ?_⟩
    refine ⟨_, rfl, a, _, 0, _, rfl, rfl, SqL.of hS, rfl, _, _, rfl, rfl, .inr ⟨by decide, by decide⟩, _, _, rfl, rfl, .inl ⟨_, rfl, _, _, rfl, rfl, (by show (0 : Int) < MM; decide), ?_⟩⟩
    refine ⟨_, rfl, a, _, 0, 0, rfl, rfl, hS, rfl, ?_⟩
    refine ⟨_, rfl, a, _, 0, _, rfl, rfl, SqL.of upd_same, rfl, _, _, rfl, rfl, ⟨by decide, by decide⟩, .inl ⟨_, rfl, _, rfl, _, _, rfl, rfl, hm, ?_⟩⟩
    exact k _ _ ⟨_, upd_same, Int.emod_nonneg _ (by decide), Int.emod_lt_of_pos _ (by decide)⟩ (fun b o e n => by rw [upd_ne n]; exact e) (Int.emod_nonneg _ (by omega)) (Int.emod_lt_of_pos _ hm)
theorem sc__law_gap : FnScope ["state"] ["state"] (defScope s__law_gap) := ⟨rfl, rfl, rfl, by decide +kernel, rfl, by decide +kernel, by decide +kernel⟩
theorem ok_gap (T : Txt K w mg C) : Cal P w K mg base 2 "_law_gap" spGap := by
  have G_law_digit : Cal P w K mg base 1 "_law_digit" spDigit := ok_digit T
  refine cal_of T.d__law_gap sc__law_gap (fun vs H Q E h => ?_) (fun f cdv A outer s H vs Q E hr h => ?_)
  · obtain ⟨a, rfl, _⟩ := h
    rfl
  · obtain ⟨a, rfl, S, k⟩ := h
    refine ⟨_, (pss_one (ps_ret (pe_ix ix_tup (pe_tup (pa_cons pe_str (pa_cons pe_str (pa_cons pe_str (pa_cons pe_str (pa_cons pe_str (pa_cons pe_str pa_nil))))))) (pe_c G_law_digit hr (by decide) (by rfl) (pa_cons (pv 0) (pa_cons pe_int pa_nil))) (fun _ _ => rfl)))), ?_⟩
    refine ⟨by show 6 ≤ sizeLine; decide, fun t ht => ?_⟩
    refine ⟨_, rfl, a, 6, rfl, S.new ht, by decide, fun r H' S' kp h0 h1 => ?_⟩
    have hta : t ≠ a := by
      obtain ⟨z, e, _⟩ := S
      exact (ne_of_none e ht).symm
    have ht' : H' t = some (.tup (gapsL.map fun l => V.str (TX l))) := kp t _ upd_same hta
    have hr : r.toNat < gapsL.length := by show r.toNat < 6; omega
    refine ⟨t, _, r, _, rfl, rfl, SqT.of ht', atI_map h0 hr, ?_⟩
    exact k _ H' (List.getElem_mem hr) S' ((Kp.new ht).trans kp)
theorem sc__law_quoted : FnScope ["text", "found", "char"] ["text"] (defScope s__law_quoted) := ⟨rfl, rfl, rfl, by decide +kernel, rfl, by decide +kernel, by decide +kernel⟩
theorem ok_quoted (T : Txt K w mg C) : Cal P w K mg base 1 "_law_quoted" spQuoted := by
  refine cal_of T.d__law_quoted sc__law_quoted (fun vs H Q E h => ?_) (fun f cdv A outer s H vs Q E hr h => ?_)
  · obtain ⟨t, rfl, _⟩ := h
    rfl
  · obtain ⟨t, rfl, hlen, k⟩ := h
    refine ⟨_, (pss_cons (ps_set (i := 1) sc__law_quoted.nd rfl (Or.inl rfl) pe_str) (pss_cons (ps_for PassesOwn.never rfl (pi_str (pv 0)) (pg_name (i := 2) sc__law_quoted.nd rfl (Or.inl rfl)) (pss_one (ps_if (pt_cmpR op_eq (pv 2) pe_str (nomark _)) (pss_one (ps_set (i := 1) sc__law_quoted.nd rfl (Or.inl rfl) (pe_op op_add_str (pv 1) pe_str))) (pss_one (ps_if (pt_cmpR op_in_sign (pv 2) pe_str rfl) (pss_one (ps_set (i := 1) sc__law_quoted.nd rfl (Or.inl rfl) (pe_op op_add_str (pe_op op_add_str (pv 1) pe_str) (pv 2)))) (pss_one (ps_set (i := 1) sc__law_quoted.nd rfl (Or.inl rfl) (pe_op op_add_str (pv 1) (pv 2))))))))) (pss_one (ps_ret (pe_op op_add_str (pe_op op_add_str pe_str (pv 1)) pe_str))))), ?_⟩
    refine ⟨_, rfl, _, rfl, ?_⟩
    have big : ∀ {n : Nat}, n ≤ 300 → n ≤ sizeLine := fun h => Nat.le_trans h (by decide)
    have esz : (TX t).cps.size = t.length := by simp
    refine for_it walk_str (fun i σ H' => H' = H ∧ ∃ ch, σ = [some (.str (TX t)), some (.str (TX (escL (t.take i)))), ch]) ⟨rfl, none, rfl⟩ (fun _ _ _ _ _ => trivial) ?_ ?_
    · rintro i x σ H0 H' hi ⟨rfl, ch, rfl⟩ ⟨rfl, c, hc, rfl⟩
      rw [esz] at hi
      have hc2 : t[i]? = some c := by simpa using hc
      have et : t.take (i + 1) = t.take i ++ [c] := by
        rw [List.take_add_one, hc2]
        rfl
      have es : escL (t.take (i + 1)) = escL (t.take i) ++ esc1 c := by
        rw [et, escL_app]
        congr 1
        unfold escL
        simp
      have l1 : (escL (t.take i)).length ≤ 200 := by
        have := escL_len2 (t.take i)
        have := List.length_take_le i t
        omega
      refine ⟨_, rfl, rfl, _, rfl, ?_⟩
      refine ite_one (d := 10) (fun e => ?_) (fun n10 => ?_)
      · refine ⟨_, rfl, _, _, rfl, rfl, (by rw [TX_len]; show (escL (t.take i)).length + 2 ≤ sizeLine; exact big (by omega)), rfl, some (.str (TX [c])), ?_⟩
        have e9 : TX (escL (t.take i)) ++ TX [92, 110] = TX (escL (t.take i) ++ esc1 10) := by
          rw [TX_cat]
          rfl
        rw [es, e, ← e9]
        rfl
      · refine ⟨_, rfl, c, _, rfl, rfl, _, rfl, ?_⟩
        refine ite2 (fun q => ?_) (fun q => ?_)
        · have hq : c = 34 ∨ c = 92 := by
            have q2 : c ∈ [34, 92] := of_decide_eq_true q
            simpa using q2
          refine ⟨_, rfl, _, _, rfl, rfl, (by rw [TX_len]; show (escL (t.take i)).length + 1 ≤ sizeLine; exact big (by omega)), _, rfl, _, _, rfl, rfl, (by show (TX (escL (t.take i)) ++ TX [92]).length + 1 ≤ sizeLine; rw [TX_cat, TX_len, List.length_append]; exact big (by show _ + 1 + 1 ≤ 300; omega)), rfl, some (.str (TX [c])), ?_⟩
          have e9 : TX (escL (t.take i)) ++ TX [92] ++ TX [c] = TX (escL (t.take (i + 1))) := by
            rw [TX_cat, TX_cat, es, List.append_assoc]
            congr 2
            unfold esc1
            rcases hq with rfl | rfl <;> rfl
          rw [← e9]
          rfl
        · have hq : ¬ (c = 34 ∨ c = 92) := by
            have q2 : ¬ c ∈ [34, 92] := fun m => q (decide_eq_true m)
            simpa using q2
          refine ⟨_, rfl, _, rfl, _, _, rfl, rfl, (by show (TX (escL (t.take i))).length + 1 ≤ sizeLine; rw [TX_len]; exact big (by omega)), rfl, some (.str (TX [c])), ?_⟩
          have e9 : TX (escL (t.take i)) ++ TX [c] = TX (escL (t.take (i + 1))) := by
            rw [TX_cat, es]
            congr 2
            unfold esc1
            rw [if_neg n10, if_neg fun e => hq (.inl e), if_neg fun e => hq (.inr e)]
          rw [← e9]
          rfl
    · rintro σ H' ⟨rfl, ch, rfl⟩
      rw [esz, List.take_length]
      have l1 := escL_len2 t
      refine ⟨_, rfl, _, _, rfl, rfl, (by rw [TX_len]; show 1 + (escL t).length ≤ sizeLine; exact big (by omega)), _, _, rfl, rfl, (by show (TX [34] ++ TX (escL t)).length + 1 ≤ sizeLine; rw [TX_cat, TX_len, List.length_append]; exact big (by show 1 + _ + 1 ≤ 300; omega)), ?_⟩
      have e9 : TX [34] ++ TX (escL t) ++ TX [34] = TX (34 :: (escL t ++ [34])) := by rw [TX_cat, TX_cat]; rfl
      rw [← e9] at k
      exact k
end
end VL

set_option Elab.async false
set_option linter.all false
set_option maxRecDepth 100000
set_option maxHeartbeats 4000000
namespace VL
open PySem PySem.Spec PyProof.Rows L2

abbrev charsL : List Nat := [97, 98, 122, 32, 48, 57, 95, 34, 92, 10, 47, 60, 62, 123, 125, 40, 41, 59, 61]
abbrev wordsL : List (List Nat) := [[120], [105, 102], [67, 97, 114, 100], [97, 95, 49], [90], [99, 111, 109, 112, 111, 110, 101, 110, 116, 65], [98, 121], [122, 111, 111, 57], [113, 95, 95], [115, 108, 111, 116]]
abbrev closeL : List (List Nat) := [[112], [67, 97, 114, 100], [104, 49], [105, 102]]
abbrev signs1 : List (List Nat) := [[61, 61], [33, 61], [60, 61], [62, 61], [38, 38], [124, 124], [47, 62], [43], [45], [42], [47], [60], [62], [61], [33], [63], [58], [46], [44], [59]]
abbrev signs2 : List (List Nat) := [[40], [41], [91], [93], [123], [125]]
/-- what the law writes -/
inductive TkL : Str → List Nat → List Nat → Prop where
  | word {w} (h : w ∈ wordsL) : TkL "word" w w
  | number {n : Nat} (h : n ≤ 10 ^ 30) : TkL "number" (TL.numL n) (TL.numL n)
  | text {t : List Nat} (h : t.length ≤ 5) (h2 : ∀ c ∈ t, c < 128) : TkL "text" t (34 :: (escL t ++ [34]))
  | closing {w} (h : w ∈ closeL) : TkL "closing" w (60 :: 47 :: w)
  | sign {s} (h : s ∈ signs1 ++ signs2) : TkL "sign" s s
theorem yes2 {σ : L2.St} {H : Hp} {A B : Hp → Prop} (h : A H) : tYes σ H fun b H3 => if b = true then A H3 else B H3 := by
  show (if true = true then A H else B H)
  rw [if_pos rfl]
  exact h
theorem kept {a t : Addr} {o : HO} {H0 H' : Hp} (ht : H0 t = none) (S : StA H0 a) (k : Kp a (upd H0 t o) H') : H' t = some o := by
  obtain ⟨z, e, _⟩ := S
  exact k t _ upd_same (ne_of_none e ht).symm
theorem log30 {i : Int} (h0 : 0 ≤ i) (h : i ≤ 10 ^ 30) : i.natAbs.log2 < 1920 := by
  have h1 : i.natAbs ≤ 10 ^ 30 := by omega
  have h2 : i.natAbs < 2 ^ 1920 := Nat.lt_of_lt_of_le (Nat.lt_of_le_of_lt h1 (by decide : 10 ^ 30 < 2 ^ 100)) (Nat.pow_le_pow_right (by decide) (by decide))
  by_cases e : i.natAbs = 0
  · rw [e]
    decide
  · exact (Nat.log2_lt e).mpr h2
def spTextL : Sp := fun vs H Q _ => ∃ (a : Addr), vs = [.ref a] ∧ StA H a ∧ ∀ t H', t.length ≤ 5 → (∀ c ∈ t, c < 128) → StA H' a → Kp a H H' → Q (.str (TX t)) H'
def spTokenL : Sp := fun vs H Q _ => ∃ (a : Addr), vs = [.ref a] ∧ StA H a ∧ ∀ T so wo wr H', TkL so wo wr → StA H' a → Kp a H H' → H' T = some (.tup [.str so, .str (TX wo), .str (TX wr)]) → Q (.ref T) H'
section
variable {P : Program} {w : World} {K : PySem.W.Frag} {mg : Str → Option Value} {base : Heap} {C : Addr}
theorem sc__law_text : FnScope ["state", "chars", "k"] ["state"] (defScope s__law_text) := ⟨rfl, rfl, rfl, by decide +kernel, rfl, by decide +kernel, by decide +kernel⟩
theorem ok_textL (T : Txt K w mg C) : Cal P w K mg base 2 "_law_text" spTextL := by
  have G_law_digit : Cal P w K mg base 1 "_law_digit" spDigit := ok_digit T
  refine cal_of T.d__law_text sc__law_text (fun vs H Q E h => ?_) (fun f cdv A outer s H vs Q E hr h => ?_)
  · obtain ⟨a, rfl, _⟩ := h
    rfl
  · obtain ⟨a, rfl, S, k⟩ := h
    refine ⟨_, (pss_cons (ps_set (i := 1) sc__law_text.nd rfl (Or.inr rfl) pe_str) (pss_one (ps_ret (pe_join pe_str (pe_lc (own := [("k", 2)]) (g := gName 2) (tt := tYes) rfl sc__law_text.nd (pi_range1 (by rfl) T.z_range (pa_cons (pe_c G_law_digit hr (by decide) (by rfl) (pa_cons (pv 0) (pa_cons pe_int pa_nil))) pa_nil)) (blkOk_by (N := ["state", "chars", "k"]) (sc := (defScope s__law_text)) (by decide +kernel)) (fun _ _ _ _ _ => pg_name (i := 2) sc__law_text.nd rfl (Or.inl rfl)) (fun _ _ _ _ _ => pts_nil) (fun _ _ _ _ _ => (pe_ix ix_str (pv 1) (pe_c G_law_digit hr (by decide) (by rfl) (pa_cons (pv 0) (pa_cons pe_int pa_nil))) (fun _ _ => rfl)))))))), ?_⟩
    refine ⟨⟨_, rfl⟩, _, rfl, a, 6, rfl, S, by decide, fun r H1 S1 k1 h0 h1 => ?_⟩
    refine ⟨r, rfl, by omega, by omega, fun D hD => ?_⟩
    have hDa : a ≠ D := by
      obtain ⟨z, e, _⟩ := S1
      exact ne_of_none e hD
    refine lc_range (lo := 0) (n := r.toNat) (fun i H' => ∃ t : List Nat, t.length = i ∧ (∀ c ∈ t, c < 128) ∧ H' D = some (.lst (t.map fun c => V.str (TX [c]))) ∧ StA H' a ∧ Kp a H H')
      ⟨[], rfl, (fun c hc => by cases hc), upd_same, S1.new hD, k1.trans (Kp.new hD)⟩ ?_ ?_
    · rintro i H2 hi ⟨t, rfl, hc, hd, S2, k2⟩
      refine ⟨rfl, yes2 ?_⟩
      refine ⟨_, rfl, _, rfl, a, 19, rfl, S2, by decide, fun r2 H3 S3 k3 g0 g1 => ?_⟩
      have hd3 : H3 D = some (.lst (t.map fun c => V.str (TX [c]))) := k3 _ _ hd hDa.symm
      have hr : r2.toNat < charsL.length := by show r2.toNat < 19; omega
      refine ⟨TX charsL, r2, charsL[r2.toNat], rfl, rfl, (by show 19 ≤ sizeLine; decide), ?_, ?_⟩
      · rw [TX_tl]
        unfold atI ixN
        rw [if_pos g0, if_pos (by show r2 < 19; omega)]
        show charsL[r2.toNat]? = _
        exact List.getElem?_eq_getElem hr
      · refine ⟨_, hd3, (by rw [List.length_map]; exact Nat.lt_of_lt_of_le (show t.length < 6 by omega) (by decide)), t ++ [charsL[r2.toNat]], by simp, (fun c m => by
          rcases List.mem_append.mp m with m | m
          · exact hc c m
          · rw [List.mem_singleton.mp m]
            exact (by decide : ∀ c ∈ charsL, c < 128) _ (List.getElem_mem hr)), ?_, ?_, ?_⟩
        · rw [upd_same, List.map_append]
          rfl
        · obtain ⟨z, e, q⟩ := S3
          exact ⟨z, by rw [upd_ne hDa]; exact e, q⟩
        · intro b o e n
          by_cases ebd : b = D
          · subst ebd
            have := k1 b o e n
            rw [hD] at this
            cases this
          · rw [upd_ne ebd]
            exact k3 _ _ (k2 _ _ e n) n
    · rintro H2 ⟨t, ht, hc, hd, S2, k2⟩
      refine ⟨TX [], D, t.map fun c => TX [c], rfl, rfl, .inl ?_, ?_, ?_⟩
      · rw [List.map_map]
        exact SqL.of hd
      · rw [ones_sum]
        show t.length + _ * 0 ≤ _
        omega
      · rw [join_ones]
        exact k t H2 (by omega) hc S2 k2
theorem sc__law_token : FnScope ["state", "kind", "word", "number", "text", "signs", "sign"] ["state"] (defScope s__law_token) := ⟨rfl, rfl, rfl, by decide +kernel, rfl, by decide +kernel, by decide +kernel⟩
theorem ok_tokenL (T : Txt K w mg C) : Cal P w K mg base 3 "_law_token" spTokenL := by
  have G_law_digit : Cal P w K mg base 1 "_law_digit" spDigit := ok_digit T
  have G_law_text : Cal P w K mg base 2 "_law_text" spTextL := ok_textL T
  have G_law_quoted : Cal P w K mg base 1 "_law_quoted" spQuoted := ok_quoted T
  refine cal_of T.d__law_token sc__law_token (fun vs H Q E h => ?_) (fun f cdv A outer s H vs Q E hr h => ?_)
  · obtain ⟨a, rfl, _⟩ := h
    rfl
  · obtain ⟨a, rfl, S, k⟩ := h
    refine ⟨_, (pss_cons (ps_set (i := 1) sc__law_token.nd rfl (Or.inl rfl) (pe_c G_law_digit hr (by decide) (by rfl) (pa_cons (pv 0) (pa_cons pe_int pa_nil)))) (pss_cons (ps_if (pt_cmpR op_lt (pv 1) pe_int (nomark _)) (pss_cons (ps_set (i := 2) sc__law_token.nd rfl (Or.inl rfl) (pe_ix ix_tup (pe_tup (pa_cons pe_str (pa_cons pe_str (pa_cons pe_str (pa_cons pe_str (pa_cons pe_str (pa_cons pe_str (pa_cons pe_str (pa_cons pe_str (pa_cons pe_str (pa_cons pe_str pa_nil))))))))))) (pe_c G_law_digit hr (by decide) (by rfl) (pa_cons (pv 0) (pa_cons pe_int pa_nil))) (fun _ _ => rfl))) (pss_one (ps_ret (pe_tup (pa_cons pe_str (pa_cons (pv 2) (pa_cons (pv 2) pa_nil))))))) pss_nil) (pss_cons (ps_if (pt_cmpR op_eq (pv 1) pe_int (nomark _)) (pss_cons (ps_set (i := 3) sc__law_token.nd rfl (Or.inl rfl) (pe_ix ix_tup (pe_tup (pa_cons pe_int (pa_cons (pe_c G_law_digit hr (by decide) (by rfl) (pa_cons (pv 0) (pa_cons pe_int pa_nil))) (pa_cons (pe_op op_pow pe_int pe_int) (pa_cons (pe_op op_sub (pe_op op_pow pe_int pe_int) (pe_c G_law_digit hr (by decide) (by rfl) (pa_cons (pv 0) (pa_cons pe_int pa_nil)))) pa_nil))))) (pe_c G_law_digit hr (by decide) (by rfl) (pa_cons (pv 0) (pa_cons pe_int pa_nil))) (fun _ _ => rfl))) (pss_one (ps_ret (pe_tup (pa_cons pe_str (pa_cons (pe_callTy call_str_int (by rfl) T.z_str (by decide +kernel) (pa_cons (pv 3) pa_nil)) (pa_cons (pe_callTy call_str_int (by rfl) T.z_str (by decide +kernel) (pa_cons (pv 3) pa_nil)) pa_nil))))))) pss_nil) (pss_cons (ps_if (pt_cmpR op_eq (pv 1) pe_int (nomark _)) (pss_cons (ps_set (i := 4) sc__law_token.nd rfl (Or.inl rfl) (pe_c G_law_text hr (by decide) (by rfl) (pa_cons (pv 0) pa_nil))) (pss_one (ps_ret (pe_tup (pa_cons pe_str (pa_cons (pv 4) (pa_cons (pe_c G_law_quoted hr (by decide) (by rfl) (pa_cons (pv 4) pa_nil)) pa_nil))))))) pss_nil) (pss_cons (ps_if (pt_cmpR op_eq (pv 1) pe_int (nomark _)) (pss_cons (ps_set (i := 2) sc__law_token.nd rfl (Or.inl rfl) (pe_ix ix_tup (pe_tup (pa_cons pe_str (pa_cons pe_str (pa_cons pe_str (pa_cons pe_str pa_nil))))) (pe_c G_law_digit hr (by decide) (by rfl) (pa_cons (pv 0) (pa_cons pe_int pa_nil))) (fun _ _ => rfl))) (pss_one (ps_ret (pe_tup (pa_cons pe_str (pa_cons (pv 2) (pa_cons (pe_op op_add_str pe_str (pv 2)) pa_nil))))))) pss_nil) (pss_cons (ps_set (i := 5) sc__law_token.nd rfl (Or.inl rfl) (pe_tup (pa_cons pe_str (pa_cons pe_str (pa_cons pe_str (pa_cons pe_str (pa_cons pe_str (pa_cons pe_str (pa_cons pe_str (pa_cons pe_str (pa_cons pe_str (pa_cons pe_str (pa_cons pe_str (pa_cons pe_str (pa_cons pe_str (pa_cons pe_str (pa_cons pe_str (pa_cons pe_str (pa_cons pe_str (pa_cons pe_str (pa_cons pe_str (pa_cons pe_str pa_nil)))))))))))))))))))))) (pss_cons (ps_set (i := 5) sc__law_token.nd rfl (Or.inl rfl) (pe_op op_catA (pv 5) (pe_tup (pa_cons pe_str (pa_cons pe_str (pa_cons pe_str (pa_cons pe_str (pa_cons pe_str (pa_cons pe_str pa_nil))))))))) (pss_cons (ps_set (i := 6) sc__law_token.nd rfl (Or.inl rfl) (pe_ix ix_tup (pv 5) (pe_c G_law_digit hr (by decide) (by rfl) (pa_cons (pv 0) (pa_cons pe_int pa_nil))) (fun _ _ => rfl))) (pss_one (ps_ret (pe_tup (pa_cons pe_str (pa_cons (pv 6) (pa_cons (pv 6) pa_nil)))))))))))))), ?_⟩
    refine ⟨_, rfl, a, 6, rfl, S, by decide, fun r H1 S1 k1 h0 h1 => ?_⟩
    refine ⟨_, rfl, _, _, rfl, rfl, _, rfl, ?_⟩
    refine ite2 (fun q => ?_) (fun q => ?_)
    · refine ⟨by show 10 ≤ sizeLine; decide, fun t ht => ?_⟩
      refine ⟨_, rfl, a, 10, rfl, S1.new ht, by decide, fun r2 H2 S2 k2 g0 g1 => ?_⟩
      have ht2 : H2 t = some (.tup (wordsL.map fun l => V.str (TX l))) := kept ht S1 k2
      have hr : r2.toNat < wordsL.length := by show r2.toNat < 10; omega
      refine ⟨t, _, r2, _, rfl, rfl, SqT.of ht2, atI_map g0 hr, ?_⟩
      refine ⟨_, rfl, _, rfl, (by show 3 ≤ sizeLine; decide), fun T' hT => ?_⟩
      exact k T' _ _ _ _ (.word (List.getElem_mem hr)) (S2.new hT) (((k1.trans (Kp.new ht)).trans k2).trans (Kp.new hT)) upd_same
    refine ⟨_, rfl, rfl, _, rfl, ?_⟩
    refine ite2 (fun q => ?_) (fun q => ?_)
    · refine ⟨_, rfl, a, 1000, rfl, S1, by decide, fun r2 H2 S2 k2 g0 g1 => ?_⟩
      refine ⟨_, _, rfl, rfl, ⟨by decide, by decide, by decide⟩, ?_⟩
      refine ⟨_, _, rfl, rfl, ⟨by decide, by decide, by decide⟩, ?_⟩
      refine ⟨_, rfl, a, 99, rfl, S2, by decide, fun r3 H3 S3 k3 g2 g3 => ?_⟩
      refine ⟨_, _, rfl, rfl, ?_⟩
      refine ⟨by show 4 ≤ sizeLine; decide, fun t ht => ?_⟩
      refine ⟨_, rfl, a, 4, rfl, S3.new ht, by decide, fun r4 H4 S4 k4 g4 g5 => ?_⟩
      have ht2 : H4 t = some (.tup ([0, r2, 10 ^ 30, 10 ^ 30 - r3].map V.int)) := kept ht S3 k4
      have hr : r4.toNat < [0, r2, 10 ^ 30, 10 ^ 30 - r3].length := by show r4.toNat < 4; omega
      refine ⟨t, _, r4, _, rfl, rfl, SqT.of ht2, atI_map g4 hr, ?_⟩
      have hn : ∀ z ∈ [0, r2, 10 ^ 30, 10 ^ 30 - r3], 0 ≤ z ∧ z ≤ 10 ^ 30 := by
        intro z hz
        simp only [List.mem_cons, List.not_mem_nil, or_false] at hz
        rcases hz with rfl | rfl | rfl | rfl <;> constructor <;> omega
      obtain ⟨n0, n1⟩ := hn _ (List.getElem_mem hr)
      generalize [0, r2, 10 ^ 30, 10 ^ 30 - r3][r4.toNat] = z at n0 n1
      obtain ⟨n, rfl⟩ := Int.eq_ofNat_of_zero_le n0
      refine ⟨_, rfl, _, rfl, log30 n0 n1, _, rfl, _, rfl, log30 n0 n1, (by show 3 ≤ sizeLine; decide), fun T' hT => ?_⟩
      have en : Str.ofString (toString ((n : Nat) : Int)) = TX (TL.numL n) := SX.num_S n
      refine k T' _ _ _ _ (.number (n := n) (by omega)) (S4.new hT) (((((k1.trans k2).trans k3).trans (Kp.new ht)).trans k4).trans (Kp.new hT)) ?_
      rw [upd_same, ← en]
    refine ⟨_, rfl, rfl, _, rfl, ?_⟩
    refine ite2 (fun q => ?_) (fun q => ?_)
    · refine ⟨_, rfl, a, rfl, S1, fun t H2 tl tc S2 k2 => ?_⟩
      refine ⟨_, rfl, _, rfl, t, rfl, (by omega), (by show 3 ≤ sizeLine; decide), fun T' hT => ?_⟩
      exact k T' _ _ _ _ (.text tl tc) (S2.new hT) ((k1.trans k2).trans (Kp.new hT)) upd_same
    refine ⟨_, rfl, rfl, _, rfl, ?_⟩
    refine ite2 (fun q => ?_) (fun q => ?_)
    · refine ⟨by show 4 ≤ sizeLine; decide, fun t ht => ?_⟩
      refine ⟨_, rfl, a, 4, rfl, S1.new ht, by decide, fun r2 H2 S2 k2 g0 g1 => ?_⟩
      have ht2 : H2 t = some (.tup (closeL.map fun l => V.str (TX l))) := kept ht S1 k2
      have hr : r2.toNat < closeL.length := by show r2.toNat < 4; omega
      refine ⟨t, _, r2, _, rfl, rfl, SqT.of ht2, atI_map g0 hr, ?_⟩
      have hm := List.getElem_mem hr
      generalize closeL[r2.toNat] = wd at hm
      have hw4 : wd.length ≤ 4 := (by decide : ∀ x ∈ closeL, x.length ≤ 4) _ hm
      refine ⟨_, rfl, _, rfl, _, _, rfl, rfl, (by show 2 + (TX wd).length ≤ sizeLine; rw [TX_len]; exact Nat.le_trans (show 2 + wd.length ≤ 6 by omega) (by decide)), (by show 3 ≤ sizeLine; decide), fun T' hT => ?_⟩
      refine k T' _ _ _ _ (.closing hm) (S2.new hT) (((k1.trans (Kp.new ht)).trans k2).trans (Kp.new hT)) ?_
      have e9 : TX [60, 47] ++ TX wd = TX (60 :: 47 :: wd) := TX_cat _ _
      rw [upd_same, ← e9]
      rfl
    · refine ⟨by show 20 ≤ sizeLine; decide, fun t ht => ?_⟩
      refine ⟨_, rfl, (by show 6 ≤ sizeLine; decide), fun t2 ht2 => ?_⟩
      have e1 : upd (upd H1 t (.tup (signs1.map fun l => V.str (TX l)))) t2 (.tup (signs2.map fun l => V.str (TX l))) t = some (.tup (signs1.map fun l => V.str (TX l))) := by
        rw [upd_ne (ne_of_none (o := .tup (signs1.map fun l => V.str (TX l))) upd_same ht2), upd_same]
      refine ⟨t, t2, _, _, rfl, rfl, SqT.of e1, SqT.of upd_same, (by show 26 ≤ sizeLine; decide), (fun e => by cases e), (fun _ e => by cases e), fun _ _ t3 ht3 => ?_⟩
      refine ⟨_, rfl, _, rfl, a, 26, rfl, ((S1.new ht).new ht2).new ht3, by decide, fun r2 H2 S2 k2 g0 g1 => ?_⟩
      have ht4 : H2 t3 = some (.tup ((signs1 ++ signs2).map fun l => V.str (TX l))) := kept ht3 ((S1.new ht).new ht2) k2
      have hr : r2.toNat < (signs1 ++ signs2).length := by show r2.toNat < 26; omega
      refine ⟨t3, _, r2, _, rfl, rfl, SqT.of ht4, atI_map g0 hr, ?_⟩
      refine ⟨_, rfl, _, rfl, (by show 3 ≤ sizeLine; decide), fun T' hT => ?_⟩
      exact k T' _ _ _ _ (.sign (List.getElem_mem hr)) (S2.new hT) (((((k1.trans (Kp.new ht)).trans (Kp.new ht2)).trans (Kp.new ht3)).trans k2).trans (Kp.new hT)) upd_same
end
end VL

set_option Elab.async false
set_option linter.all false
set_option maxRecDepth 100000
set_option maxHeartbeats 4000000
namespace VL
open PySem PySem.Spec PyProof.Rows L2

abbrev freeL : List (List Nat) := [[40], [44], [123], [59]]
abbrev endsL : List (List Nat) := [[], [32], [10], [32, 47, 47, 32, 101, 110, 100]]
theorem word_ok : ∀ w ∈ wordsL ++ closeL, (match w with | [] => false | c :: _ => isLet c && w.all isWs) = true := by decide
theorem word_not : ∀ w ∈ wordsL ++ closeL, w ∉ freeL ∧ (60 :: 47 :: w) ∉ freeL := by decide
theorem word_tk {w : List Nat} (h : w ∈ wordsL ++ closeL) : ∃ c r, w = c :: r ∧ isLet c = true ∧ ∀ x ∈ c :: r, isWs x = true := by
  have := word_ok w h
  cases w with
  | nil => cases this
  | cons c r =>
    simp only [Bool.and_eq_true, List.all_eq_true] at this
    exact ⟨c, r, rfl, this.1, this.2⟩
theorem sign_ok : ∀ s ∈ signs1 ++ signs2, s ∈ pairsL ∨ ∃ c ∈ singlesL, s = [c] := by decide
theorem num_free {n : Nat} : TL.numL n ∉ freeL := by
  intro h
  have hd : ∀ c ∈ TL.numL n, isDig c = true := digits_ws
  have : ∀ l ∈ freeL, ∃ c ∈ l, isDig c = false := by decide
  obtain ⟨c, hc, e⟩ := this _ h
  rw [hd c hc] at e
  cases e
theorem tkl_tk {so : Str} {wo wr : List Nat} {d : Nat} (h : TkL so wo wr) (hd : d = 10 ∨ d = 32 ∨ wr ∈ freeL) : Tk so wo wr d := by
  have hws : wr ∉ freeL → isWs d = false := fun n => by
    rcases hd with rfl | rfl | q
    · decide
    · decide
    · exact absurd q n
  cases h with
  | word h =>
    have hf := (word_not _ (List.mem_append_left _ h)).1
    obtain ⟨c, r, rfl, h1, h2⟩ := word_tk (List.mem_append_left closeL h)
    exact .word h1 h2 (hws hf)
  | number h => exact .number h (hws num_free)
  | text h _ => exact .text
  | closing h =>
    have hf := (word_not _ (List.mem_append_right wordsL h)).2
    obtain ⟨c, r, rfl, h1, h2⟩ := word_tk (List.mem_append_right wordsL h)
    exact .closing h1 h2 (hws hf)
  | sign h =>
    rcases sign_ok _ h with hp | ⟨c, hc, rfl⟩
    · obtain ⟨a, b, rfl, _⟩ := pairs_two hp
      refine .sign (.pair hp) fun c e => ?_
      injection e with _ e
      cases e
    · have n1 : [c, d] ∉ pairsL := by
        intro hm
        rcases hd with rfl | rfl | q
        · simp at hm
        · simp at hm
        · simp at q
          rcases q with rfl | rfl | rfl | rfl <;> simp at hm
      refine .sign (.single hc n1) fun c' e => ?_
      injection e with e _
      subst e
      rcases hd with rfl | rfl | q
      · exact ⟨fun _ => by decide, fun _ => by decide⟩
      · exact ⟨fun _ => by decide, fun _ => by decide⟩
      · simp at q
        rcases q with rfl | rfl | rfl | rfl <;> exact ⟨(fun e => by cases e), (fun e => by cases e)⟩
theorem gap_skip {g X Y : List Nat} (hg : g ∈ gapsL) (hX : 1 ≤ X.length) (k : Skips X Y) : Skips (g ++ X) Y := by
  simp only [List.mem_cons, List.not_mem_nil, or_false] at hg
  rcases hg with rfl | rfl | rfl | rfl | rfl | rfl
  · exact .sp hX k
  · exact .nl hX k
  · exact .sp (by simp) (.sp hX k)
  · exact .sp (by simp) (.com (c := [32, 120, 32, 34, 32, 110, 111]) (by decide) (.nl hX k))
  · exact .nl (by simp) (.nl (by simp) (.sp hX k))
  · exact .sp (by simp) (.com (c := []) (by decide) (.nl hX k))
def okNext (wr R : List Nat) : Prop := ∃ d r, R = d :: r ∧ (d = 10 ∨ d = 32 ∨ wr ∈ freeL)
def Inv1 (s : List Nat) (ds : List Tok4) (wr : List Nat) : Prop := ∀ R l, okNext wr R → Lx s R l → Lx [] (s ++ R) (ds ++ l)
theorem inv_nil : Inv1 [] [] [40] := fun _ _ _ h => h
theorem gap_head {g X wr : List Nat} (hg : g ∈ gapsL) : okNext wr (g ++ X) := by
  simp only [List.mem_cons, List.not_mem_nil, or_false] at hg
  rcases hg with rfl | rfl | rfl | rfl | rfl | rfl
  · exact ⟨_, _, rfl, .inr (.inl rfl)⟩
  · exact ⟨_, _, rfl, .inl rfl⟩
  · exact ⟨_, _, rfl, .inr (.inl rfl)⟩
  · exact ⟨_, _, rfl, .inr (.inl rfl)⟩
  · exact ⟨_, _, rfl, .inl rfl⟩
  · exact ⟨_, _, rfl, .inr (.inl rfl)⟩
theorem inv_step {s g wr wo wr2 : List Nat} {ds : List Tok4} {so : Str} (I : Inv1 s ds wr) (hg : g ∈ gapsL ∨ (g = [] ∧ wr ∈ freeL)) (h : TkL so wo wr2) :
    Inv1 (s ++ g ++ wr2) (ds ++ [(so, wo, lnOf (s ++ g), clOf (s ++ g))]) wr2 := by
  rintro R l ⟨d, r, rfl, hd⟩ L
  have tk := tkl_tk h hd
  obtain ⟨c, q, e, ne, c10, c32, t2⟩ := (tk_head tk).2 r
  have hX : Skips (wr2 ++ d :: r) (wr2 ++ d :: r) := by
    rw [e]
    exact .done c10 c32 t2
  have hl : 1 ≤ (wr2 ++ d :: r).length := by simp; omega
  have sk : Skips (g ++ (wr2 ++ d :: r)) (wr2 ++ d :: r) := by
    rcases hg with hg | ⟨rfl, _⟩
    · exact gap_skip hg hl hX
    · exact hX
  have L1 : Lx s (g ++ (wr2 ++ d :: r)) ((so, wo, lnOf (s ++ g), clOf (s ++ g)) :: l) := .tok sk tk (by simp) L
  have ok : okNext wr (g ++ (wr2 ++ d :: r)) := by
    rcases hg with hg | ⟨rfl, hf⟩
    · exact gap_head hg
    · exact ⟨c, q, e, .inr (.inr hf)⟩
  have := I _ _ ok L1
  rw [show s ++ g ++ wr2 ++ d :: r = s ++ (g ++ (wr2 ++ d :: r)) by simp, List.append_assoc]
  exact this
theorem inv_end {s e wr : List Nat} {ds : List Tok4} (I : Inv1 s ds wr) (he : e ∈ endsL) : Lx [] (s ++ e ++ [10]) (ds ++ [(("end" : Str), [], lnOf (s ++ e), clOf (s ++ e))]) := by
  have st : Skips [10] [10] := .stop (by decide)
  have sk : Skips (e ++ [10]) [10] ∧ okNext wr (e ++ [10]) := by
    simp only [List.mem_cons, List.not_mem_nil, or_false] at he
    rcases he with rfl | rfl | rfl | rfl
    · exact ⟨st, _, _, rfl, .inl rfl⟩
    · exact ⟨.sp (by simp) st, _, _, rfl, .inr (.inl rfl)⟩
    · exact ⟨.nl (by simp) st, _, _, rfl, .inl rfl⟩
    · exact ⟨.sp (by simp) (.com (c := [32, 101, 110, 100]) (by decide) st), _, _, rfl, .inr (.inl rfl)⟩
  have := I _ _ sk.2 (.done (cs1 := s ++ e) sk.1 (by simp))
  rw [List.append_assoc]
  exact this
theorem tkl_len {so : Str} {wo wr : List Nat} (h : TkL so wo wr) : wr.length ≤ 40 := by
  cases h with
  | word h => exact (by decide : ∀ w ∈ wordsL, w.length ≤ 40) _ h
  | @number n h =>
    have := TL.numL_len (n := n) (k := 31) (by decide) (Nat.lt_of_le_of_lt h (by decide))
    omega
  | text h _ =>
    have := escL_len2 wo
    simp
    omega
  | closing h =>
    have := (by decide : ∀ w ∈ closeL, w.length ≤ 30) _ h
    simp
    omega
  | sign h => exact (by decide : ∀ w ∈ signs1 ++ signs2, w.length ≤ 40) _ h
theorem tkl_str {so : Str} {wo wr : List Nat} (h : TkL so wo wr) : PyData.strOk so = true ∧ PyData.strOk (TX wo) = true := by
  have hs : ∀ {l : List Nat}, (∀ c ∈ l, c < 128) → PyData.strOk (TX l) = true := by
    intro l hl
    unfold PyData.strOk
    rw [Array.all_eq_true']
    intro x hx
    have := hl x (by simpa using hx)
    exact decide_eq_true (by omega)
  cases h with
  | word h => exact ⟨by decide +kernel, hs ((by decide : ∀ w ∈ wordsL, ∀ c ∈ w, c < 128) _ h)⟩
  | @number n h =>
    refine ⟨by decide +kernel, hs fun c hc => ?_⟩
    have := TL.numL_digits n c hc
    omega
  | text _ h => exact ⟨by decide +kernel, hs h⟩
  | closing h => exact ⟨by decide +kernel, hs ((by decide : ∀ w ∈ closeL, ∀ c ∈ w, c < 128) _ h)⟩
  | sign h => exact ⟨by decide +kernel, hs ((by decide : ∀ w ∈ signs1 ++ signs2, ∀ c ∈ w, c < 128) _ h)⟩
end VL

set_option Elab.async false
set_option linter.all false
set_option maxRecDepth 100000
set_option maxHeartbeats 4000000
namespace VL
open PySem PySem.Spec PyProof.Rows L2

def spLaw (K : PySem.W.Frag) : Sp := fun vs H Q _ => ∃ (a : Addr) (ns : List Int), vs = [.ref a] ∧ SqL K H a (ns.map V.int) ∧ ns.length ≤ 63 ∧ ∀ H', Q (.bl true) H'
def okTok (tk : Tok4) : Prop := PyData.strOk tk.1 = true ∧ PyData.strOk (TX tk.2.1) = true
/-- the rows that are due, at l -/
structure Due (H0 H : Hp) (l : Addr) (ds : List Tok4) : Prop where
  same : Same H0 H
  nl : H0 l = none
  ex : ∃ ts : List Addr, H l = some (.lst (ts.map V.ref)) ∧ Paired (fun t tk => H t = some (.tup (vTok tk))) ts ds
  ok : ∀ tk ∈ ds, okTok tk
theorem paired_mem {α β : Type} {F G : α → β → Prop} : ∀ {l₁ : List α} {l₂ : List β}, (∀ a b, a ∈ l₁ → F a b → G a b) → Paired F l₁ l₂ → Paired G l₁ l₂
  | _, _, _, .nil => .nil
  | _, _, f, .cons r t => .cons (f _ _ List.mem_cons_self r) (paired_mem (fun a b m => f a b (List.mem_cons_of_mem _ m)) t)
theorem Due.sameH {H0 H H' : Hp} {l : Addr} {ds : List Tok4} (D : Due H0 H l ds) (s : Same H H') : Due H0 H' l ds := by
  obtain ⟨ts, h1, h2⟩ := D.ex
  exact ⟨D.same.trans s, D.nl, ⟨ts, s _ _ h1, paired_mono (fun a b e => s _ _ e) h2⟩, D.ok⟩
theorem Due.kp {H0 H H' : Hp} {l q : Addr} {ds : List Tok4} (D : Due H0 H l ds) (nq : H0 q = none) (Sq : StA H q) (k : Kp q H H') : Due H0 H' l ds := by
  obtain ⟨ts, h1, h2⟩ := D.ex
  obtain ⟨z, hz, _⟩ := Sq
  have hlq : l ≠ q := ne_of h1 hz (by
    intro e
    injection e with e
    cases ts with
    | nil => cases e
    | cons a b => injection e with e; cases e)
  exact ⟨fun b o e => k _ _ (D.same b o e) (ne_of_none e nq), D.nl, ⟨ts, k _ _ h1 hlq, paired_mono (fun a b e => k _ _ e (ne_of e hz (by intro e; cases e))) h2⟩, D.ok⟩
theorem refs_inj : ∀ {a b : List Addr}, a.map V.ref = b.map V.ref → a = b
  | [], [], _ => rfl
  | [], _ :: _, h => by cases h
  | _ :: _, [], h => by cases h
  | x :: a, y :: b, h => by
    injection h with h1 h2
    injection h1 with h1
    rw [h1, refs_inj h2]
theorem Due.len {H0 H : Hp} {l : Addr} {ds : List Tok4} (D : Due H0 H l ds) : ∃ ts : List Addr, H l = some (.lst (ts.map V.ref)) ∧ ts.length = ds.length := by
  obtain ⟨ts, h1, h2⟩ := D.ex
  exact ⟨ts, h1, Paired.length h2⟩
/-- one row more -/
theorem Due.add {H0 H : Hp} {l t : Addr} {ds : List Tok4} {ts : List Addr} {tk : Tok4} (D : Due H0 H l ds) (h1 : H l = some (.lst (ts.map V.ref))) (ht : H t = none) (ok : okTok tk) :
    Due H0 (upd (upd H t (.tup (vTok tk))) l (.lst (ts.map V.ref ++ [.ref t]))) l (ds ++ [tk]) := by
  obtain ⟨ts', h1', h2⟩ := D.ex
  have e : ts' = ts := by
    rw [h1] at h1'
    injection h1' with h1'
    injection h1' with h1'
    exact (refs_inj h1').symm
  subst e
  have hlt : l ≠ t := ne_of_none h1 ht
  refine ⟨fun b o e => ?_, D.nl, ⟨ts' ++ [t], ?_, ?_⟩, ?_⟩
  · rw [upd_ne (ne_of_none e D.nl), upd_ne (ne_of_none e (D.same.free ht))]
    exact D.same b o e
  · rw [upd_same, List.map_append]
    rfl
  · refine paired_snoc (by rw [upd_ne hlt.symm, upd_same]) (paired_mono (fun a b e => ?_) h2)
    rw [upd_ne (ne_of e h1 (by intro e; cases e)), upd_ne (ne_of_none e ht)]
    exact e
  · intro tk' m
    rcases List.mem_append.mp m with m | m
    · exact D.ok _ m
    · rw [List.mem_singleton.mp m]
      exact ok
theorem okEnd {x y : Nat} : okTok (("end" : Str), [], x, y) := ⟨show PyData.strOk ("end" : Str) = true from by decide +kernel, show PyData.strOk (TX []) = true from by decide +kernel⟩
theorem paired_get {α β : Type} {G : α → β → Prop} : ∀ {l₁ : List α} {l₂ : List β}, Paired G l₁ l₂ → ∀ (i : Nat) (h1 : i < l₁.length) (h2 : i < l₂.length), G l₁[i] l₂[i]
  | _, _, .cons r t, 0, _, _ => r
  | _, _, .cons r t, i + 1, h1, h2 => paired_get t i (Nat.lt_of_succ_lt_succ h1) (Nat.lt_of_succ_lt_succ h2)
def dTok (tk : Tok4) : PyData := .tuple [.str tk.1, .str (TX tk.2.1), .int (tk.2.2.1 : Int), .int ((tk.2.2.2 : Int) + 1)]
theorem dp_tok {K : PySem.W.Frag} {H : Hp} {t : Addr} {tk : Tok4} (h : H t = some (.tup (vTok tk))) : Dp K H (.ref t) (dTok tk) := .tup (SqT.of h) (.cons (.str _) (.cons (.str _) (.cons (.int _) (.cons (.int _) .nil))))
theorem sh_tok {tk : Tok4} (h : okTok tk) : SeqAt.shaped (dTok tk) = true := by
  unfold SeqAt.shaped dTok
  simp [PyData.canLay0, PyData.canLayAll0, PyData.depth, PyData.depthAll, h.1, h.2]
theorem eq_tok {tk : Tok4} : PyData.eqv (dTok tk) (dTok tk) = true := by
  unfold dTok
  simp [PyData.eqv, PyData.eqvAll]
section
variable {P : Program} {w : World} {K : PySem.W.Frag} {mg : Str → Option Value} {base : Heap} {C : Addr}
theorem sc_law : FnScope ["script", "source", "due", "last", "k", "state", "sort", "word", "written", "row", "told"] ["script"] (defScope s_law) := ⟨rfl, rfl, rfl, by decide +kernel, rfl, by decide +kernel, by decide +kernel⟩
theorem ok_law {f : Addr} {fd : FuncData} (F : Fun K "law" "law" s_law f fd) (T : Txt K w mg C) : FnOk P w K mg base CX0 7 f fd ["script"] (spLaw K) := by
  have G_law_cell : Cal P w K mg base 1 "_law_cell" (spCellA K) := ok_cell T
  have G_law_is_integer : Cal P w K mg base 1 "_law_is_integer" spIsInt := ok_isInt T
  have G_law_start : Cal P w K mg base 1 "_law_start" spStart := ok_start T
  have G_law_digit : Cal P w K mg base 1 "_law_digit" spDigit := ok_digit T
  have G_law_gap : Cal P w K mg base 2 "_law_gap" spGap := ok_gap T
  have G_law_token : Cal P w K mg base 3 "_law_token" spTokenL := ok_tokenL T
  have Gtokens : Cal P w K mg base 6 "tokens" spTokens := ok_tokens T
  refine F.ok sc_law (fun vs H Q E h => ?_) (fun cdv A outer s H vs Q E hr h => ?_)
  · obtain ⟨a, ns, rfl, _⟩ := h
    rfl
  · obtain ⟨a, ns, rfl, hS, hlen, k⟩ := h
    refine ⟨_, (pss_cons (ps_set (i := 1) sc_law.nd rfl (Or.inl rfl) pe_str) (pss_cons (ps_set (i := 2) sc_law.nd rfl (Or.inl rfl) (pe_lst pa_nil)) (pss_cons (ps_set (i := 3) sc_law.nd rfl (Or.inl rfl) pe_str) (C8.pss_cut (ps_for PassesOwn.never rfl (pi_range1 (by rfl) T.z_range (pa_cons (pe_callB (call_min2 rfl) (by rfl) T.z_min (by decide +kernel) (pa_cons pe_int (pa_cons (pe_callB (call_max2 rfl) (by rfl) T.z_max (by decide +kernel) (pa_cons pe_int (pa_cons (pe_callB call_len_seq (by rfl) T.z_len PySem.boot_len (pa_cons (pv 0) pa_nil)) pa_nil))) pa_nil))) pa_nil)) (pg_name (i := 4) sc_law.nd rfl (Or.inl rfl)) (pss_cons (ps_set (i := 5) sc_law.nd rfl (Or.inl rfl) (pe_c G_law_start hr (by decide) (by rfl) (pa_cons (pe_c G_law_cell hr (by decide) (by rfl) (pa_cons (pv 0) (pa_cons (pv 4) pa_nil))) (pa_cons (pv 4) pa_nil)))) (C8.pss_cut (ps_if ((pw_or (pt_cmpR op_notIn_seq (pv 3) (pe_tup (pa_cons pe_str (pa_cons pe_str (pa_cons pe_str (pa_cons pe_str pa_nil))))) rfl) (pw_or1 (pt_cmpR op_eq (pe_c G_law_digit hr (by decide) (by rfl) (pa_cons (pv 5) (pa_cons pe_int pa_nil))) pe_int (nomark _))))).pt (pss_one (ps_set (i := 1) sc_law.nd rfl (Or.inl rfl) (pe_op op_add_str (pv 1) (pe_c G_law_gap hr (by decide) (by rfl) (pa_cons (pv 5) pa_nil))))) pss_nil) (pss_cons (ps_asg (pe_c G_law_token hr (by decide) (by rfl) (pa_cons (pv 5) pa_nil)) (pg_tup rfl (pgs_cons (pg_name (i := 6) sc_law.nd rfl (Or.inl rfl)) (pgs_cons (pg_name (i := 7) sc_law.nd rfl (Or.inl rfl)) (pgs_cons (pg_name (i := 8) sc_law.nd rfl (Or.inl rfl)) pgs_nil))))) (pss_cons (ps_set (i := 9) sc_law.nd rfl (Or.inl rfl) (pe_split (pv 1) pe_str)) (pss_cons (ps_expr (pe_bm PySem.F.plainAttrs_list PySem.F.slot_list_append PySem.F.type_list_append mt_append (pv 2) (pa_cons (pe_tup (pa_cons (pv 6) (pa_cons (pv 7) (pa_cons (pe_callB call_len_seq (by rfl) T.z_len PySem.boot_len (pa_cons (pv 9) pa_nil)) (pa_cons (pe_op op_add (pe_callB call_len_str (by rfl) T.z_len PySem.boot_len (pa_cons (pe_ix ix_list (pv 9) (pe_un un_neg pe_int) (fun _ _ => rfl)) pa_nil)) pe_int) pa_nil))))) pa_nil))) (pss_cons (ps_set (i := 1) sc_law.nd rfl (Or.inl rfl) (pe_op op_add_str (pv 1) (pv 8))) (pss_one (ps_set (i := 3) sc_law.nd rfl (Or.inl rfl) (pv 8)))))))))) (pss_cons (ps_set (i := 1) sc_law.nd rfl (Or.inl rfl) (pe_op op_add_str (pv 1) (pe_ix ix_tup (pe_tup (pa_cons pe_str (pa_cons pe_str (pa_cons pe_str (pa_cons pe_str pa_nil))))) (pe_c G_law_digit hr (by decide) (by rfl) (pa_cons (pe_c G_law_start hr (by decide) (by rfl) (pa_cons (pe_c G_law_cell hr (by decide) (by rfl) (pa_cons (pv 0) (pa_cons pe_int pa_nil))) (pa_cons pe_int pa_nil))) (pa_cons pe_int pa_nil))) (fun _ _ => rfl)))) (pss_cons (ps_set (i := 9) sc_law.nd rfl (Or.inl rfl) (pe_split (pv 1) pe_str)) (pss_cons (ps_expr (pe_bm PySem.F.plainAttrs_list PySem.F.slot_list_append PySem.F.type_list_append mt_append (pv 2) (pa_cons (pe_tup (pa_cons pe_str (pa_cons pe_str (pa_cons (pe_callB call_len_seq (by rfl) T.z_len PySem.boot_len (pa_cons (pv 9) pa_nil)) (pa_cons (pe_op op_add (pe_callB call_len_str (by rfl) T.z_len PySem.boot_len (pa_cons (pe_ix ix_list (pv 9) (pe_un un_neg pe_int) (fun _ _ => rfl)) pa_nil)) pe_int) pa_nil))))) pa_nil))) (pss_cons (ps_set (i := 10) sc_law.nd rfl (Or.inl rfl) (pe_c Gtokens hr (by decide) (by rfl) (pa_cons (pv 1) pa_nil))) (pss_cons (ps_if ((pw_or (pt_not (pt_val (pe_callB call_isi (by rfl) T.z_isinstance (by decide +kernel) (pa_cons (pv 10) (pa_cons (pe_bltn (v := .ty "list") (by rfl) T.z_list (by decide +kernel) rfl) pa_nil))))) (pw_or1 (pt_cmpR op_ne (pe_callB call_len_seq (by rfl) T.z_len PySem.boot_len (pa_cons (pv 10) pa_nil)) (pe_callB call_len_seq (by rfl) T.z_len PySem.boot_len (pa_cons (pv 2) pa_nil)) (nomark _))))).pt (pss_one (ps_ret pe_bl)) pss_nil) (pss_cons (ps_for PassesOwn.never rfl (pi_range1 (by rfl) T.z_range (pa_cons (pe_callB call_len_seq (by rfl) T.z_len PySem.boot_len (pa_cons (pv 2) pa_nil)) pa_nil)) (pg_name (i := 4) sc_law.nd rfl (Or.inl rfl)) (pss_cons (ps_if ((pw_or (pt_not (pt_val (pe_callB call_isi (by rfl) T.z_isinstance (by decide +kernel) (pa_cons (pe_ix ix_list (pv 10) (pv 4) (fun _ _ => rfl)) (pa_cons (pe_bltn (v := .ty "tuple") (by rfl) T.z_tuple (by decide +kernel) rfl) pa_nil))))) (pw_or (pt_cmpR (op_neD hr.units) (pe_ix ix_list (pv 10) (pv 4) (fun _ _ => rfl)) (pe_ix ix_list (pv 2) (pv 4) (fun _ _ => rfl)) (nomark _)) (pw_or1 (pt_not (pt_val (pe_c G_law_is_integer hr (by decide) (by rfl) (pa_cons (pe_ix ix_tup (pe_ix ix_list (pv 10) (pv 4) (fun _ _ => rfl)) pe_int (fun _ _ => rfl)) pa_nil)))))))).pt (pss_one (ps_ret pe_bl)) pss_nil) (pss_one (ps_if ((pw_or (pt_not (pt_val (pe_callB call_isi (by rfl) T.z_isinstance (by decide +kernel) (pa_cons (pe_ix ix_tup (pe_ix ix_list (pv 10) (pv 4) (fun _ _ => rfl)) pe_int (fun _ _ => rfl)) (pa_cons (pe_bltn (v := .ty "str") (by rfl) T.z_str (by decide +kernel) rfl) pa_nil))))) (pw_or1 (pt_not (pt_val (pe_c G_law_is_integer hr (by decide) (by rfl) (pa_cons (pe_ix ix_tup (pe_ix ix_list (pv 10) (pv 4) (fun _ _ => rfl)) pe_int (fun _ _ => rfl)) pa_nil))))))).pt (pss_one (ps_ret pe_bl)) pss_nil)))) (pss_one (ps_ret pe_bl)))))))))))), ?_⟩
    refine ⟨Nat.zero_le _, fun l hl => ?_⟩
    have D0 : Due H (upd H l (.lst [])) l [] := ⟨fun b o e => by rw [upd_ne (ne_of_none e hl)]; exact e, hl, ⟨[], upd_same, .nil⟩, fun _ m => by cases m⟩
    generalize upd H l (.lst []) = H1 at D0 ⊢
    -- the loop
    refine ⟨fun σ H' => ∃ (s : List Nat) (ds : List Tok4) (wr : List Nat) (kk st so wo wi ro : Option V), σ = [some (.ref a), some (.str (TX s)), some (.ref l), some (.str (TX wr)), kk, st, so, wo, wi, ro, none] ∧ Due H H' l ds ∧ Inv1 s ds wr ∧ s.length ≤ 60 * 45 ∧ ds.length ≤ 45, ?_, ?_⟩
    refine ⟨_, rfl, a, _, rfl, .inl (D0.same.seq hS), ?_⟩
    refine ⟨3, _, rfl, 45, _, rfl, ?_⟩
    generalize hT : (if (if ((ns.map V.int).length : Int) > 3 then ((ns.map V.int).length : Int) else 3) < 45 then (if ((ns.map V.int).length : Int) > 3 then ((ns.map V.int).length : Int) else 3) else 45) = tt
    have ht45 : tt ≤ 45 := by
      rw [← hT]
      split <;> omega
    have ht0 : 0 ≤ tt := by
      rw [← hT]
      split
      · split <;> omega
      · omega
    refine ⟨tt, rfl, by omega, by omega, ?_⟩
    refine for_range (lo := 0) (n := tt.toNat) (fun i σ H' => ∃ (s : List Nat) (ds : List Tok4) (wr : List Nat) (kk st so wo wi ro : Option V), σ = [some (.ref a), some (.str (TX s)), some (.ref l), some (.str (TX wr)), kk, st, so, wo, wi, ro, none] ∧ Due H H' l ds ∧ Inv1 s ds wr ∧ s.length ≤ 60 * i ∧ ds.length = i)
      ⟨[], [], [40], none, none, none, none, none, none, rfl, D0, inv_nil, Nat.le_refl _, rfl⟩ ?_ ?_
    · rintro i σ H2 hi ⟨s, ds, wr, kk, st, so, wo, wi, ro, rfl, D2, I2, hs, hds⟩
      have hi45 : i < 45 := by omega
      have big : ∀ {n : Nat}, n ≤ 5000 → n ≤ sizeLine := fun h => Nat.le_trans h (by decide)
      refine ⟨_, rfl, _, rfl, a, ns, _, rfl, D2.same.seq hS, by omega, fun zc => ?_⟩
      refine ⟨_, rfl, zc, _, rfl, fun q H3 nq sm Sq => ?_⟩
      have nq0 : H q = none := D2.same.free nq
      have D3 := D2.sameH sm
      -- the gap
      refine ⟨fun σ H' => ∃ g, (g ∈ gapsL ∨ (g = [] ∧ wr ∈ freeL)) ∧ σ = [some (.ref a), some (.str (TX (s ++ g))), some (.ref l), some (.str (TX wr)), some (.int (0 + (i : Int))), some (.ref q), so, wo, wi, ro, none] ∧ Due H H' l ds ∧ StA H' q, ?_, ?_⟩
      · have gsz : ∀ g ∈ gapsL, (TX s).length + (TX g).length ≤ sizeLine := fun g hg => by
          have := (by decide : ∀ g ∈ gapsL, g.length ≤ 20) g hg
          rw [TX_len, TX_len]
          exact big (by omega)
        refine ⟨_, rfl, (by show 4 ≤ sizeLine; decide), fun t ht => ?_⟩
        have D4 := D3.sameH (H' := upd H3 t (.tup (freeL.map fun l => V.str (TX l)))) fun b o e => by rw [upd_ne (ne_of_none e ht)]; exact e
        have S4 := Sq.new (o := .tup (freeL.map fun l => V.str (TX l))) ht
        refine ⟨t, _, rfl, .inr (SqT.of upd_same), rfl, flat_TX freeL, _, rfl, ?_⟩
        refine ite_b (fun e => ?_) (fun e => ?_)
        · refine iteT ?_
          refine ⟨_, rfl, _, rfl, q, rfl, S4, fun g H'' hg S kp => ⟨_, _, rfl, rfl, gsz g hg, g, .inl hg, ?_, D4.kp nq0 S4 kp, S⟩⟩
          rw [← TX_cat]
          rfl
        · have hf : wr ∈ freeL := by
            have e2 : (!inV (.str (TX wr)) (freeL.map fun l => V.str (TX l))) = false := e
            rw [inV_TX] at e2
            cases h : decide (wr ∈ freeL) with
            | true => exact of_decide_eq_true h
            | false =>
              rw [h] at e2
              cases e2
          refine ⟨_, rfl, q, 2, rfl, S4, by decide, fun r H5 S5 k5 _ _ => ?_⟩
          have D5 := D4.kp nq0 S4 k5
          refine ⟨rfl, _, rfl, ?_⟩
          refine ite2 (fun _ => ?_) (fun _ => ?_)
          · refine ⟨_, rfl, _, rfl, q, rfl, S5, fun g H'' hg S kp => ⟨_, _, rfl, rfl, gsz g hg, g, .inl hg, ?_, D5.kp nq0 S5 kp, S⟩⟩
            rw [← TX_cat]
            rfl
          · refine ⟨[], .inr ⟨rfl, hf⟩, ?_, D5, S5⟩
            rw [List.append_nil]
            rfl
      · rintro σ H4 ⟨g, hg, rfl, D4, S4⟩
        have hgl : g.length ≤ 20 := by
          rcases hg with hg | ⟨rfl, _⟩
          · exact (by decide : ∀ g ∈ gapsL, g.length ≤ 20) g hg
          · exact Nat.zero_le _
        have hz : (TX (s ++ g)).length ≤ 4000 := by
          rw [TX_len, List.length_append]
          omega
        -- the token
        refine ⟨_, rfl, q, rfl, S4, fun T' so2 wo2 wr2 H5 tk S5 k5 hT' => ?_⟩
        have D5 := D4.kp nq0 S4 k5
        refine ⟨T', _, rfl, SqT.of hT', rfl, ?_⟩
        refine ⟨_, _, rfl, _, _, rfl, _, _, rfl, rfl, ?_⟩
        -- row
        refine ⟨_, rfl, ⟨_, rfl⟩, _, _, rfl, rfl, rfl, (by exact big (by omega)), fun rp hrp => ?_⟩
        have D6 := D5.sameH (H' := upd H5 rp (.lst ((Txt.split (TX (s ++ g)) (TX [10])).map V.str))) fun b o e => by rw [upd_ne (ne_of_none e hrp)]; exact e
        have h6 : upd H5 rp (.lst ((Txt.split (TX (s ++ g)) (TX [10])).map V.str)) rp = some (.lst ((rws [] (s ++ g)).map fun r => V.str (TX r))) := by
          rw [upd_same, split_rows, List.map_map]
          rfl
        have e6 : (Str.ofString "\n") = TX [10] := rfl
        rw [e6]
        generalize upd H5 rp (.lst ((Txt.split (TX (s ++ g)) (TX [10])).map V.str)) = H6 at D6 h6 ⊢
        obtain ⟨ts, hl6, hlen6⟩ := D6.len
        obtain ⟨la, hla, hcl⟩ := rows_last (s ++ g)
        refine ⟨_, rfl, .inl ⟨rfl, _, SqL.of hl6⟩, ?_⟩
        refine ⟨_, rfl, _, rfl, _, rfl, rp, _, rfl, .inl (SqL.of h6), ?_⟩
        refine ⟨_, rfl, _, rfl, rp, _, -1, _, rfl, rfl, SqL.of h6, hla, _, rfl, (by rw [TX_len, hcl]; exact big (by have := cl_le (s ++ g); rw [TX_len] at hz; omega)), _, _, rfl, rfl, (by show 4 ≤ sizeLine; decide), fun t ht => ?_⟩
        have lt : l ≠ t := ne_of_none hl6 ht
        refine ⟨l, _, _, rfl, rfl, (by rw [upd_ne lt]; exact hl6), (by rw [List.length_map, hlen6, hds]; exact Nat.lt_of_lt_of_le hi45 (by decide)), ?_⟩
        have hsz2 : (TX (s ++ g)).length + (TX wr2).length ≤ sizeLine := by
          have := tkl_len tk
          rw [TX_len wr2]
          exact big (by omega)
        refine ⟨_, rfl, _, rfl, _, _, rfl, rfl, hsz2, _, rfl, ?_⟩
        have D7 := D6.add (tk := (so2, wo2, lnOf (s ++ g), clOf (s ++ g))) hl6 ht (tkl_str tk)
        have ev : vTok (so2, wo2, lnOf (s ++ g), clOf (s ++ g)) = [.str so2, .str (TX wo2), .int ((((rws [] (s ++ g)).map fun r => V.str (TX r)).length : Nat) : Int), .int (((TX la).length : Int) + 1)] := by
          rw [List.length_map, TX_len, hcl]
          rfl
        rw [ev] at D7
        have l2 := tkl_len tk
        refine ⟨s ++ g ++ wr2, _, wr2, some (.int (0 + (i : Int))), some (.ref q), some (.str so2), some (.str (TX wo2)), some (.str (TX wr2)), some (.ref rp), ?_, D7, inv_step I2 hg tk, ?_, ?_⟩
        · rw [← TX_cat (s ++ g) wr2]
          rfl
        · rw [List.length_append, List.length_append]
          omega
        · rw [List.length_append, hds]
          rfl
    · rintro σ H2 ⟨s, ds, wr, kk, st, so, wo, wi, ro, rfl, D2, I2, hs, hds⟩
      exact ⟨s, ds, wr, kk, st, so, wo, wi, ro, rfl, D2, I2, by omega, by omega⟩
    rintro σ H2 ⟨s, ds, wr, kk, st, so, wo, wi, ro, rfl, D2, I2, hs, hds⟩
    have big : ∀ {n : Nat}, n ≤ 5000 → n ≤ sizeLine := fun h => Nat.le_trans h (by decide)
    -- the end of the source
    refine ⟨_, rfl, (by show 4 ≤ sizeLine; decide), fun t ht => ?_⟩
    have D3 := D2.sameH (H' := upd H2 t (.tup (endsL.map fun l => V.str (TX l)))) fun b o e => by rw [upd_ne (ne_of_none e ht)]; exact e
    have h3 : upd H2 t (.tup (endsL.map fun l => V.str (TX l))) t = some (.tup (endsL.map fun l => V.str (TX l))) := upd_same
    refine ⟨_, rfl, a, ns, 0, rfl, D3.same.seq hS, Int.le_refl _, fun zc => ?_⟩
    refine ⟨zc, 99, rfl, fun q H4 nq sm Sq => ?_⟩
    have nq0 : H q = none := D3.same.free nq
    have D4 := D3.sameH sm
    have h4 := sm _ _ h3
    have tq : t ≠ q := by
      obtain ⟨z, e, _⟩ := Sq
      exact ne_of h4 e (by intro e; cases e)
    refine ⟨q, 4, rfl, Sq, by decide, fun r H5 S5 k5 h0 h1 => ?_⟩
    have D5 := D4.kp nq0 Sq k5
    have h5 := k5 _ _ h4 tq
    have hr4 : r.toNat < endsL.length := by show r.toNat < 4; omega
    have hm := List.getElem_mem hr4
    refine ⟨t, _, r, _, rfl, rfl, SqT.of h5, atI_map h0 hr4, ?_⟩
    generalize endsL[r.toNat] = e at hm
    have he : e.length ≤ 10 := (by decide : ∀ x ∈ endsL, x.length ≤ 10) _ hm
    refine ⟨_, _, rfl, rfl, (by rw [TX_len, TX_len]; exact big (by omega)), ?_⟩
    rw [TX_cat]
    have hz : (TX (s ++ e)).length ≤ 4000 := by
      rw [TX_len, List.length_append]
      omega
    have LX := inv_end I2 hm
    generalize hse : s ++ e = full at LX hz ⊢
    -- row
    refine ⟨_, rfl, ⟨_, rfl⟩, _, _, rfl, rfl, rfl, (by exact big (by omega)), fun rp hrp => ?_⟩
    have D6 := D5.sameH (H' := upd H5 rp (.lst ((Txt.split (TX full) (TX [10])).map V.str))) fun b o e => by rw [upd_ne (ne_of_none e hrp)]; exact e
    have h6 : upd H5 rp (.lst ((Txt.split (TX full) (TX [10])).map V.str)) rp = some (.lst ((rws [] full).map fun r => V.str (TX r))) := by
      rw [upd_same, split_rows, List.map_map]
      rfl
    have e6 : (Str.ofString "\n") = TX [10] := rfl
    rw [e6]
    generalize upd H5 rp (.lst ((Txt.split (TX full) (TX [10])).map V.str)) = H6 at D6 h6 ⊢
    obtain ⟨ts, hl6, hlen6⟩ := D6.len
    obtain ⟨la, hla, hcl⟩ := rows_last full
    refine ⟨_, rfl, .inl ⟨rfl, _, SqL.of hl6⟩, ?_⟩
    refine ⟨_, rfl, rp, _, rfl, .inl (SqL.of h6), ?_⟩
    refine ⟨_, rfl, _, rfl, rp, _, -1, _, rfl, rfl, SqL.of h6, hla, _, rfl, (by rw [TX_len, hcl]; exact big (by have := cl_le full; rw [TX_len] at hz; omega)), _, _, rfl, rfl, (by show 4 ≤ sizeLine; decide), fun t2 ht2 => ?_⟩
    have lt : l ≠ t2 := ne_of_none hl6 ht2
    refine ⟨l, _, _, rfl, rfl, (by rw [upd_ne lt]; exact hl6), (by rw [List.length_map, hlen6]; exact Nat.lt_of_le_of_lt hds (by decide)), ?_⟩
    have D7 := D6.add (tk := (("end" : Str), [], lnOf full, clOf full)) hl6 ht2 okEnd
    have ev : vTok (("end" : Str), [], lnOf full, clOf full) = [.str (Str.ofString "end"), .str (Str.ofString ""), .int ((((rws [] full).map fun r => V.str (TX r)).length : Nat) : Int), .int (((TX la).length : Int) + 1)] := by
      rw [List.length_map, TX_len, hcl]
      rfl
    rw [ev] at D7
    refine ⟨_, rfl, full, ds ++ [(("end" : Str), [], lnOf full, clOf full)], rfl, (by rw [TX_len] at hz; omega), (by rw [List.length_append]; show ds.length + 1 ≤ 100; omega), LX, fun H8 l2 ts2 sm8 h8 pr8 => ?_⟩
    have D8 := D7.sameH sm8
    have hda : (ds ++ [(("end" : Str), [], lnOf full, clOf full)]).length ≤ 100 := by
      rw [List.length_append]
      show ds.length + 1 ≤ 100
      omega
    generalize ds ++ [(("end" : Str), [], lnOf full, clOf full)] = dall at D8 pr8 hda
    obtain ⟨ts3, hl8, pr3⟩ := D8.ex
    have n2 : ts2.length = dall.length := Paired.length pr8
    have n3 : ts3.length = dall.length := Paired.length pr3
    refine ⟨_, rfl, V.ref l2, .ty "list", _, _, true, rfl, .ty _, .base (.lst h8), kit_ty (by decide +kernel), true, rfl, ?_⟩
    dsimp only
    rw [if_neg (by decide)]
    refine ⟨_, rfl, l2, _, rfl, .inl (SqL.of h8), _, rfl, l, _, rfl, .inl (SqL.of hl8), rfl, _, rfl, ?_⟩
    refine ite_b (fun q => ?_) (fun _ => ?_)
    · rw [List.length_map, List.length_map, n2, n3] at q
      simp at q
    refine ⟨_, rfl, l, _, rfl, .inl (SqL.of hl8), _, rfl, by omega, (by rw [List.length_map]; omega), ?_⟩
    refine for_range (lo := 0) (fun i σ H' => H' = H8 ∧ ∃ (kk st so wo wi ro : Option V), σ = [some (.ref a), some (.str (TX full)), some (.ref l), some (.str (TX wr)), kk, st, so, wo, wi, ro, some (.ref l2)]) ⟨rfl, _, _, _, _, _, _, rfl⟩ ?_ ?_
    · rintro i σ H' hi ⟨rfl, kk, st, so, wo, wi, ro, rfl⟩
      rw [List.length_map] at hi
      have hi2 : (0 + (i : Int)).toNat < ts2.length := by omega
      have hi3 : (0 + (i : Int)).toNat < ts3.length := by omega
      have hid : (0 + (i : Int)).toNat < dall.length := by omega
      have t2 := paired_get pr8 _ hi2 hid
      have t3 := paired_get pr3 _ hi3 hid
      have ok := D8.ok _ (List.getElem_mem hid)
      have a2 := atI_map (rs := ts2) (f := V.ref) (r := 0 + (i : Int)) (by omega) hi2
      have a3 := atI_map (rs := ts3) (f := V.ref) (r := 0 + (i : Int)) (by omega) hi3
      generalize ts2[(0 + (i : Int)).toNat] = u2 at t2 a2
      generalize ts3[(0 + (i : Int)).toNat] = u3 at t3 a3
      generalize dall[(0 + (i : Int)).toNat] = tk at t2 t3 ok
      refine ⟨_, rfl, _, rfl, l2, _, _, _, rfl, rfl, SqL.of h8, a2, V.ref u2, .ty "tuple", _, _, true, rfl, .ty _, .base (.tup t2), kit_ty (by decide +kernel), true, rfl, ?_⟩
      dsimp only
      rw [if_neg (by decide)]
      refine ⟨_, rfl, _, rfl, l2, _, _, _, rfl, rfl, SqL.of h8, a2, _, rfl, _, rfl, l, _, _, _, rfl, rfl, SqL.of hl8, a3, dTok tk, dTok tk, dp_tok t2, dp_tok t3, sh_tok ok, sh_tok ok, _, rfl, ?_⟩
      rw [eq_tok]
      dsimp only
      rw [if_neg (by decide)]
      refine ⟨_, rfl, _, rfl, l2, _, _, _, rfl, rfl, SqL.of h8, a2, u2, _, 2, _, rfl, rfl, SqT.of t2, rfl, _, rfl, _, rfl, ?_⟩
      dsimp only
      rw [if_neg (by decide)]
      refine ⟨_, rfl, _, rfl, l2, _, _, _, rfl, rfl, SqL.of h8, a2, u2, _, 1, _, rfl, rfl, SqT.of t2, rfl, V.str (TX tk.2.1), .ty "str", _, _, true, rfl, .ty _, .base (.str _), kit_ty (by decide +kernel), true, rfl, ?_⟩
      dsimp only
      rw [if_neg (by decide)]
      refine ⟨_, rfl, _, rfl, l2, _, _, _, rfl, rfl, SqL.of h8, a2, u2, _, 3, _, rfl, rfl, SqT.of t2, rfl, _, rfl, _, rfl, ?_⟩
      dsimp only
      rw [if_neg (by decide)]
      exact ⟨rfl, _, _, _, _, _, _, rfl⟩
    · rintro σ H' ⟨rfl, kk, st, so, wo, wi, ro, rfl⟩
      exact k H'
end
end VL

set_option Elab.async false
set_option linter.all false
set_option maxRecDepth 100000
set_option maxHeartbeats 4000000
namespace VL
open PySem PySem.Spec PyProof.Rows L2
theorem all_mk {l : PySem.W.OpenLaw} {w : World} {K : PySem.W.Frag} {h : Heap} {mg : Str → Option Value} {fa C aP aE f1 f2 f3 f4 f5 f6 f7 f8 f9 f10 f11 f12 f13 f14 f15 f16 f17 f18 f19 f20 f21 f22 f23 f24 f25 : Addr} (X : K.In h) (G : h.Ns mainGlobals mg) (hfa : mg "law" = some (.ref fa))
    {odP od1 an1 od2 an2 od3 an3 od4 an4 od5 an5 od6 an6 od7 an7 od8 an8 od9 an9 od10 an10 od11 an11 od12 an12 od13 an13 od14 an14 od15 an15 od16 an16 od17 an17 od18 an18 od19 an19 od20 an20 od21 an21 od22 an22 od23 an23 od24 an24 od25 an25 : Option Addr} {slP sl1 sl2 sl3 sl4 sl5 sl6 sl7 sl8 sl9 sl10 sl11 sl12 sl13 sl14 sl15 sl16 sl17 sl18 sl19 sl20 sl21 sl22 sl23 sl24 sl25 : Array (Option Value)} {oc1 kV1 dc1 pm1 cd1 ct1 oc2 kV2 dc2 pm2 cd2 ct2 oc3 kV3 dc3 pm3 cd3 ct3 oc4 kV4 dc4 pm4 cd4 ct4 oc5 kV5 dc5 pm5 cd5 ct5 oc6 kV6 dc6 pm6 cd6 ct6 oc7 kV7 dc7 pm7 cd7 ct7 oc8 kV8 dc8 pm8 cd8 ct8 oc9 kV9 dc9 pm9 cd9 ct9 oc10 kV10 dc10 pm10 cd10 ct10 oc11 kV11 dc11 pm11 cd11 ct11 oc12 kV12 dc12 pm12 cd12 ct12 oc13 kV13 dc13 pm13 cd13 ct13 oc14 kV14 dc14 pm14 cd14 ct14 oc15 kV15 dc15 pm15 cd15 ct15 oc16 kV16 dc16 pm16 cd16 ct16 oc17 kV17 dc17 pm17 cd17 ct17 oc18 kV18 dc18 pm18 cd18 ct18 oc19 kV19 dc19 pm19 cd19 ct19 oc20 kV20 dc20 pm20 cd20 ct20 oc21 kV21 dc21 pm21 cd21 ct21 oc22 kV22 dc22 pm22 cd22 ct22 oc23 kV23 dc23 pm23 cd23 ct23 oc24 kV24 dc24 pm24 cd24 ct24 oc25 kV25 dc25 pm25 cd25 ct25 u34 u92 u110 vLONGEST_SOURCE vLARGEST_NUMBER vMOST_DIGITS vSINGLES : Value} {itP : Array Value} {nP nE : Nat} {esE : Array DictEntry}
    (aC : PySem.W.nsIn K mainGlobals "Scanner" = some (some (.ref C)))
    (a1 : PySem.W.findIn K (.ref C) "__init__" = some (some (.ref f1)))
    (i1 : PySem.W.isFn K (.ref f1) = true)
    (l1 : K.lookup f1 = some ⟨oc1, od1, .func (PySem.W.fnOf "__init__" "Scanner.__init__" (defArgs s_Scanner___init__) (defBody s_Scanner___init__) (defScope s_Scanner___init__) .none kV1 dc1 pm1 an1 cd1 ct1), sl1⟩)
    (c1 : PySem.W.codeIn K cd1 "Scanner.__init__" = true)
    (k1 : PySem.W.keepIn K (.ref f1) = true)
    (a2 : PySem.W.findIn K (.ref C) "column_of" = some (some (.ref f2)))
    (i2 : PySem.W.isFn K (.ref f2) = true)
    (l2 : K.lookup f2 = some ⟨oc2, od2, .func (PySem.W.fnOf "column_of" "Scanner.column_of" (defArgs s_Scanner_column_of) (defBody s_Scanner_column_of) (defScope s_Scanner_column_of) .none kV2 dc2 pm2 an2 cd2 ct2), sl2⟩)
    (c2 : PySem.W.codeIn K cd2 "Scanner.column_of" = true)
    (k2 : PySem.W.keepIn K (.ref f2) = true)
    (a3 : PySem.W.findIn K (.ref C) "skip" = some (some (.ref f3)))
    (i3 : PySem.W.isFn K (.ref f3) = true)
    (l3 : K.lookup f3 = some ⟨oc3, od3, .func (PySem.W.fnOf "skip" "Scanner.skip" (defArgs s_Scanner_skip) (defBody s_Scanner_skip) (defScope s_Scanner_skip) .none kV3 dc3 pm3 an3 cd3 ct3), sl3⟩)
    (c3 : PySem.W.codeIn K cd3 "Scanner.skip" = true)
    (k3 : PySem.W.keepIn K (.ref f3) = true)
    (a4 : PySem.W.findIn K (.ref C) "token" = some (some (.ref f4)))
    (i4 : PySem.W.isFn K (.ref f4) = true)
    (l4 : K.lookup f4 = some ⟨oc4, od4, .func (PySem.W.fnOf "token" "Scanner.token" (defArgs s_Scanner_token) (defBody s_Scanner_token) (defScope s_Scanner_token) .none kV4 dc4 pm4 an4 cd4 ct4), sl4⟩)
    (c4 : PySem.W.codeIn K cd4 "Scanner.token" = true)
    (k4 : PySem.W.keepIn K (.ref f4) = true)
    (a5 : PySem.W.findIn K (.ref C) "next_sort" = some (some (.ref f5)))
    (i5 : PySem.W.isFn K (.ref f5) = true)
    (l5 : K.lookup f5 = some ⟨oc5, od5, .func (PySem.W.fnOf "next_sort" "Scanner.next_sort" (defArgs s_Scanner_next_sort) (defBody s_Scanner_next_sort) (defScope s_Scanner_next_sort) .none kV5 dc5 pm5 an5 cd5 ct5), sl5⟩)
    (c5 : PySem.W.codeIn K cd5 "Scanner.next_sort" = true)
    (k5 : PySem.W.keepIn K (.ref f5) = true)
    (a6 : PySem.W.findIn K (.ref C) "take_word" = some (some (.ref f6)))
    (i6 : PySem.W.isFn K (.ref f6) = true)
    (l6 : K.lookup f6 = some ⟨oc6, od6, .func (PySem.W.fnOf "take_word" "Scanner.take_word" (defArgs s_Scanner_take_word) (defBody s_Scanner_take_word) (defScope s_Scanner_take_word) .none kV6 dc6 pm6 an6 cd6 ct6), sl6⟩)
    (c6 : PySem.W.codeIn K cd6 "Scanner.take_word" = true)
    (k6 : PySem.W.keepIn K (.ref f6) = true)
    (a7 : PySem.W.findIn K (.ref C) "take_until" = some (some (.ref f7)))
    (i7 : PySem.W.isFn K (.ref f7) = true)
    (l7 : K.lookup f7 = some ⟨oc7, od7, .func (PySem.W.fnOf "take_until" "Scanner.take_until" (defArgs s_Scanner_take_until) (defBody s_Scanner_take_until) (defScope s_Scanner_take_until) .none kV7 dc7 pm7 an7 cd7 ct7), sl7⟩)
    (c7 : PySem.W.codeIn K cd7 "Scanner.take_until" = true)
    (k7 : PySem.W.keepIn K (.ref f7) = true)
    (a8 : PySem.W.findIn K (.ref C) "take_name" = some (some (.ref f8)))
    (i8 : PySem.W.isFn K (.ref f8) = true)
    (l8 : K.lookup f8 = some ⟨oc8, od8, .func (PySem.W.fnOf "take_name" "Scanner.take_name" (defArgs s_Scanner_take_name) (defBody s_Scanner_take_name) (defScope s_Scanner_take_name) .none kV8 dc8 pm8 an8 cd8 ct8), sl8⟩)
    (c8 : PySem.W.codeIn K cd8 "Scanner.take_name" = true)
    (k8 : PySem.W.keepIn K (.ref f8) = true)
    (a9 : PySem.W.findIn K (.ref C) "take_number" = some (some (.ref f9)))
    (i9 : PySem.W.isFn K (.ref f9) = true)
    (l9 : K.lookup f9 = some ⟨oc9, od9, .func (PySem.W.fnOf "take_number" "Scanner.take_number" (defArgs s_Scanner_take_number) (defBody s_Scanner_take_number) (defScope s_Scanner_take_number) .none kV9 dc9 pm9 an9 cd9 ct9), sl9⟩)
    (c9 : PySem.W.codeIn K cd9 "Scanner.take_number" = true)
    (k9 : PySem.W.keepIn K (.ref f9) = true)
    (a10 : PySem.W.findIn K (.ref C) "take_sign" = some (some (.ref f10)))
    (i10 : PySem.W.isFn K (.ref f10) = true)
    (l10 : K.lookup f10 = some ⟨oc10, od10, .func (PySem.W.fnOf "take_sign" "Scanner.take_sign" (defArgs s_Scanner_take_sign) (defBody s_Scanner_take_sign) (defScope s_Scanner_take_sign) .none kV10 dc10 pm10 an10 cd10 ct10), sl10⟩)
    (c10 : PySem.W.codeIn K cd10 "Scanner.take_sign" = true)
    (k10 : PySem.W.keepIn K (.ref f10) = true)
    (a11 : PySem.W.findIn K (.ref C) "take_text" = some (some (.ref f11)))
    (i11 : PySem.W.isFn K (.ref f11) = true)
    (l11 : K.lookup f11 = some ⟨oc11, od11, .func (PySem.W.fnOf "take_text" "Scanner.take_text" (defArgs s_Scanner_take_text) (defBody s_Scanner_take_text) (defScope s_Scanner_take_text) .none kV11 dc11 pm11 an11 cd11 ct11), sl11⟩)
    (c11 : PySem.W.codeIn K cd11 "Scanner.take_text" = true)
    (k11 : PySem.W.keepIn K (.ref f11) = true)
    (a12 : PySem.W.findIn K (.ref C) "text_end" = some (some (.ref f12)))
    (i12 : PySem.W.isFn K (.ref f12) = true)
    (l12 : K.lookup f12 = some ⟨oc12, od12, .func (PySem.W.fnOf "text_end" "Scanner.text_end" (defArgs s_Scanner_text_end) (defBody s_Scanner_text_end) (defScope s_Scanner_text_end) .none kV12 dc12 pm12 an12 cd12 ct12), sl12⟩)
    (c12 : PySem.W.codeIn K cd12 "Scanner.text_end" = true)
    (k12 : PySem.W.keepIn K (.ref f12) = true)
    (a13 : PySem.W.nsIn K mainGlobals "is_letter" = some (some (.ref f13)))
    (l13 : K.lookup f13 = some ⟨oc13, od13, .func (PySem.W.fnOf "is_letter" "is_letter" (defArgs s_is_letter) (defBody s_is_letter) (defScope s_is_letter) .none kV13 dc13 pm13 an13 cd13 ct13), sl13⟩)
    (c13 : PySem.W.codeIn K cd13 "is_letter" = true)
    (k13 : PySem.W.keepIn K (.ref f13) = true)
    (a14 : PySem.W.nsIn K mainGlobals "is_digit" = some (some (.ref f14)))
    (l14 : K.lookup f14 = some ⟨oc14, od14, .func (PySem.W.fnOf "is_digit" "is_digit" (defArgs s_is_digit) (defBody s_is_digit) (defScope s_is_digit) .none kV14 dc14 pm14 an14 cd14 ct14), sl14⟩)
    (c14 : PySem.W.codeIn K cd14 "is_digit" = true)
    (k14 : PySem.W.keepIn K (.ref f14) = true)
    (a15 : PySem.W.nsIn K mainGlobals "tokens" = some (some (.ref f15)))
    (l15 : K.lookup f15 = some ⟨oc15, od15, .func (PySem.W.fnOf "tokens" "tokens" (defArgs s_tokens) (defBody s_tokens) (defScope s_tokens) .none kV15 dc15 pm15 an15 cd15 ct15), sl15⟩)
    (c15 : PySem.W.codeIn K cd15 "tokens" = true)
    (k15 : PySem.W.keepIn K (.ref f15) = true)
    (a16 : PySem.W.nsIn K mainGlobals "is_word_sign" = some (some (.ref f16)))
    (l16 : K.lookup f16 = some ⟨oc16, od16, .func (PySem.W.fnOf "is_word_sign" "is_word_sign" (defArgs s_is_word_sign) (defBody s_is_word_sign) (defScope s_is_word_sign) .none kV16 dc16 pm16 an16 cd16 ct16), sl16⟩)
    (c16 : PySem.W.codeIn K cd16 "is_word_sign" = true)
    (k16 : PySem.W.keepIn K (.ref f16) = true)
    (a17 : PySem.W.nsIn K mainGlobals "_law_cell" = some (some (.ref f17)))
    (l17 : K.lookup f17 = some ⟨oc17, od17, .func (PySem.W.fnOf "_law_cell" "_law_cell" (defArgs s__law_cell) (defBody s__law_cell) (defScope s__law_cell) .none kV17 dc17 pm17 an17 cd17 ct17), sl17⟩)
    (c17 : PySem.W.codeIn K cd17 "_law_cell" = true)
    (k17 : PySem.W.keepIn K (.ref f17) = true)
    (a18 : PySem.W.nsIn K mainGlobals "_law_is_integer" = some (some (.ref f18)))
    (l18 : K.lookup f18 = some ⟨oc18, od18, .func (PySem.W.fnOf "_law_is_integer" "_law_is_integer" (defArgs s__law_is_integer) (defBody s__law_is_integer) (defScope s__law_is_integer) .none kV18 dc18 pm18 an18 cd18 ct18), sl18⟩)
    (c18 : PySem.W.codeIn K cd18 "_law_is_integer" = true)
    (k18 : PySem.W.keepIn K (.ref f18) = true)
    (a19 : PySem.W.nsIn K mainGlobals "_law_start" = some (some (.ref f19)))
    (l19 : K.lookup f19 = some ⟨oc19, od19, .func (PySem.W.fnOf "_law_start" "_law_start" (defArgs s__law_start) (defBody s__law_start) (defScope s__law_start) .none kV19 dc19 pm19 an19 cd19 ct19), sl19⟩)
    (c19 : PySem.W.codeIn K cd19 "_law_start" = true)
    (k19 : PySem.W.keepIn K (.ref f19) = true)
    (a20 : PySem.W.nsIn K mainGlobals "_law_digit" = some (some (.ref f20)))
    (l20 : K.lookup f20 = some ⟨oc20, od20, .func (PySem.W.fnOf "_law_digit" "_law_digit" (defArgs s__law_digit) (defBody s__law_digit) (defScope s__law_digit) .none kV20 dc20 pm20 an20 cd20 ct20), sl20⟩)
    (c20 : PySem.W.codeIn K cd20 "_law_digit" = true)
    (k20 : PySem.W.keepIn K (.ref f20) = true)
    (a21 : PySem.W.nsIn K mainGlobals "_law_quoted" = some (some (.ref f21)))
    (l21 : K.lookup f21 = some ⟨oc21, od21, .func (PySem.W.fnOf "_law_quoted" "_law_quoted" (defArgs s__law_quoted) (defBody s__law_quoted) (defScope s__law_quoted) .none kV21 dc21 pm21 an21 cd21 ct21), sl21⟩)
    (c21 : PySem.W.codeIn K cd21 "_law_quoted" = true)
    (k21 : PySem.W.keepIn K (.ref f21) = true)
    (a22 : PySem.W.nsIn K mainGlobals "_law_text" = some (some (.ref f22)))
    (l22 : K.lookup f22 = some ⟨oc22, od22, .func (PySem.W.fnOf "_law_text" "_law_text" (defArgs s__law_text) (defBody s__law_text) (defScope s__law_text) .none kV22 dc22 pm22 an22 cd22 ct22), sl22⟩)
    (c22 : PySem.W.codeIn K cd22 "_law_text" = true)
    (k22 : PySem.W.keepIn K (.ref f22) = true)
    (a23 : PySem.W.nsIn K mainGlobals "_law_token" = some (some (.ref f23)))
    (l23 : K.lookup f23 = some ⟨oc23, od23, .func (PySem.W.fnOf "_law_token" "_law_token" (defArgs s__law_token) (defBody s__law_token) (defScope s__law_token) .none kV23 dc23 pm23 an23 cd23 ct23), sl23⟩)
    (c23 : PySem.W.codeIn K cd23 "_law_token" = true)
    (k23 : PySem.W.keepIn K (.ref f23) = true)
    (a24 : PySem.W.nsIn K mainGlobals "_law_gap" = some (some (.ref f24)))
    (l24 : K.lookup f24 = some ⟨oc24, od24, .func (PySem.W.fnOf "_law_gap" "_law_gap" (defArgs s__law_gap) (defBody s__law_gap) (defScope s__law_gap) .none kV24 dc24 pm24 an24 cd24 ct24), sl24⟩)
    (c24 : PySem.W.codeIn K cd24 "_law_gap" = true)
    (k24 : PySem.W.keepIn K (.ref f24) = true)
    (a25 : PySem.W.nsIn K mainGlobals "law" = some (some (.ref f25)))
    (l25 : K.lookup f25 = some ⟨oc25, od25, .func (PySem.W.fnOf "law" "law" (defArgs s_law) (defBody s_law) (defScope s_law) .none kV25 dc25 pm25 an25 cd25 ct25), sl25⟩)
    (c25 : PySem.W.codeIn K cd25 "law" = true)
    (k25 : PySem.W.keepIn K (.ref f25) = true)
    (pg : PySem.W.plainGet K C Str.empty = true)
    (hd : PySem.W.hasDictIn K C = true)
    (po : PySem.W.plainOver K C = true)
    (sa : PySem.W.findIn K (.ref C) "__setattr__" = some (some (.builtin "object.__setattr__")))
    (mk : PySem.W.makesIn K C = true)
    (kc : PySem.W.keepIn K (.ref C) = true)
    (n_source : PySem.W.findIn K (.ref C) "source" = some none)
    (n_end : PySem.W.findIn K (.ref C) "length" = some none)
    (n_at : PySem.W.findIn K (.ref C) "at" = some none)
    (n_line : PySem.W.findIn K (.ref C) "line" = some none)
    (n_line_begin : PySem.W.findIn K (.ref C) "line_begin" = some none)
    (z_len : PySem.W.nsIn K mainGlobals "len" = some none)
    (z_int : PySem.W.nsIn K mainGlobals "int" = some none)
    (z_str : PySem.W.nsIn K mainGlobals "str" = some none)
    (z_bool : PySem.W.nsIn K mainGlobals "bool" = some none)
    (z_list : PySem.W.nsIn K mainGlobals "list" = some none)
    (z_tuple : PySem.W.nsIn K mainGlobals "tuple" = some none)
    (z_isinstance : PySem.W.nsIn K mainGlobals "isinstance" = some none)
    (z_range : PySem.W.nsIn K mainGlobals "range" = some none)
    (z_min : PySem.W.nsIn K mainGlobals "min" = some none)
    (z_max : PySem.W.nsIn K mainGlobals "max" = some none)
    (g_LONGEST_SOURCE : PySem.W.nsIn K mainGlobals "LONGEST_SOURCE" = some (some vLONGEST_SOURCE))
    (r_LONGEST_SOURCE : RelV (.int 20000) vLONGEST_SOURCE)
    (g_LARGEST_NUMBER : PySem.W.nsIn K mainGlobals "LARGEST_NUMBER" = some (some vLARGEST_NUMBER))
    (r_LARGEST_NUMBER : RelV (.int 1000000000000000000000000000000) vLARGEST_NUMBER)
    (g_MOST_DIGITS : PySem.W.nsIn K mainGlobals "MOST_DIGITS" = some (some vMOST_DIGITS))
    (r_MOST_DIGITS : RelV (.int 31) vMOST_DIGITS)
    (g_SINGLES : PySem.W.nsIn K mainGlobals "SINGLES" = some (some vSINGLES))
    (r_SINGLES : RelV (.str (TX singlesL)) vSINGLES)
    (gP : PySem.W.nsIn K mainGlobals "PAIRS" = some (some (.ref aP)))
    (lP : K.lookup aP = some ⟨.type "tuple", odP, .seq itP nP, slP⟩)
    (szP : itP.size ≤ sizeLine)
    (vP : Vals (pairsL.map fun l => V.str (TX l)) itP.toList)
    (gE : PySem.W.nsIn K mainGlobals "ESCAPES" = some (some (.ref aE)))
    (lE : K.lookup aE = some ⟨.type "dict", none, .dict esE nE, #[]⟩)
    (litE : PySem.W.KeysLit w.params esE.toList)
    (lowE : (aE == sysModules) = false)
    (e34 : PySem.W.nsIn K aE "\"" = some (some u34))
    (r34 : RelV (.str (TX [34])) u34)
    (e92 : PySem.W.nsIn K aE "\\" = some (some u92))
    (r92 : RelV (.str (TX [92])) u92)
    (e110 : PySem.W.nsIn K aE "n" = some (some u110))
    (r110 : RelV (.str (TX [10])) u110)
    : ∃ fd : FuncData, (∀ (s : Shared) (v : Value), BindsTo s fd ⟨[v], []⟩ [("script", v)]) ∧ ∀ base : Heap, K.In base → base.Ns mainGlobals mg → FnOk l.prog w K mg base CX0 7 fa fd ["script"] (spLaw K) := by
  have e := hfa.symm.trans (PySem.W.mg_of X G a25)
  cases e
  have F1 := fun_mk (st := s_Scanner___init__) l1 c1 k1
  have b1 := F1.binds (ps := ["self", "source"]) fun _ _ _ _ _ _ us hl => match us, hl with | [_, _], _ => rfl
  have F2 := fun_mk (st := s_Scanner_column_of) l2 c2 k2
  have b2 := F2.binds (ps := ["self", "at"]) fun _ _ _ _ _ _ us hl => match us, hl with | [_, _], _ => rfl
  have F3 := fun_mk (st := s_Scanner_skip) l3 c3 k3
  have b3 := F3.binds (ps := ["self"]) fun _ _ _ _ _ _ us hl => match us, hl with | [_], _ => rfl
  have F4 := fun_mk (st := s_Scanner_token) l4 c4 k4
  have b4 := F4.binds (ps := ["self"]) fun _ _ _ _ _ _ us hl => match us, hl with | [_], _ => rfl
  have F5 := fun_mk (st := s_Scanner_next_sort) l5 c5 k5
  have b5 := F5.binds (ps := ["self"]) fun _ _ _ _ _ _ us hl => match us, hl with | [_], _ => rfl
  have F6 := fun_mk (st := s_Scanner_take_word) l6 c6 k6
  have b6 := F6.binds (ps := ["self", "sort"]) fun _ _ _ _ _ _ us hl => match us, hl with | [_, _], _ => rfl
  have F7 := fun_mk (st := s_Scanner_take_until) l7 c7 k7
  have b7 := F7.binds (ps := ["self", "end"]) fun _ _ _ _ _ _ us hl => match us, hl with | [_, _], _ => rfl
  have F8 := fun_mk (st := s_Scanner_take_name) l8 c8 k8
  have b8 := F8.binds (ps := ["self"]) fun _ _ _ _ _ _ us hl => match us, hl with | [_], _ => rfl
  have F9 := fun_mk (st := s_Scanner_take_number) l9 c9 k9
  have b9 := F9.binds (ps := ["self"]) fun _ _ _ _ _ _ us hl => match us, hl with | [_], _ => rfl
  have F10 := fun_mk (st := s_Scanner_take_sign) l10 c10 k10
  have b10 := F10.binds (ps := ["self"]) fun _ _ _ _ _ _ us hl => match us, hl with | [_], _ => rfl
  have F11 := fun_mk (st := s_Scanner_take_text) l11 c11 k11
  have b11 := F11.binds (ps := ["self"]) fun _ _ _ _ _ _ us hl => match us, hl with | [_], _ => rfl
  have F12 := fun_mk (st := s_Scanner_text_end) l12 c12 k12
  have b12 := F12.binds (ps := ["self"]) fun _ _ _ _ _ _ us hl => match us, hl with | [_], _ => rfl
  have F13 := fun_mk (st := s_is_letter) l13 c13 k13
  have b13 := F13.binds (ps := ["sign"]) fun _ _ _ _ _ _ us hl => match us, hl with | [_], _ => rfl
  have F14 := fun_mk (st := s_is_digit) l14 c14 k14
  have b14 := F14.binds (ps := ["sign"]) fun _ _ _ _ _ _ us hl => match us, hl with | [_], _ => rfl
  have F15 := fun_mk (st := s_tokens) l15 c15 k15
  have b15 := F15.binds (ps := ["source"]) fun _ _ _ _ _ _ us hl => match us, hl with | [_], _ => rfl
  have F16 := fun_mk (st := s_is_word_sign) l16 c16 k16
  have b16 := F16.binds (ps := ["sign"]) fun _ _ _ _ _ _ us hl => match us, hl with | [_], _ => rfl
  have F17 := fun_mk (st := s__law_cell) l17 c17 k17
  have b17 := F17.binds (ps := ["script", "k"]) fun _ _ _ _ _ _ us hl => match us, hl with | [_, _], _ => rfl
  have F18 := fun_mk (st := s__law_is_integer) l18 c18 k18
  have b18 := F18.binds (ps := ["told"]) fun _ _ _ _ _ _ us hl => match us, hl with | [_], _ => rfl
  have F19 := fun_mk (st := s__law_start) l19 c19 k19
  have b19 := F19.binds (ps := ["cell", "k"]) fun _ _ _ _ _ _ us hl => match us, hl with | [_, _], _ => rfl
  have F20 := fun_mk (st := s__law_digit) l20 c20 k20
  have b20 := F20.binds (ps := ["state", "many"]) fun _ _ _ _ _ _ us hl => match us, hl with | [_, _], _ => rfl
  have F21 := fun_mk (st := s__law_quoted) l21 c21 k21
  have b21 := F21.binds (ps := ["text"]) fun _ _ _ _ _ _ us hl => match us, hl with | [_], _ => rfl
  have F22 := fun_mk (st := s__law_text) l22 c22 k22
  have b22 := F22.binds (ps := ["state"]) fun _ _ _ _ _ _ us hl => match us, hl with | [_], _ => rfl
  have F23 := fun_mk (st := s__law_token) l23 c23 k23
  have b23 := F23.binds (ps := ["state"]) fun _ _ _ _ _ _ us hl => match us, hl with | [_], _ => rfl
  have F24 := fun_mk (st := s__law_gap) l24 c24 k24
  have b24 := F24.binds (ps := ["state"]) fun _ _ _ _ _ _ us hl => match us, hl with | [_], _ => rfl
  have T : Txt K w mg C := {
    cl := ⟨pg, hd, po, sa⟩,
    n_source := n_source,
    n_end := n_end,
    n_at := n_at,
    n_line := n_line,
    n_line_begin := n_line_begin,
    z_len := PySem.W.mg_none_of X G z_len,
    z_int := PySem.W.mg_none_of X G z_int,
    z_str := PySem.W.mg_none_of X G z_str,
    z_bool := PySem.W.mg_none_of X G z_bool,
    z_list := PySem.W.mg_none_of X G z_list,
    z_tuple := PySem.W.mg_none_of X G z_tuple,
    z_isinstance := PySem.W.mg_none_of X G z_isinstance,
    z_range := PySem.W.mg_none_of X G z_range,
    z_min := PySem.W.mg_none_of X G z_min,
    z_max := PySem.W.mg_none_of X G z_max,
    g_LONGEST_SOURCE := ⟨_, PySem.W.mg_of X G g_LONGEST_SOURCE, r_LONGEST_SOURCE⟩,
    g_LARGEST_NUMBER := ⟨_, PySem.W.mg_of X G g_LARGEST_NUMBER, r_LARGEST_NUMBER⟩,
    g_MOST_DIGITS := ⟨_, PySem.W.mg_of X G g_MOST_DIGITS, r_MOST_DIGITS⟩,
    g_SINGLES := ⟨_, PySem.W.mg_of X G g_SINGLES, r_SINGLES⟩,
    t_PAIRS := ⟨aP, ⟨_, PySem.W.mg_of X G gP, rfl⟩, fun H => .inr ⟨_, _, _, lP, rfl, rfl, szP, vP⟩⟩,
    t_ESCAPES := ⟨aE, esE, nE, ⟨_, PySem.W.mg_of X G gE, rfl⟩, ⟨lE, litE, lowE⟩, ⟨_, e34, r34⟩, ⟨_, e92, r92⟩, ⟨_, e110, r110⟩⟩,
    i_Scanner := ⟨_, _, F1, ⟨mk, a1, i1, kc⟩, PySem.W.mg_of X G aC, b1⟩,
    m_column_of := ⟨_, _, F2, ⟨a2, i2, k2⟩, b2⟩,
    m_skip := ⟨_, _, F3, ⟨a3, i3, k3⟩, b3⟩,
    m_token := ⟨_, _, F4, ⟨a4, i4, k4⟩, b4⟩,
    m_next_sort := ⟨_, _, F5, ⟨a5, i5, k5⟩, b5⟩,
    m_take_word := ⟨_, _, F6, ⟨a6, i6, k6⟩, b6⟩,
    m_take_until := ⟨_, _, F7, ⟨a7, i7, k7⟩, b7⟩,
    m_take_name := ⟨_, _, F8, ⟨a8, i8, k8⟩, b8⟩,
    m_take_number := ⟨_, _, F9, ⟨a9, i9, k9⟩, b9⟩,
    m_take_sign := ⟨_, _, F10, ⟨a10, i10, k10⟩, b10⟩,
    m_take_text := ⟨_, _, F11, ⟨a11, i11, k11⟩, b11⟩,
    m_text_end := ⟨_, _, F12, ⟨a12, i12, k12⟩, b12⟩,
    d_is_letter := ⟨_, _, F13, PySem.W.mg_of X G a13, b13⟩,
    d_is_digit := ⟨_, _, F14, PySem.W.mg_of X G a14, b14⟩,
    d_tokens := ⟨_, _, F15, PySem.W.mg_of X G a15, b15⟩,
    d_is_word_sign := ⟨_, _, F16, PySem.W.mg_of X G a16, b16⟩,
    d__law_cell := ⟨_, _, F17, PySem.W.mg_of X G a17, b17⟩,
    d__law_is_integer := ⟨_, _, F18, PySem.W.mg_of X G a18, b18⟩,
    d__law_start := ⟨_, _, F19, PySem.W.mg_of X G a19, b19⟩,
    d__law_digit := ⟨_, _, F20, PySem.W.mg_of X G a20, b20⟩,
    d__law_quoted := ⟨_, _, F21, PySem.W.mg_of X G a21, b21⟩,
    d__law_text := ⟨_, _, F22, PySem.W.mg_of X G a22, b22⟩,
    d__law_token := ⟨_, _, F23, PySem.W.mg_of X G a23, b23⟩,
    d__law_gap := ⟨_, _, F24, PySem.W.mg_of X G a24, b24⟩ }
  exact ⟨_, fun s v => .of_eq rfl, fun base _ _ => ok_law (fun_mk (st := s_law) l25 c25 k25) T⟩
theorem walk {l : PySem.W.OpenLaw} {q : Program} {loose : List Str} {XP : (Str → Option Value) → Heap → Prop} {YP : World → Heap → Prop} {d : DefRec} {K : Params → PySem.W.Frag} (hn : l.most = some 63) (hdf : d.params.defaults = [])
    (hY : ∀ (w : World) (h : Heap), YP w h → (K w.params).In h)
    (F : ∀ (w : World) (mg : Str → Option Value) (fa : Addr) (h : Heap), (K w.params).In h → h.Ns mainGlobals mg → mg d.name = some (.ref fa) →
      ∃ fd : FuncData, (∀ (s : Shared) (u : Value), BindsTo s fd ⟨[u], []⟩ [("script", u)]) ∧ ∀ base : Heap, (K w.params).In base → base.Ns mainGlobals mg → FnOk l.prog w (K w.params) mg base CX0 7 fa fd ["script"] (spLaw (K w.params))) :
    PySem.W.WalkO q loose XP YP l.row.toRowW d [] (fun f vs => PySem.call f vs) :=
  L2.walk_of (n := 63) (k := 7) (x := "script") (CX := fun _ => CX0) (sp := fun w => spLaw (K w.params)) hn (by decide) hdf ⟨rfl, by decide, by decide⟩ hY F (fun _ _ a ns hl _ hS => ⟨a, ns, rfl, hS, hl, fun _ => rfl⟩) fun _ _ _ _ _ z => z
end VL

open PySem PySem.W PyProof.Rows in
set_option maxRecDepth 100000 in
set_option maxHeartbeats 0 in
theorem PySem.Challenge.cw_viewloom_k01_tokens_of_built_sources_holds : PySem.Challenge.rw_viewloom_k01_tokens_of_built_sources.Holds := by
  w_on; o_law; k_head; (case hw => w_witness2)
  k_fill
  refine VL.walk (l := PySem.Challenge.rw_viewloom_k01_tokens_of_built_sources) rfl rfl (fun w h Y => PySem.W.kIn_of Y) ?F
  case F =>
    intro w mg fa h KX G hmg
    refine' VL.all_mk KX G hmg ?aC ?a1 ?i1 ?l1 ?c1 ?k1 ?a2 ?i2 ?l2 ?c2 ?k2 ?a3 ?i3 ?l3 ?c3 ?k3 ?a4 ?i4 ?l4 ?c4 ?k4 ?a5 ?i5 ?l5 ?c5 ?k5 ?a6 ?i6 ?l6 ?c6 ?k6 ?a7 ?i7 ?l7 ?c7 ?k7 ?a8 ?i8 ?l8 ?c8 ?k8 ?a9 ?i9 ?l9 ?c9 ?k9 ?a10 ?i10 ?l10 ?c10 ?k10 ?a11 ?i11 ?l11 ?c11 ?k11 ?a12 ?i12 ?l12 ?c12 ?k12 ?a13 ?l13 ?c13 ?k13 ?a14 ?l14 ?c14 ?k14 ?a15 ?l15 ?c15 ?k15 ?a16 ?l16 ?c16 ?k16 ?a17 ?l17 ?c17 ?k17 ?a18 ?l18 ?c18 ?k18 ?a19 ?l19 ?c19 ?k19 ?a20 ?l20 ?c20 ?k20 ?a21 ?l21 ?c21 ?k21 ?a22 ?l22 ?c22 ?k22 ?a23 ?l23 ?c23 ?k23 ?a24 ?l24 ?c24 ?k24 ?a25 ?l25 ?c25 ?k25 ?pg ?hd ?po ?sa ?mk ?kc ?n_source ?n_end ?n_at ?n_line ?n_line_begin ?z_len ?z_int ?z_str ?z_bool ?z_list ?z_tuple ?z_isinstance ?z_range ?z_min ?z_max ?g_LONGEST_SOURCE ?r_LONGEST_SOURCE ?g_LARGEST_NUMBER ?r_LARGEST_NUMBER ?g_MOST_DIGITS ?r_MOST_DIGITS ?g_SINGLES ?r_SINGLES ?gP ?lP ?szP ?vP ?gE ?lE ?litE ?lowE ?e34 ?r34 ?e92 ?r92 ?e110 ?r110
    (case aC => k_is)
    (case a1 => k_is)
    (case i1 => k_is)
    (case l1 => k_is)
    (case c1 => k_is)
    (case k1 => k_is)
    (case a2 => k_is)
    (case i2 => k_is)
    (case l2 => k_is)
    (case c2 => k_is)
    (case k2 => k_is)
    (case a3 => k_is)
    (case i3 => k_is)
    (case l3 => k_is)
    (case c3 => k_is)
    (case k3 => k_is)
    (case a4 => k_is)
    (case i4 => k_is)
    (case l4 => k_is)
    (case c4 => k_is)
    (case k4 => k_is)
    (case a5 => k_is)
    (case i5 => k_is)
    (case l5 => k_is)
    (case c5 => k_is)
    (case k5 => k_is)
    (case a6 => k_is)
    (case i6 => k_is)
    (case l6 => k_is)
    (case c6 => k_is)
    (case k6 => k_is)
    (case a7 => k_is)
    (case i7 => k_is)
    (case l7 => k_is)
    (case c7 => k_is)
    (case k7 => k_is)
    (case a8 => k_is)
    (case i8 => k_is)
    (case l8 => k_is)
    (case c8 => k_is)
    (case k8 => k_is)
    (case a9 => k_is)
    (case i9 => k_is)
    (case l9 => k_is)
    (case c9 => k_is)
    (case k9 => k_is)
    (case a10 => k_is)
    (case i10 => k_is)
    (case l10 => k_is)
    (case c10 => k_is)
    (case k10 => k_is)
    (case a11 => k_is)
    (case i11 => k_is)
    (case l11 => k_is)
    (case c11 => k_is)
    (case k11 => k_is)
    (case a12 => k_is)
    (case i12 => k_is)
    (case l12 => k_is)
    (case c12 => k_is)
    (case k12 => k_is)
    (case a13 => k_is)
    (case l13 => k_is)
    (case c13 => k_is)
    (case k13 => k_is)
    (case a14 => k_is)
    (case l14 => k_is)
    (case c14 => k_is)
    (case k14 => k_is)
    (case a15 => k_is)
    (case l15 => k_is)
    (case c15 => k_is)
    (case k15 => k_is)
    (case a16 => k_is)
    (case l16 => k_is)
    (case c16 => k_is)
    (case k16 => k_is)
    (case a17 => k_is)
    (case l17 => k_is)
    (case c17 => k_is)
    (case k17 => k_is)
    (case a18 => k_is)
    (case l18 => k_is)
    (case c18 => k_is)
    (case k18 => k_is)
    (case a19 => k_is)
    (case l19 => k_is)
    (case c19 => k_is)
    (case k19 => k_is)
    (case a20 => k_is)
    (case l20 => k_is)
    (case c20 => k_is)
    (case k20 => k_is)
    (case a21 => k_is)
    (case l21 => k_is)
    (case c21 => k_is)
    (case k21 => k_is)
    (case a22 => k_is)
    (case l22 => k_is)
    (case c22 => k_is)
    (case k22 => k_is)
    (case a23 => k_is)
    (case l23 => k_is)
    (case c23 => k_is)
    (case k23 => k_is)
    (case a24 => k_is)
    (case l24 => k_is)
    (case c24 => k_is)
    (case k24 => k_is)
    (case a25 => k_is)
    (case l25 => k_is)
    (case c25 => k_is)
    (case k25 => k_is)
    (case pg => k_is)
    (case hd => k_is)
    (case po => k_is)
    (case sa => k_is)
    (case mk => k_is)
    (case kc => k_is)
    (case n_source => k_is)
    (case n_end => k_is)
    (case n_at => k_is)
    (case n_line => k_is)
    (case n_line_begin => k_is)
    (case z_len => k_is)
    (case z_int => k_is)
    (case z_str => k_is)
    (case z_bool => k_is)
    (case z_list => k_is)
    (case z_tuple => k_is)
    (case z_isinstance => k_is)
    (case z_range => k_is)
    (case z_min => k_is)
    (case z_max => k_is)
    (case g_LONGEST_SOURCE => k_is)
    (case r_LONGEST_SOURCE => exact ⟨_, rfl⟩)
    (case g_LARGEST_NUMBER => k_is)
    (case r_LARGEST_NUMBER => exact ⟨_, rfl⟩)
    (case g_MOST_DIGITS => k_is)
    (case r_MOST_DIGITS => exact ⟨_, rfl⟩)
    (case g_SINGLES => k_is)
    (case r_SINGLES => exact ⟨_, rfl⟩)
    (case gP => k_is)
    (case lP => k_is)
    (case szP => show 7 ≤ sizeLine; decide)
    (case vP => exact (.cons ⟨_, rfl⟩ (.cons ⟨_, rfl⟩ (.cons ⟨_, rfl⟩ (.cons ⟨_, rfl⟩ (.cons ⟨_, rfl⟩ (.cons ⟨_, rfl⟩ (.cons ⟨_, rfl⟩ .nil))))))))
    (case gE => k_is)
    (case lE => k_is)
    (case litE => k_keys)
    (case lowE => decide)
    (case e34 => k_is)
    (case r34 => exact ⟨_, rfl⟩)
    (case e92 => k_is)
    (case r92 => exact ⟨_, rfl⟩)
    (case e110 => k_is)
    (case r110 => exact ⟨_, rfl⟩)
#print axioms PySem.Challenge.cw_viewloom_k01_tokens_of_built_sources_holds
