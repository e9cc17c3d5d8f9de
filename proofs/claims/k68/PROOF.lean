import PyProof.Rows.All
import Wide.All
import OpenK.AllK
import Wide.FinOn
import HandS.ForMost
import HandS.More
import HandS.Codes
import HandS.StrMore
import HandS.ReplaceDef
import HandS.ReplaceLit
import HandS.ReplaceList
import HandS.FStr
import HandS.Ends
import PyProof.ReprRoads
import PyProof.ReprReads
import PyProof.RowDictHeap
import HandS.DictComp
import HandS.Walk
import HandS.Defaults
import HandS.Property
import HandS.ClsMeth
import HandS.ExcIs
import HandS.RaiseMore
import HandS.ForExc
import HandS.IsInst
import HandS.DeepEq
import HandS.Deep
import HandS.Steps
import HandS.Style
import HandS.TupLe
import HandS.FStrTup
import PySem.Challenge.RW_viewloom_k68_plain_texts
set_option Elab.async false
set_option linter.all false
set_option maxRecDepth 100000
set_option maxHeartbeats 4000000
namespace VL
open PySem PySem.Spec PyProof.Rows L2

/-! ### defs, methods, classes, as callers see them -/
structure Cal (P : Program) (w : World) (K : PySem.W.Frag) (mg : Str → Option Value) (base : Heap) (k : Nat) (x : Str) (sp : Sp) : Prop where
  ex : ∃ (f : Addr) (fd : FuncData) (ps : List Str), FnOk P w K mg base CX0 k f fd ps sp ∧ mg x = some (.ref f) ∧ PySem.W.keepIn K (.ref f) = true ∧ Binds K fd ps []
structure Met (P : Program) (w : World) (K : PySem.W.Frag) (mg : Str → Option Value) (base : Heap) (k : Nat) (C : Addr) (m : Str) (sp : Sp) : Prop where
  ex : ∃ (f : Addr) (fd : FuncData) (ps : List Str), Cls K C ∧ Meth K C m f ∧ FnOk P w K mg base CX0 k f fd ps sp ∧ Binds K fd ps []
structure Mak (P : Program) (w : World) (K : PySem.W.Frag) (mg : Str → Option Value) (base : Heap) (k : Nat) (x : Str) (C : Addr) (sp : Sp) : Prop where
  ex : ∃ (f : Addr) (fd : FuncData) (ps : List Str), Mk K C f ∧ FnOk P w K mg base CX0 k f fd ps sp ∧ mg x = some (.ref C) ∧ Binds K fd ps []
section
variable {X : Cx} {k j : Nat} {C : Addr} {x m : Str} {sp : Sp} {p pos apos : Pos} {e o : Expr} {es : List Expr} {ta : TE} {t : TA}
theorem pe_c (c : Cal X.prog X.w X.K X.mg X.base k x sp) (hr : Room j X.A) (hk : k ≤ j) (hg : Gl X x) (ha : PA X (e :: es) t)
    (hdb : (x == ("__debug__" : Str)) = false := by decide) (he : starEach (e :: es) X.env = (false, eval e X.env) :: starEach es X.env := by rfl) (hpl : (backTo pos (starEach es X.env)).any (·.1) = false := by rfl) :
    PE X (.Call (.Name x p) (e :: es) [] pos) (tCall sp [] E0 t) := by
  obtain ⟨f, fd, ps, F, hm, kp, b⟩ := c.ex
  exact pe_call F (hr.mono hk) hg hm kp b .nil pass0 ha hdb he hpl
theorem pe_mk (c : Mak X.prog X.w X.K X.mg X.base k x C sp) (hr : Room j X.A) (hk : k + 1 ≤ j) (hg : Gl X x) (ha : PA X (e :: es) t)
    (hdb : (x == ("__debug__" : Str)) = false := by decide) (he : starEach (e :: es) X.env = (false, eval e X.env) :: starEach es X.env := by rfl) (hpl : (backTo pos (starEach es X.env)).any (·.1) = false := by rfl) :
    PE X (.Call (.Name x p) (e :: es) [] pos) (tMake C sp [] E0 t) := by
  obtain ⟨f, fd, ps, M, F, hm, b⟩ := c.ex
  exact pe_make M F (hr.mono hk) hg hm b .nil pass0 ha hdb he hpl
theorem pe_mk0 (c : Mak X.prog X.w X.K X.mg X.base k x C sp) (hr : Room j X.A) (hk : k + 1 ≤ j) (hg : Gl X x) (hdb : (x == ("__debug__" : Str)) = false := by decide) :
    PE X (.Call (.Name x p) [] [] pos) (tMake C sp [] E0 tNil) := by
  obtain ⟨f, fd, ps, M, F, hm, b⟩ := c.ex
  exact pe_make0 M F (hr.mono hk) hg hm b .nil pass0 hdb
theorem pe_mt {pl : Sem Bool} (c : Met X.prog X.w X.K X.mg X.base k C m sp) (hr : Room j X.A) (hk : k ≤ j) (he : PE X o ta) (ha : PA X (e :: es) t)
    (hst : starEach (e :: es) X.env = (false, eval e X.env) :: starEach es X.env := by rfl) (hpl : (backTo pos (starEach es X.env)).any (·.1) = false := by rfl)
    (ht : eval (.Call (.Attribute o m apos) (e :: es) [] pos) X.env = (do
      let ov ← eval o X.env
      standAt apos.atName
      let (f, first) ← holding [ov] (getMethod ov m pl)
      callWith pos f first (backTo pos (starEach (e :: es) X.env)) (backToKw pos (keywordEach [] X.env))) := by rfl) :
    PE X (.Call (.Attribute o m apos) (e :: es) [] pos) (tMeth C m sp [] E0 ta t) := by
  obtain ⟨f, fd, ps, hc, hm, F, b⟩ := c.ex
  exact pe_meth (pl := pl) he hc hm F (hr.mono hk) b .nil pass0 ha hst hpl ht
theorem pe_mt0 {pl : Sem Bool} (c : Met X.prog X.w X.K X.mg X.base k C m sp) (hr : Room j X.A) (hk : k ≤ j) (he : PE X o ta)
    (ht : eval (.Call (.Attribute o m apos) [] [] pos) X.env = (do
      let ov ← eval o X.env
      standAt apos.atName
      let (f, first) ← holding [ov] (getMethod ov m pl)
      callWith pos f first (backTo pos (starEach [] X.env)) (backToKw pos (keywordEach [] X.env))) := by rfl) :
    PE X (.Call (.Attribute o m apos) [] [] pos) (tMeth C m sp [] E0 ta tNil) := by
  obtain ⟨f, fd, ps, hc, hm, F, b⟩ := c.ex
  exact pe_meth0 (pl := pl) he hc hm F (hr.mono hk) b .nil pass0 ht
end

/-! ### what the text has -/
def DefE (K : PySem.W.Frag) (mg : Str → Option Value) (x : Str) (st : Stmt) (ps : List Str) : Prop := ∃ (f : Addr) (fd : FuncData), Fun K x x st f fd ∧ mg x = some (.ref f) ∧ Binds K fd ps []
def MethE (K : PySem.W.Frag) (C : Addr) (x qual : Str) (st : Stmt) (ps : List Str) : Prop := ∃ (f : Addr) (fd : FuncData), Fun K x qual st f fd ∧ Meth K C x f ∧ Binds K fd ps []
def InitE (K : PySem.W.Frag) (mg : Str → Option Value) (cn : Str) (C : Addr) (qual : Str) (st : Stmt) (ps : List Str) : Prop := ∃ (f : Addr) (fd : FuncData), Fun K "__init__" qual st f fd ∧ Mk K C f ∧ mg cn = some (.ref C) ∧ Binds K fd ps []
/-- a global name of the module has the value v -/
abbrev GV (mg : Str → Option Value) (x : Str) (v : V) : Prop := ∃ u, mg x = some u ∧ RelV v u
section
variable {P : Program} {w : World} {K : PySem.W.Frag} {mg : Str → Option Value} {base : Heap}
theorem cal_of {x : Str} {st : Stmt} {ps N : List Str} {k : Nat} {sp : Sp} (D : DefE K mg x st ps) (S : FnScope N ps (defScope st)) (len : ∀ vs H Q E, sp vs H Q E → vs.length = ps.length)
    (hbody : ∀ (f : Addr) (cdv : Value) (A : Around) (outer : List Env) (s : Shared) (H : Hp) (vs : List V) (Q : VK) (E : XK), Room k (A.deeper (envOfC x (defScope st) s.heap.objs.size f cdv)) → sp vs H Q E →
      ∃ t, PSs (cxOf CX0 P w K mg base N x (defScope st) f cdv A outer s H E).nox (defBody st) t ∧ t { nx := fun _ H' => Q .non H', rt := Q } (start N vs) H) : Cal P w K mg base (k + 1) x sp := by
  obtain ⟨f, fd, F, hm, b⟩ := D
  exact ⟨f, fd, ps, F.ok S len (hbody f), hm, F.kp, b⟩
theorem met_of {C : Addr} {x qual : Str} {st : Stmt} {ps N : List Str} {k : Nat} {sp : Sp} (D : MethE K C x qual st ps) (c : Cls K C) (S : FnScope N ps (defScope st)) (len : ∀ vs H Q E, sp vs H Q E → vs.length = ps.length)
    (hbody : ∀ (f : Addr) (cdv : Value) (A : Around) (outer : List Env) (s : Shared) (H : Hp) (vs : List V) (Q : VK) (E : XK), Room k (A.deeper (envOfC qual (defScope st) s.heap.objs.size f cdv)) → sp vs H Q E →
      ∃ t, PSs (cxOf CX0 P w K mg base N qual (defScope st) f cdv A outer s H E).nox (defBody st) t ∧ t { nx := fun _ H' => Q .non H', rt := Q } (start N vs) H) : Met P w K mg base (k + 1) C x sp := by
  obtain ⟨f, fd, F, hm, b⟩ := D
  exact ⟨f, fd, ps, c, hm, F.ok S len (hbody f), b⟩
theorem mak_of {C : Addr} {cn qual : Str} {st : Stmt} {ps N : List Str} {k : Nat} {sp : Sp} (D : InitE K mg cn C qual st ps) (S : FnScope N ps (defScope st)) (len : ∀ vs H Q E, sp vs H Q E → vs.length = ps.length)
    (hbody : ∀ (f : Addr) (cdv : Value) (A : Around) (outer : List Env) (s : Shared) (H : Hp) (vs : List V) (Q : VK) (E : XK), Room k (A.deeper (envOfC qual (defScope st) s.heap.objs.size f cdv)) → sp vs H Q E →
      ∃ t, PSs (cxOf CX0 P w K mg base N qual (defScope st) f cdv A outer s H E).nox (defBody st) t ∧ t { nx := fun _ H' => Q .non H', rt := Q } (start N vs) H) : Mak P w K mg base (k + 1) cn C sp := by
  obtain ⟨f, fd, F, M, hm, b⟩ := D
  exact ⟨f, fd, ps, M, F.ok S len (hbody f), hm, b⟩
end
theorem ps_str_loc : True := trivial
end VL

set_option Elab.async false
set_option linter.all false
set_option maxRecDepth 100000
set_option maxHeartbeats 4000000
namespace VL
open PySem PySem.Spec PyProof.Rows L2

/-! ### texts as lists of signs -/
abbrev TX (l : List Nat) : Str := ⟨l.toArray⟩
theorem TX_tl (l : List Nat) : (TX l).cps.toList = l := by simp
theorem TX_len (l : List Nat) : (TX l).length = l.length := by simp [Str.length]
theorem TX_cat (a b : List Nat) : TX a ++ TX b = TX (a ++ b) := SX.S_cat a b
theorem TX_inj {a b : List Nat} (h : TX a = TX b) : a = b := SX.S_inj h
theorem vstr_TX {a b : List Nat} : decide (V.str (TX a) = V.str (TX b)) = decide (a = b) := by
  by_cases e : a = b
  · subst e; simp
  · have : ¬ V.str (TX a) = V.str (TX b) := fun q => e (TX_inj (V.str.inj q))
    rw [decide_eq_false this, decide_eq_false e]
theorem one_eq {c d : Nat} : decide (V.str (TX [c]) = V.str (TX [d])) = decide (c = d) := by
  rw [vstr_TX]
  by_cases e : c = d
  · subst e; simp
  · simp [e]
/-- the sign at a place -/
theorem at_mid {pre r : List Nat} {c : Nat} {i : Int} (hi : i = (pre.length : Int)) : atI (TX (pre ++ c :: r)).cps.toList i = some c := by
  subst hi
  rw [TX_tl]
  unfold atI ixN
  rw [if_pos (by omega), if_pos (by simp; omega)]
  show (pre ++ c :: r)[(pre.length : Int).toNat]? = _
  rw [Int.toNat_natCast]
  simp
theorem getD_TX (l : List Nat) (v : Nat) : (TX l).cps.getD v 0 = l.getD v 0 := by
  simp only [Array.getD, List.getD_eq_getElem?_getD]
  by_cases h : v < l.length
  · rw [dif_pos (by simpa using h)]
    simp [h]
  · rw [dif_neg (by simpa using h), List.getElem?_eq_none (by omega)]
    rfl
theorem lt_one {c d : Nat} : ([c] < [d]) ↔ c < d := by
  constructor
  · intro h
    cases h with
    | rel h => exact h
    | cons h => cases h
  · intro h
    exact .rel h
/-- s.startswith(y, i) -/
theorem starts_at {pre R y : List Nat} {i : Int} (hi : i = (pre.length : Int)) : Txt.startswith3 (TX (pre ++ R)) (TX y) i = (R.take y.length == y) := by
  subst hi
  have e : fromIndex (TX (pre ++ R)).length (pre.length : Int) = pre.length := by
    unfold fromIndex
    rw [if_neg (by omega)]
    omega
  unfold Txt.startswith3
  rw [e, StrLaws.subAt_eq]
  have h1 : (TX (pre ++ R)).cps.toList.drop pre.length = R := by simp
  rw [h1, TX_len, TX_len]
  show (decide (pre.length + y.length ≤ (pre ++ R).length) && (R.take y.length == (TX y).cps.toList)) = _
  rw [TX_tl, List.length_append]
  by_cases h : y.length ≤ R.length
  · rw [decide_eq_true (by omega)]
    rfl
  · rw [decide_eq_false (by omega)]
    have : (R.take y.length == y) = false := by
      refine beq_eq_false_iff_ne.mpr fun q => h ?_
      have := congrArg List.length q
      rw [List.length_take] at this
      omega
    rw [this]
    rfl
/-- s.find("\n", i) -/
theorem find_nl {pre c r : List Nat} {d : Nat} {i : Int} (hi : i = (pre.length : Int)) (hc : d ∉ c) : Txt.find3 (TX (pre ++ (c ++ d :: r))) (TX [d]) i = ((pre.length + c.length : Nat) : Int) := by
  subst hi
  have e : fromIndex (TX (pre ++ (c ++ d :: r))).length (pre.length : Int) = pre.length := by
    unfold fromIndex
    rw [if_neg (by omega)]
    omega
  have hg : ∀ v, v < (pre ++ (c ++ d :: r)).length → (TX (pre ++ (c ++ d :: r))).cps.getD v 0 = (pre ++ (c ++ d :: r)).getD v 0 := fun v _ => getD_TX _ v
  have hat : (pre ++ (c ++ d :: r)).getD (pre.length + c.length) 0 = d := by simp [List.getD_eq_getElem?_getD]
  have hlt : pre.length + c.length < (pre ++ (c ++ d :: r)).length := by rw [List.length_append, List.length_append, List.length_cons]; omega
  rcases StrLaws.find3_spec (TX (pre ++ (c ++ d :: r))) d (pre.length : Int) with ⟨_, h2⟩ | ⟨k, h1, h2, h3, h4, h5⟩
  · rw [e, TX_len] at h2
    exact absurd (by rw [hg _ hlt]; exact hat) (h2 (pre.length + c.length) (by omega) hlt)
  · rw [e] at h2 h5
    rw [TX_len] at h3
    rw [h1]
    have hk : k = pre.length + c.length := by
      rcases Nat.lt_trichotomy k (pre.length + c.length) with q | q | q
      · exfalso
        rw [hg k h3] at h4
        have e3 : (pre ++ (c ++ d :: r)).getD k 0 = c.getD (k - pre.length) 0 := by
          rw [List.getD_eq_getElem?_getD, List.getD_eq_getElem?_getD, List.getElem?_append_right h2, List.getElem?_append_left (by omega)]
        rw [e3] at h4
        apply hc
        have hlt2 : k - pre.length < c.length := by omega
        rw [List.getD_eq_getElem?_getD, List.getElem?_eq_getElem hlt2] at h4
        have h4 : c[k - pre.length] = d := h4
        rw [← h4]
        exact List.getElem_mem hlt2
      · exact q
      · exfalso
        exact h5 (pre.length + c.length) (by omega) q (by rw [hg _ hlt]; exact hat)
    rw [hk]
/-- s[i:j] -/
theorem cut_mid {pre m r : List Nat} {i j : Int} (hi : i = (pre.length : Int)) (hj : j = ((pre.length + m.length : Nat) : Int)) : cutS (TX (pre ++ (m ++ r))) (some i) (some j) = TX m := by
  subst hi hj
  unfold cutS
  rw [TX_len, HT.sIx_nat, HT.sIx_nat, TX_tl]
  have e1 : min pre.length (pre ++ (m ++ r)).length = pre.length := by simp
  have e2 : min (pre.length + m.length) (pre ++ (m ++ r)).length = pre.length + m.length := by simp
  rw [e1, e2]
  refine congrArg TX ?_
  rw [List.drop_left, Nat.add_sub_cancel_left, List.take_left]

/-! ### rows -/
def rws : List Nat → List Nat → List (List Nat)
  | acc, [] => [acc]
  | acc, c :: r => if c = 10 then acc :: rws [] r else rws (acc ++ [c]) r
theorem spl_rws : ∀ (l acc : List Nat), TL.spl [10] 0 acc l = rws acc l
  | [], acc => by rw [TL.spl_nil]; rfl
  | c :: r, acc => by
    unfold rws
    by_cases h : c = 10
    · subst h
      rw [if_pos rfl, TL.spl_hit (by rfl)]
      exact congrArg (acc :: ·) (spl_rws r [])
    · rw [if_neg h, TL.spl_miss (by
        show TL.pre [10] (c :: r) = false
        unfold TL.pre
        simp [h])]
      exact spl_rws r _
theorem rws_ne : ∀ (l acc : List Nat), rws acc l ≠ []
  | [], acc => by unfold rws; simp
  | c :: r, acc => by
    unfold rws
    split
    · simp
    · exact rws_ne r _
def lnOf (l : List Nat) : Nat := (rws [] l).length
def clOf (l : List Nat) : Nat := ((rws [] l).getLast (rws_ne _ _)).length
theorem rws_plain : ∀ (l acc m : List Nat), 10 ∉ m → ∃ fr la, rws acc l = fr ++ [la] ∧ rws acc (l ++ m) = fr ++ [la ++ m]
  | [], acc, m, h => by
    refine ⟨[], acc, rfl, ?_⟩
    show rws acc m = [acc ++ m]
    induction m generalizing acc with
    | nil => rw [List.append_nil]; rfl
    | cons c m ih =>
      have hc : c ≠ 10 := fun e => h (by rw [e]; exact List.mem_cons_self)
      unfold rws
      rw [if_neg hc, ih _ fun e => h (List.mem_cons_of_mem _ e), List.append_assoc]
      rfl
  | c :: r, acc, m, h => by
    rw [List.cons_append]
    unfold rws
    by_cases hc : c = 10
    · rw [if_pos hc, if_pos hc]
      obtain ⟨fr, la, e1, e2⟩ := rws_plain r [] m h
      exact ⟨acc :: fr, la, by rw [e1]; rfl, by rw [e2]; rfl⟩
    · rw [if_neg hc, if_neg hc]
      exact rws_plain r _ m h
theorem rws_nl : ∀ (l acc : List Nat), rws acc (l ++ [10]) = rws acc l ++ [[]]
  | [], acc => by
    show rws acc [10] = [acc] ++ [[]]
    unfold rws
    rw [if_pos rfl]
    rfl
  | c :: r, acc => by
    rw [List.cons_append]
    unfold rws
    split
    · rw [rws_nl r []]; rfl
    · exact rws_nl r _
theorem getLast_of {α : Type} {l fr : List α} {la : α} (h : l ≠ []) (e : l = fr ++ [la]) : l.getLast h = la := by
  subst e
  simp
theorem ln_plain (l m : List Nat) (h : 10 ∉ m) : lnOf (l ++ m) = lnOf l := by
  obtain ⟨fr, la, e1, e2⟩ := rws_plain l [] m h
  unfold lnOf
  rw [e1, e2]
  simp
theorem cl_plain (l m : List Nat) (h : 10 ∉ m) : clOf (l ++ m) = clOf l + m.length := by
  obtain ⟨fr, la, e1, e2⟩ := rws_plain l [] m h
  unfold clOf
  rw [getLast_of _ e1, getLast_of _ e2, List.length_append]
theorem ln_nl (l : List Nat) : lnOf (l ++ [10]) = lnOf l + 1 := by
  unfold lnOf
  rw [rws_nl]
  simp
theorem cl_nl (l : List Nat) : clOf (l ++ [10]) = 0 := by
  unfold clOf
  rw [getLast_of _ (rws_nl l [])]
  rfl
theorem cl_le : ∀ l : List Nat, clOf l ≤ l.length := by
  intro l
  have : ∀ (l acc : List Nat), ((rws acc l).getLast (rws_ne _ _)).length ≤ acc.length + l.length := by
    intro l
    induction l with
    | nil => intro acc; simp [rws]
    | cons c r ih =>
      intro acc
      by_cases hc : c = 10
      · have e : rws acc (c :: r) = acc :: rws [] r := by
          show (if c = 10 then _ else _) = _
          rw [if_pos hc]
        have e2 : (rws acc (c :: r)).getLast (rws_ne _ _) = (rws [] r).getLast (rws_ne _ _) := by
          simp only [e]
          exact List.getLast_cons (rws_ne _ _)
        rw [e2]
        have := ih []
        simp at this ⊢
        omega
      · have e : rws acc (c :: r) = rws (acc ++ [c]) r := by
          show (if c = 10 then _ else _) = _
          rw [if_neg hc]
        have e2 : (rws acc (c :: r)).getLast (rws_ne _ _) = (rws (acc ++ [c]) r).getLast (rws_ne _ _) := by simp only [e]
        rw [e2]
        have := ih (acc ++ [c])
        simp at this ⊢
        omega
  have := this l []
  simpa [clOf] using this
/-- row = source.split("\n"): how many, and the last one's length -/
theorem split_rows (l : List Nat) : Txt.split (TX l) (TX [10]) = (rws [] l).map TX := by
  have := SX.split_S (a := l) (b := [10]) (by simp) (by decide)
  rw [spl_rws] at this
  exact this
theorem rows_last (l : List Nat) : ∃ la : List Nat, atI ((rws [] l).map fun r => V.str (TX r)) (-1) = some (.str (TX la)) ∧ la.length = clOf l := by
  refine ⟨(rws [] l).getLast (rws_ne _ _), ?_, rfl⟩
  have hp : 0 < (rws [] l).length := List.length_pos_iff.mpr (rws_ne _ _)
  unfold atI ixN
  rw [if_neg (by decide), if_pos (by rw [List.length_map]; omega)]
  show ((rws [] l).map fun r => V.str (TX r))[_]? = _
  have e : (-1 + (((rws [] l).map fun r => V.str (TX r)).length : Int)).toNat = (rws [] l).length - 1 := by rw [List.length_map]; omega
  rw [e, List.getElem?_map, List.getElem?_eq_getElem (by omega), List.getLast_eq_getElem]
  rfl

/-! ### signs -/
def isLet (c : Nat) : Bool := (decide (97 ≤ c) && decide (c ≤ 122)) || (decide (65 ≤ c) && decide (c ≤ 90))
def isDig (c : Nat) : Bool := decide (48 ≤ c) && decide (c ≤ 57)
def isWs (c : Nat) : Bool := isLet c || isDig c || decide (c = 95)
end VL

set_option Elab.async false
set_option linter.all false
set_option maxRecDepth 100000
set_option maxHeartbeats 4000000
namespace VL
open PySem PySem.Spec PyProof.Rows L2

/-! ### defs whose first deed is s.replace(..) of written texts: a parameter's token is out -/
section
variable {P : Program} {w : World} {K : PySem.W.Frag} {mg : Str → Option Value} {base : Heap}
theorem cal_ofT {x : Str} {st : Stmt} {ps N : List Str} {k : Nat} {sp : Sp} (D : DefE K mg x st ps) (S : FnScope N ps (defScope st)) (hnc : ∀ y ∈ (defScope st).names, y.2 ≠ .cell) (hps : 1 ≤ ps.length) (len : ∀ vs H Q E, sp vs H Q E → vs.length = ps.length)
    (hbody : ∀ (f : Addr) (cdv : Value) (A : Around) (outer : List Env) (s : Shared) (H : Hp) (vs : List V) (Q : VK) (E : XK), Room k (A.deeper (envOfC x (defScope st) s.heap.objs.size f cdv)) → sp vs H Q E →
      ∃ t, PSsT (cxOf CX0 P w K mg base N x (defScope st) f cdv A outer s H E) (defBody st) t ∧ t { nx := fun _ H' => Q .non H', rt := Q } (start N vs) H) : Cal P w K mg base (k + 1) x sp := by
  obtain ⟨f, fd, F, hm, b⟩ := D
  have kp := F.kp
  obtain ⟨oc, od, kV, doc, pm, an, cdv, ct, osl, rfl, lk, hcd⟩ := F.ex
  exact ⟨f, _, ps, fn_ofT lk hcd S hnc hps len (fun A outer s H vs Q E hr h => hbody f cdv A outer s H vs Q E hr h), hm, kp, b⟩
end
/-- an f-string, its reading by name (for comprehensions) -/
def tJoined (ts : List TE) : TE := fun σ H Q => tJs ts Str.empty σ H fun out H1 => Q (.str out) H1
theorem pe_joinedT {X : Cx} {v1 v2 : Expr} {rest : List Expr} {ts : List TE} {pos : Pos} (h : PJ X (v1 :: v2 :: rest) ts) : PE X (.JoinedStr (v1 :: v2 :: rest) pos) (tJoined ts) := pe_joined h
/-- each sign c of a text becomes z -/
def rep1 (c : Nat) (z l : List Nat) : List Nat := l.flatMap fun d => if d = c then z else [d]
theorem replL_one (c : Nat) (z : List Nat) : ∀ l : List Nat, StrLaws.replL [c] z l = rep1 c z l
  | [] => by rw [StrLaws.replL_nil]; rfl
  | d :: l => by
    by_cases h : d = c
    · subst h
      rw [StrLaws.replL_hit (by simp) (by simp)]
      show z ++ StrLaws.replL [d] z l = _
      rw [replL_one d z l]
      simp [rep1]
    · rw [StrLaws.replL_miss (by simpa using h), replL_one c z l]
      simp [rep1, h]
theorem replace_TX {l z : List Nat} {c : Nat} : Txt.replace (TX l) (TX [c]) (TX z) = TX (rep1 c z l) := by
  have h := StrLaws.replace_list (x := TX l) (y := TX [c]) (z := TX z) (by rw [TX_len]; exact Nat.le_refl _)
  rw [TX_tl, TX_tl, TX_tl, replL_one] at h
  calc Txt.replace (TX l) (TX [c]) (TX z) = TX (Txt.replace (TX l) (TX [c]) (TX z)).cps.toList := by simp
    _ = _ := by rw [h]
theorem join_TX : ∀ ls : List (List Nat), Txt.join (TX []) (ls.map TX) = TX ls.flatten := by
  intro ls
  rw [TL.join_eq]
  induction ls with
  | nil => rfl
  | cons a r ih =>
    cases r with
    | nil =>
      show TX a = _
      simp
    | cons b r =>
      show TX a ++ TX [] ++ Str.join (TX []) ((b :: r).map TX) = _
      rw [ih, TX_cat, TX_cat]
      simp
theorem sum_TX (ls : List (List Nat)) : ((ls.map TX).map (·.length)).sum = ls.flatten.length := by
  induction ls with
  | nil => rfl
  | cons a r ih => simp only [List.map_cons, List.sum_cons, List.flatten_cons, List.length_append, ih, TX_len]
end VL

set_option Elab.async false
set_option linter.all false
set_option maxRecDepth 100000
set_option maxHeartbeats 4000000
namespace VL
open PySem PySem.Spec PyProof.Rows L2

/-! ### a def that is called where nothing is being shown: the law's own; repr of nested data there -/
structure FnG (P : Program) (w : World) (K : PySem.W.Frag) (mg : Str → Option Value) (base : Heap) (k : Nat) (f : Addr) (fd : FuncData) (ps : List Str) (sp : Sp) : Prop where
  run : ∀ (A : Around) (outer : List Env) (s : Shared) (H : Hp) (args : Args) (us : List Value) (vs : List V) (Q : VK) (E : XK), A.guards = some [] → Room k A → Env0 P w K mg base A outer s H → BindsTo s fd args (ps.zip us) → Vals vs us → sp vs H Q E →
    codeAny (model P w) A (.call (.ref f) args) (CR CX0 outer P w H s Q E) s
theorem fnG_of {P : Program} {w : World} {K : PySem.W.Frag} {mg : Str → Option Value} {base : Heap} {x qual : Str} {st : Stmt} {f : Addr} {fd : FuncData} {N ps : List Str} {k : Nat} {sp : Sp} (F : Fun K x qual st f fd) (S : FnScope N ps (defScope st)) (len : ∀ vs H Q E, sp vs H Q E → vs.length = ps.length)
    (hb0 : ∀ (cdv : Value) (A : Around) (outer : List Env) (s : Shared) (H : Hp) (vs : List V) (Q : VK) (E : XK), A.guards = some [] → Room k (A.deeper (envOfC qual (defScope st) s.heap.objs.size f cdv)) → sp vs H Q E →
      ∃ t, PSs (cxOf CX0 P w K mg base N qual (defScope st) f cdv A outer s H E).nox (defBody st) t ∧ t { nx := fun _ H' => Q .non H', rt := Q } (start N vs) H) : FnG P w K mg base (k + 1) f fd ps sp := by
  obtain ⟨oc, od, kV, doc, pm, an, cdv, ct, osl, rfl, lk, hcd⟩ := F.ex
  refine ⟨fun A outer s H args us vs Q E gd hr en hb rv hsp => ?_⟩
  have hlen := len _ _ _ _ hsp
  have kin : K.In s.heap := en.mod.kin.keeps fun b o e => (en.bs b o e).1
  have nl : s.heap.NoLimit := en.mod.nolimit.keeps fun b o e => (en.bs b o e).1
  have kinds : ∀ y ∈ ps.zip us, (defScope st).names.lookup y.1 = some .local ∨ ((defScope st).names.lookup y.1 = some .cell ∧ ((cellsFrom (s.heap.objs.size + 1) (defScope st).names []).lookup y.1).isSome = true) := fun ⟨n, v⟩ hy => by
    rcases S.par n (List.of_mem_zip hy).1 with c | c
    · exact .inl c
    · exact .inr ⟨c, PySem.W.cellsFrom_some _ _ _ (.inl c)⟩
  refine codeAny_call_function hr.depth (kin _ _ lk) rfl S.co S.gen rfl (PySem.W.codeRec_of kin hcd) (hb _ _ _ _ ?_)
  refine wpAny_newFunctionEnv_cells S.kind kinds fun env he s1 ic => ?_
  subst he
  refine ⟨nl.keeps ic.toInCall.keep, codeAny_func ?_⟩
  obtain ⟨t, hd, hq⟩ := hb0 cdv A outer s H vs Q E gd (hr.deeper _) hsp
  have J0 : Inv (cxOf CX0 P w K mg base N qual (defScope st) f cdv A outer s H E) [] (start N vs) H s1 := inv_start S hr.hd en hlen rv ic
  refine wpAny_mono (hd.nox.run [] s1 (start N vs) H _ J0 hq) (fun fl s2 hs => ?_) fun e s2 hs => hs
  have done : ∀ {σ2 : L2.St} {H2 : Hp} {v : V} {u : Value}, Inv (cxOf CX0 P w K mg base N qual (defScope st) f cdv A outer s H E) [] σ2 H2 s2 → RelV v u → Q v H2 → CE outer P w H s Q u s2 :=
    fun {σ2 H2 v u} J rw q => ⟨v, H2, J.os, J.bare, J.base, J.hok, rw, q⟩
  cases fl with
  | ret u =>
    obtain ⟨v, σ2, H2, J, rw, q⟩ := hs
    exact done J rw q
  | next =>
    obtain ⟨σ2, H2, J, q⟩ := hs
    exact done (v := V.non) (u := Value.none) J rfl q
  | brk => exact hs.elim fun _ z => z.elim fun _ z => z.2.elim
  | cont => exact hs.elim fun _ z => z.elim fun _ z => z.2.elim
/-- the law's call, where nothing is being shown -/
theorem law_callG {P : Program} {w : World} {K : PySem.W.Frag} {mg mb : Str → Option Value} {k : Nat} {fa a : Addr} {fd : FuncData} {x : Str} {sp : Sp} {s₁ : Shared} {vs : List Value} {ns : List Int}
    (kin : K.In s₁.heap) (ng : s₁.heap.Ns mainGlobals mg) (nb : s₁.heap.Ns builtinsNs mb) (bb : ∀ x : Str, x ≠ "__name__" → mb x = bootBuiltins x) (nl : s₁.heap.NoLimit) (hgen : s₁.gens = #[])
    (ea : s₁.heap.get? a = some { cls := .type "list", data := .seq vs.toArray }) (hi : IntsAre vs ns) (hz : ns.length ≤ sizeLine) (hr : Room k callerA)
    (F : ∀ base : Heap, K.In base → base.Ns mainGlobals mg → FnG P w K mg base k fa fd [x] sp) (hbind : ∀ (s : Shared) (u : Value), BindsTo s fd ⟨[u], []⟩ [(x, u)])
    (hsp : ∀ H : Hp, Only H → SqL K H a (ns.map V.int) → sp [.ref a] H (fun v _ => v = .bl true) fun _ _ _ => False) :
    codeAny (model P w) callerA (.call (.ref fa) ⟨[.ref a], []⟩) (fun r s2 => r = .ok (.ret (.bool true)) ∧ OldK s₁.heap s2.heap ∧ s2.os = s₁.os ∧ AllBare s2.gens) s₁ := by
  have rel := vals_ints hi
  have lv := hi.length
  have go : ∀ H : Hp, Only H → SqL K H a (ns.map V.int) → HOk P w H s₁.heap → (∀ b, H b ≠ none → b = a) → (H a ≠ none → K.lookup a = none) →
      codeAny (model P w) callerA (.call (.ref fa) ⟨[.ref a], []⟩) (fun r s2 => r = .ok (.ret (.bool true)) ∧ OldK s₁.heap s2.heap ∧ s2.os = s₁.os ∧ AllBare s2.gens) s₁ := by
    intro H ho hq ok only out
    have low : ∀ {b : Addr} {o : Obj}, s₁.heap.get? b = some o → H b = none → (hidT s₁.heap H).get? b = some o := fun e n => hidT_get e n
    have nod : ∀ {b : Addr} {o : Obj} {es : Array DictEntry} {ep : Nat}, s₁.heap.get? b = some o → o.data = .dict es ep → H b = none := fun {b o es ep} e d => by
      cases c : H b with
      | none => rfl
      | some u =>
        obtain rfl : b = a := only b (by rw [c]; simp)
        rw [ea] at e
        cases e
        exact nomatch (show Data.seq vs.toArray _ = Data.dict es ep from d)
    have nsl : ∀ {b : Addr} {m : Str → Option Value}, s₁.heap.Ns b m → (hidT s₁.heap H).Ns b m := fun {b m} ⟨o, es, ep, e, d, r⟩ => ⟨o, es, ep, low e (nod e d), d, r⟩
    have kl : K.In (hidT s₁.heap H) := fun b o e => low (kin b o e) (by
      cases c : H b with
      | none => rfl
      | some u =>
        obtain rfl : b = a := only b (by rw [c]; simp)
        rw [out (by rw [c]; simp)] at e
        exact nomatch e)
    have md : Mod K mg (hidT s₁.heap H) := ⟨kl, nsl ng, ⟨mb, nsl nb, bb⟩, let ⟨mc, h1, h2⟩ := nl; ⟨mc, nsl h1, h2⟩⟩
    have en : Env0 P w K mg (hidT s₁.heap H) callerA [] s₁ H := ⟨rfl, md, fun b o e => of_hidT e, Nat.le_of_eq (hidT_size _ _), trivial, fun b hb => absurd (show b ∈ ([] : List Addr) from hb) (by simp), ok, .of_eq hgen⟩
    refine codeAny_mono ((F _ kl (nsl ng)).run callerA [] s₁ H ⟨[.ref a], []⟩ [.ref a] [.ref a] _ _ rfl hr en (hbind s₁ (.ref a)) (.cons rfl .nil) (hsp H ho hq)) fun r s2 h => ?_
    cases r with
    | error e => exact False.elim h
    | ok fl =>
      cases fl with
      | next => exact h.elim
      | brk => exact h.elim
      | cont => exact h.elim
      | ret u =>
        obtain ⟨v, H2, os, bare, un, ok2, r2, q⟩ := h
        obtain rfl : v = .bl true := q
        obtain rfl : u = Value.bool true := r2
        refine ⟨rfl, OldK.of_keep fun b o e => ?_, os, bare⟩
        cases c : H b with
        | none => exact un.keep b o e c (by intro z; exact absurd (show b ∈ ([] : List Addr) from z) (by simp)) (by simp)
        | some u =>
          rcases ho b with z | ⟨ob, xs, z⟩
          · exact nomatch c.symm.trans z
          · obtain ⟨e1, _⟩ := ok b _ z
            obtain ⟨e2, _⟩ := ok2 b _ (un.frzs b ob _ z)
            rw [e] at e1
            cases e1
            exact e2
  cases hk : K.lookup a with
  | some o =>
    have e := kin a o hk
    rw [ea] at e
    cases e
    exact go (fun _ => none) (fun _ => .inl rfl) (.inr ⟨_, vs.toArray, _, hk, rfl, rfl, rfl, by rw [List.size_toArray, lv]; exact hz, by simpa using rel⟩) (fun b u z => nomatch (show (none : Option HO) = some u from z)) (fun b z => absurd rfl z) fun z => absurd rfl z
  | none =>
    refine go (fun b => if b = a then some (.frz { cls := .type "list", data := .seq vs.toArray } (.lst (ns.map V.int))) else none) (fun b => ?_) (.inl (.inr ⟨{ cls := .type "list", data := .seq vs.toArray }, if_pos rfl⟩)) (fun b u z => ?_) (fun b z => ?_) fun _ => hk
    · by_cases hb : b = a
      · exact Or.inr ⟨_, _, if_pos hb⟩
      · exact Or.inl (if_neg hb)
    · by_cases hb : b = a
      · cases (if_pos hb).symm.trans z
        subst hb
        exact ⟨ea, by rw [List.length_map]; exact hz, vs, _, rel, ea⟩
      · exact nomatch (if_neg hb).symm.trans z
    · by_cases hb : b = a
      · exact hb
      · exact absurd (if_neg hb) z
theorem walk_ofG {l : PySem.W.OpenLaw} {n k : Nat} {q : Program} {loose : List Str} {XP : (Str → Option Value) → Heap → Prop} {YP : World → Heap → Prop} {d : DefRec} {K : Params → PySem.W.Frag} {sp : World → Sp} {x : Str}
    (hn : l.most = some n) (hn2 : n ≤ sizeLine) (hdf : d.params.defaults = []) (hr : Room k callerA) (hY : ∀ (w : World) (h : Heap), YP w h → (K w.params).In h)
    (F : ∀ (w : World) (mg : Str → Option Value) (fa : Addr) (h : Heap), (K w.params).In h → h.Ns mainGlobals mg → mg d.name = some (.ref fa) →
      ∃ fd : FuncData, (∀ (s : Shared) (u : Value), BindsTo s fd ⟨[u], []⟩ [(x, u)]) ∧ ∀ base : Heap, (K w.params).In base → base.Ns mainGlobals mg → FnG l.prog w (K w.params) mg base k fa fd [x] (sp w))
    (hsp : ∀ (w : World) (H : Hp) (a : Addr) (ns : List Int), ns.length ≤ n → Only H → SqL (K w.params) H a (ns.map V.int) → sp w [.ref a] H (fun v _ => v = .bl true) fun _ _ _ => False) :
    PySem.W.WalkO q loose XP YP l.row.toRowW d [] (fun f vs => PySem.call f vs) := by
  refine Att.attach_call hn hdf fun w s₀ s₁ mg mb fa o pm cd doc a vs ns G Y ho hd hcd hmg hobj hints hlen hgen => ?_
  have kin := hY w _ Y
  obtain ⟨fd, hb, hF⟩ := F w mg fa _ kin G.T.g hmg
  exact law_callG kin G.T.g G.T.b G.T.builtins G.T.nolimit hgen hobj hints (Nat.le_trans hlen hn2) hr hF hb fun H ho hq => hsp w H a ns hlen ho hq
end VL

set_option Elab.async false
set_option linter.all false
set_option maxRecDepth 100000
set_option maxHeartbeats 4000000
namespace VL
open PySem PySem.Spec PyProof.Rows L2 PyProof.V

/-! ### repr of a dict of nested data, where nothing is being shown -/
def enK : Key → PyData
  | .inl i => .int i
  | .inr x => .str x
def zipK : List (Key × V) → List PyData → List (PyData × PyData)
  | p :: ks, d :: ds => (enK p.1, d) :: zipK ks ds
  | _, _ => []
theorem zipK_vals : ∀ {ks : List (Key × V)} {ds : List PyData}, ks.length = ds.length → (zipK ks ds).map (·.2) = ds
  | [], [], _ => rfl
  | p :: ks, d :: ds, h => by
    show d :: (zipK ks ds).map (·.2) = d :: ds
    rw [zipK_vals (Nat.succ.inj h)]
theorem dpAll_len {K : PySem.W.Frag} {H : Hp} : ∀ {vs : List V} {ds : List PyData}, DpAll K H vs ds → vs.length = ds.length
  | _, _, .nil => rfl
  | _, _, .cons _ h => by simp [dpAll_len h]
section
variable {X : Cx} {pins : List (Addr × Obj)} {σ : L2.St} {H : Hp} {s : Shared}
theorem enK_reads {h : Heap} {P : Program} {w : World} (k : Key) (key : Value) (e : (mixKind P w).is k key = true) : Reads h key (enK k) [] := by
  rcases keyIs_shape (show keyIs k key = true from e) with ⟨i, t, rfl, rfl⟩ | ⟨x, t, rfl, rfl⟩
  · exact Reads.int i t
  · exact Reads.str x t
theorem pairs_read (I : Inv X pins σ H s) : ∀ {ks : List (Key × V)} {vs : List (Key × Value)} {ds : List PyData}, KV ks vs → DpAll X.K H (ks.map (·.2)) ds → ∃ bs, PairsRead s.heap enK vs (zipK ks ds) bs
  | [], _, _, r, h => by
    cases r
    exact ⟨[], by unfold zipK; exact .nil⟩
  | p :: ks, _, _, r, h => by
    cases r with
    | @cons _ q _ qs h1 h2 =>
      cases h with
      | @cons _ _ d ds g1 g2 =>
        obtain ⟨k, v⟩ := q
        obtain ⟨kp, vp⟩ := p
        obtain ⟨rfl, rv⟩ := h1
        obtain ⟨as, r1⟩ := Dp.reads I d _ _ g1 rv
        obtain ⟨bs, r2⟩ := pairs_read I h2 g2
        exact ⟨as ++ bs, .cons r1 r2⟩
def rRepD (K : PySem.W.Frag) : List V → Hp → VK → Prop := fun xs H Q => ∃ (a : Addr) (ks : List (Key × V)) (ds : List PyData), xs = [.ref a] ∧ H a = some (.dK ks) ∧ DpAll K H (ks.map (·.2)) ds ∧ PyData.showableKv (zipK ks ds) = true ∧ PyData.hasDictAll ds = false ∧
  PyData.depthKv (zipK ks ds) ≤ 40 ∧ (dictText (PyData.shownKv (zipK ks ds))).length ≤ sizeLine ∧ Q (.str (dictText (PyData.shownKv (zipK ks ds)))) H
theorem call_repD (gd : X.A.guards = some []) (hu : X.A.units + 64 < cLine) : CallR X (.builtin "repr") (rRepD X.K) := by
  intro pins s σ H xs us Q I r h
  obtain ⟨a, ks, ds, rfl, ha, hd, sh, nd, dep, len, q⟩ := h
  obtain ⟨u, rfl, ru⟩ := vals1 r
  cases (show u = Value.ref a from ru)
  obtain ⟨_, hsys, vs, rk, dic⟩ := (show ObjOk X.prog X.w H s.heap a (.dK ks) from I.hok a _ ha)
  obtain ⟨bs, pr⟩ := pairs_read I rk hd
  have rd := reads_dictOf (fun k key e => enK_reads k key e) dic pr
  obtain ⟨o, es, ep, ho, hx, hdat, _, hp, _⟩ := dic
  obtain ⟨rk1, rk2⟩ := readsAll_of_pairs (fun k key e => enK_reads k key e) hp pr
  obtain ⟨sh1, sh2⟩ := PyData.showableKv_split _ sh
  have vv : (zipK ks ds).map (·.2) = ds := zipK_vals (by have := dpAll_len hd; rw [List.length_map] at this; exact this)
  obtain ⟨b1, hb1, k1⟩ := ReprAllK.of_readsAll (prog := X.prog) (w := X.w) rk1 sh1 (fun _ z => nomatch z) (fun t ht => let ⟨p, hp, hl⟩ := PyData.shownKv_key_le _ t ht; Nat.le_trans hl (Nat.le_trans (dictText_mem_le hp) len))
  obtain ⟨b2, hb2, k2⟩ := ReprAllK.of_readsAll (prog := X.prog) (w := X.w) rk2 sh2 (fun z => by rw [vv, nd] at z; exact nomatch z) (fun t ht => let ⟨p, hp, hl⟩ := PyData.shownKv_val_le _ t ht; Nat.le_trans hl (Nat.le_trans (dictText_mem_le hp) len))
  have rm : ReadAtMost s.heap (PyData.depthKv (zipK ks ds)) (b1 ++ b2) := (hb1.mono (PyData.depthAll_keys_le _)).append (hb2.mono (PyData.depthAll_vals_le _))
  have na : a ∉ b1 ++ b2 := not_mem_of_deeper rd (by simp only [PyData.depth]; omega) rm
  have EK := ReprEntriesK.of_two es.toList _ _ (k1.more_le (fun b z => List.mem_append_left b2 z) (PyData.depthAll_keys_le (zipK ks ds))) (k2.more_le (fun b z => List.mem_append_right b1 z) (PyData.depthAll_vals_le (zipK ks ds)))
  rw [← PyData.shownKv_eq] at EK
  refine call_repr_slot (T := "dict") (idr := "dict.__repr__") (by omega) ⟨o, ho, hx.1⟩ F.slot_dict_repr (call_dict_reprK (h₀ := s.heap) ho hx.1 hdat hsys na EK gd (fun b _ => Clear.nil b) (by show X.A.units + 1 + (PyData.depthKv (zipK ks ds) + 1) < cLine; omega) (fun _ _ e => e) (fun h2 u tk hk => ?_) len)
  exact ⟨_, _, rfl, .str _, H, I.kept hk, ⟨u, rfl⟩, q⟩
end
theorem strApp (x y : Str) : (x ++ y).length = x.length + y.length := strLen_append x y
theorem textFrom_le : ∀ (ts : List Str) (k : Nat) (acc : Str), (textFrom k acc ts).length ≤ acc.length + piled ts
  | [], k, acc => by show acc.length ≤ _; omega
  | t :: ts, k, acc => by
    have ih := textFrom_le ts (k + 1) (acc ++ (if k > 0 then ", " else "" : String) ++ t)
    have e : (acc ++ (if k > 0 then ", " else "" : String) ++ t).length ≤ acc.length + 2 + t.length := by
      rw [strApp, strApp]
      split
      · exact Nat.le_of_eq rfl
      · show acc.length + 0 + t.length ≤ _
        omega
    show (textFrom (k + 1) (acc ++ (if k > 0 then ", " else "" : String) ++ t) ts).length ≤ _
    have : piled (t :: ts) = t.length + 2 + piled ts := by simp [piled]
    omega
theorem listText_le (ts : List Str) : (listText ts).length ≤ 2 + piled ts := by
  have := textFrom_le ts 0 "["
  have e1 : (("[" : String) : Str).length = 1 := rfl
  have e2 : (("]" : String) : Str).length = 1 := rfl
  unfold listText
  rw [strApp, e2]
  omega
theorem dictText_le (ts : List Str) : (dictText ts).length ≤ 2 + piled ts := by
  have e1 : (("{" : String) : Str).length = 1 := rfl
  have e2 : (("}" : String) : Str).length = 1 := rfl
  unfold dictText
  rw [strApp, strApp, e1, e2]
  by_cases h : ts = []
  · subst h
    show 1 + 0 + 1 ≤ _
    omega
  · have := join_length_add ts h
    omega
theorem piled_le {c : Nat} : ∀ {ts : List Str}, (∀ t ∈ ts, t.length ≤ c) → piled ts ≤ ts.length * (c + 2)
  | [], _ => by simp [piled]
  | t :: ts, h => by
    have ih := piled_le (ts := ts) fun x hx => h x (List.mem_cons_of_mem _ hx)
    have := h t List.mem_cons_self
    have e : piled (t :: ts) = t.length + 2 + piled ts := by simp [piled]
    have e2 : (t :: ts).length * (c + 2) = ts.length * (c + 2) + (c + 2) := by rw [List.length_cons, Nat.succ_mul]
    omega
end VL

set_option Elab.async false
set_option linter.all false
set_option maxRecDepth 100000
set_option maxHeartbeats 4000000
namespace VL
open PySem PySem.Spec PyProof.Rows L2 PyProof.V

/-! ### nested data with dicts: what stands there; repr of it, where nothing is being shown -/
mutual
inductive Dq (H : Hp) : V → PyData → Prop
  | non : Dq H .non .none
  | bl (b : Bool) : Dq H (.bl b) (.bool b)
  | int (i : Int) : Dq H (.int i) (.int i)
  | str (x : Str) : Dq H (.str x) (.str x)
  | lst {a : Addr} {xs : List V} {ds : List PyData} : H a = some (.lst xs) → DqAll H xs ds → Dq H (.ref a) (.list ds)
  | tup {a : Addr} {xs : List V} {ds : List PyData} : H a = some (.tup xs) → DqAll H xs ds → Dq H (.ref a) (.tuple ds)
  | dic {a : Addr} {ks : List (Key × V)} {ds : List PyData} : H a = some (.dK ks) → (ks.map (·.1)).Nodup → DqAll H (ks.map (·.2)) ds → Dq H (.ref a) (.dict (zipK ks ds))
inductive DqAll (H : Hp) : List V → List PyData → Prop
  | nil : DqAll H [] []
  | cons {v : V} {vs : List V} {d : PyData} {ds : List PyData} : Dq H v d → DqAll H vs ds → DqAll H (v :: vs) (d :: ds)
end
theorem DqAll.len {H : Hp} : ∀ {vs : List V} {ds : List PyData}, DqAll H vs ds → vs.length = ds.length
  | _, _, .nil => rfl
  | _, _, .cons _ h => by simp [DqAll.len h]
theorem DqAll.of_each {H : Hp} {P : V → PyData → Prop} : ∀ {vs : List V} {ds : List PyData}, DqAll H vs ds → (∀ v d, Dq H v d → P v d) → Paired P vs ds
  | _, _, .nil, _ => .nil
  | _, _, .cons a b, f => .cons (f _ _ a) (DqAll.of_each b f)
theorem DqAll.paired {H : Hp} : ∀ {vs : List V} {ds : List PyData}, DqAll H vs ds → Paired (Dq H) vs ds
  | _, _, .nil => .nil
  | _, _, .cons a b => .cons a (DqAll.paired b)
theorem DqAll.of_paired {H : Hp} : ∀ {vs : List V} {ds : List PyData}, Paired (Dq H) vs ds → DqAll H vs ds
  | _, _, .nil => .nil
  | _, _, .cons a b => .cons a (DqAll.of_paired b)
theorem dKv_le : ∀ (ks : List (Key × V)) (ds : List PyData), ks.length = ds.length → PyData.depthAll ds ≤ PyData.depthKv (zipK ks ds)
  | [], [], _ => Nat.le_refl _
  | p :: ks, d :: ds, h => by
    have ih := dKv_le ks ds (Nat.succ.inj h)
    show max (PyData.depth d) (PyData.depthAll ds) ≤ max (max (PyData.depth (enK p.1)) (PyData.depth d)) (PyData.depthKv (zipK ks ds))
    omega
theorem dq_mono_n {H H' : Hp} (s : Same H H') : ∀ (n : Nat) (d : PyData) (v : V), PyData.depth d ≤ n → Dq H v d → Dq H' v d := by
  intro n
  induction n with
  | zero =>
    intro d v hn h
    cases h with
    | non => exact .non
    | bl b => exact .bl b
    | int i => exact .int i
    | str x => exact .str x
    | lst _ _ => exact absurd hn (by simp [PyData.depth])
    | tup _ _ => exact absurd hn (by simp [PyData.depth])
    | dic _ _ _ => exact absurd hn (by simp [PyData.depth])
  | succ n ih =>
    have all : ∀ {vs : List V} {ds : List PyData}, DqAll H vs ds → PyData.depthAll ds ≤ n → DqAll H' vs ds := by
      intro vs
      induction vs with
      | nil => intro ds h _; cases h; exact .nil
      | cons v vs iv =>
        intro ds h hd
        cases h with
        | @cons _ _ d ds a b =>
          have hd' : max (PyData.depth d) (PyData.depthAll ds) ≤ n := hd
          exact .cons (ih d v (by omega) a) (iv b (by omega))
    intro d v hn h
    cases h with
    | non => exact .non
    | bl b => exact .bl b
    | int i => exact .int i
    | str x => exact .str x
    | lst h1 h2 => exact .lst (s _ _ h1) (all h2 (by simp only [PyData.depth] at hn; omega))
    | tup h1 h2 => exact .tup (s _ _ h1) (all h2 (by simp only [PyData.depth] at hn; omega))
    | @dic a ks ds h1 nd h2 =>
      have := dKv_le ks ds (by have := h2.len; rwa [List.length_map] at this)
      exact .dic (s _ _ h1) nd (all h2 (by simp only [PyData.depth] at hn; omega))
theorem Dq.same {H H' : Hp} {v : V} {d : PyData} (h : Dq H v d) (s : Same H H') : Dq H' v d := dq_mono_n s _ d v (Nat.le_refl _) h
theorem DqAll.same {H H' : Hp} (s : Same H H') : ∀ {vs : List V} {ds : List PyData}, DqAll H vs ds → DqAll H' vs ds
  | _, _, .nil => .nil
  | _, _, .cons a b => .cons (a.same s) (DqAll.same s b)
section
variable {X : Cx} {pins : List (Addr × Obj)} {σ : L2.St} {H : Hp} {s : Shared}
/-- what repr asks of a value that reads as d -/
def RpOk (X : Cx) (s : Shared) (u : Value) (d : PyData) : Prop := ∃ as bs, Reads s.heap u d as ∧ ReadAtMost s.heap (PyData.depth d) bs ∧ ReprK X.prog X.w bs s.heap (PyData.depth d) u (PyData.shown d)
def RpAll (X : Cx) (s : Shared) (us : List Value) (ds : List PyData) : Prop := ∃ as bs, ReadsAll s.heap us ds as ∧ ReadAtMost s.heap (PyData.depthAll ds) bs ∧ ReprAllK X.prog X.w bs s.heap (PyData.depthAll ds) us (PyData.shownAll ds)
theorem rp_all {n : Nat} (ih : ∀ (d : PyData) (v : V) (u : Value), PyData.depth d ≤ n → Dq H v d → RelV v u → PyData.showable d = true → (PyData.shown d).length ≤ sizeLine → RpOk X s u d) :
    ∀ {vs : List V} {us : List Value} {ds : List PyData}, DqAll H vs ds → PyData.depthAll ds ≤ n → Vals vs us → PyData.showableAll ds = true → (∀ t ∈ PyData.shownAll ds, t.length ≤ sizeLine) → RpAll X s us ds
  | [], us, ds, h, _, r, _, _ => by
    cases h
    cases r
    exact ⟨[], [], .nil, (fun _ h => nomatch h), .nil⟩
  | v :: vs, us, ds, h, hd, r, hs, hz => by
    cases h with
    | @cons _ _ d ds a b =>
      cases r with
      | @cons _ u _ us r1 r2 =>
        have hd' : max (PyData.depth d) (PyData.depthAll ds) ≤ n := hd
        have hs' : PyData.showable d = true ∧ PyData.showableAll ds = true := by simpa [PyData.showableAll] using hs
        obtain ⟨as1, bs1, x1, y1, z1⟩ := ih d v u (by omega) a r1 hs'.1 (hz _ (by simp only [PyData.shownAll]; exact List.mem_cons_self))
        obtain ⟨as2, bs2, x2, y2, z2⟩ := rp_all ih b (by omega) r2 hs'.2 (fun t ht => hz t (by simp only [PyData.shownAll]; exact List.mem_cons_of_mem _ ht))
        refine ⟨as1 ++ as2, bs1 ++ bs2, .cons x1 x2, fun b hm => ?_, ?_⟩
        · show ∃ d' as', Reads s.heap (.ref b) d' as' ∧ PyData.depth d' ≤ max (PyData.depth d) (PyData.depthAll ds)
          rcases List.mem_append.mp hm with hm | hm
          · obtain ⟨d', as', r', hd'⟩ := y1 b hm
            exact ⟨d', as', r', by omega⟩
          · obtain ⟨d', as', r', hd'⟩ := y2 b hm
            exact ⟨d', as', r', by omega⟩
        · simp only [PyData.depthAll, PyData.shownAll]
          exact .cons ((z1.more fun b hb => List.mem_append_left bs2 hb).level_le (Nat.le_max_left _ _)) (z2.more_le (fun b hb => List.mem_append_right bs1 hb) (Nat.le_max_right _ _))
theorem pairs_vals {P : Program} {w : World} : ∀ {es : List DictEntry} {kvs : List (Key × Value)}, Pairs (mixKind P w) es kvs → es.map (·.val) = kvs.map (·.2)
  | _, _, .nil => rfl
  | _, _, .cons _ hv hp => by rw [List.map_cons, List.map_cons, hv, pairs_vals hp]
theorem pairs_keys {h : Heap} {P : Program} {w : World} : ∀ {es : List DictEntry} {vs : List (Key × Value)} {ks : List (Key × V)} {ds : List PyData}, Pairs (mixKind P w) es vs → KV ks vs → ks.length = ds.length → ReadsAll h (es.map (·.key)) ((zipK ks ds).map (·.1)) []
  | _, _, [], [], .nil, _, _ => .nil
  | _, _, p :: ks, d :: ds, .cons (kv := q) hk hv hp, r, hl => by
    cases r with
    | cons r1 r2 =>
      have hk' := hk
      rw [← r1.1] at hk'
      exact ReadsAll.cons (enK_reads _ _ hk') (pairs_keys hp r2 (Nat.succ.inj hl))
  | _, _, p :: ks, d :: ds, .nil, r, hl => by cases r
  | _, _, [], [], .cons _ _ _, r, _ => by cases r
  | _, _, [], d :: ds, _, _, hl => nomatch hl
  | _, _, p :: ks, [], _, _, hl => nomatch hl
theorem kv_vals : ∀ {ks : List (Key × V)} {vs : List (Key × Value)}, KV ks vs → Vals (ks.map (·.2)) (vs.map (·.2))
  | _, _, .nil => .nil
  | _, _, .cons r rs => .cons r.2 (kv_vals rs)
theorem dq_rp (I : Inv X pins σ H s) : ∀ (n : Nat) (d : PyData) (v : V) (u : Value), PyData.depth d ≤ n → Dq H v d → RelV v u → PyData.showable d = true → (PyData.shown d).length ≤ sizeLine → RpOk X s u d := by
  intro n
  induction n with
  | zero =>
    intro d v u hn h r hs hz
    cases h with
    | non => cases r; exact ⟨_, [], .none, (fun _ h => nomatch h), by simp only [PyData.shown]; exact .of_is ReprIs.none _ _ _⟩
    | bl b => cases r; exact ⟨_, [], .bool b, (fun _ h => nomatch h), by simp only [PyData.shown]; exact .of_is (ReprIs.bool b) _ _ _⟩
    | int i =>
      obtain ⟨t, rfl⟩ := r
      exact ⟨_, [], .int i t, (fun _ h => nomatch h), by simp only [PyData.shown]; exact .of_is (ReprIs.int t (by simpa [PyData.showable] using hs)) _ _ _⟩
    | str x =>
      obtain ⟨t, rfl⟩ := r
      exact ⟨_, [], .str x t, (fun _ h => nomatch h), by simp only [PyData.shown]; exact .of_is (ReprIs.str x t (by simpa only [PyData.shown] using hz)) _ _ _⟩
    | lst _ _ => exact absurd hn (by simp [PyData.depth])
    | tup _ _ => exact absurd hn (by simp [PyData.depth])
    | dic _ _ _ => exact absurd hn (by simp [PyData.depth])
  | succ n ih =>
    intro d v u hn h r hs hz
    cases h with
    | non => exact ih _ _ _ (Nat.zero_le _) .non r hs hz
    | bl b => exact ih _ _ _ (Nat.zero_le _) (.bl b) r hs hz
    | int i => exact ih _ _ _ (Nat.zero_le _) (.int i) r hs hz
    | str x => exact ih _ _ _ (Nat.zero_le _) (.str x) r hs hz
    | @lst a xs ds h1 h2 =>
      cases (show u = Value.ref a from r)
      obtain ⟨_, its, m, rv, ho⟩ := (show ObjOk X.prog X.w H s.heap a (.lst xs) from I.hok a _ h1)
      have zz : (listText (PyData.shownAll ds)).length ≤ sizeLine := by simpa only [PyData.shown] using hz
      obtain ⟨as, bs, ra, rm, rk⟩ := rp_all ih h2 (by simp only [PyData.depth] at hn; omega) rv (by simpa [PyData.showable] using hs) (fun t ht => Nat.le_trans (listText_mem_le ht) zz)
      have rd : Reads s.heap (.ref a) (.list ds) (a :: as) := .list ho rfl rfl ra
      have na : a ∉ bs := not_mem_of_deeper rd (by simp only [PyData.depth]; omega) rm
      refine ⟨_, a :: bs, rd, ReadAtMost.cons rd (by simp only [PyData.depth]; omega) rm, ?_⟩
      simp only [PyData.depth, PyData.shown]
      cases its with
      | nil =>
        cases ra
        simp only [PyData.shownAll, listText_nil]
        exact ReprK.listEmpty ho rfl rfl
      | cons x l => exact ReprK.list ho rfl rfl na (by simpa using rk.length_eq) (fun i y e => rk.item i y (by simpa using e))
    | @tup a xs ds h1 h2 =>
      cases (show u = Value.ref a from r)
      obtain ⟨_, its, rv, o, ho, oc, m, od⟩ := (show ObjOk X.prog X.w H s.heap a (.tup xs) from I.hok a _ h1)
      have zz : (tupleText (PyData.shownAll ds)).length ≤ sizeLine := by simpa only [PyData.shown] using hz
      obtain ⟨as, bs, ra, rm, rk⟩ := rp_all ih h2 (by simp only [PyData.depth] at hn; omega) rv (by simpa [PyData.showable] using hs) (fun t ht => Nat.le_trans (tupleText_mem_le ht) zz)
      have rd : Reads s.heap (.ref a) (.tuple ds) as := .tuple ho oc od ra
      have na : a ∉ bs := not_mem_of_deeper rd (by simp only [PyData.depth]; omega) rm
      refine ⟨_, a :: bs, rd, ReadAtMost.cons rd (by simp only [PyData.depth]; omega) rm, ?_⟩
      simp only [PyData.depth, PyData.shown]
      exact ReprK.tuple ho oc od na rk
    | @dic a ks ds h1 nd h2 =>
      cases (show u = Value.ref a from r)
      obtain ⟨_, hsys, vs, rkv, dof⟩ := (show ObjOk X.prog X.w H s.heap a (.dK ks) from I.hok a _ h1)
      have kl : ks.length = ds.length := by have := h2.len; rwa [List.length_map] at this
      have zz : (dictText (PyData.shownKv (zipK ks ds))).length ≤ sizeLine := by simpa only [PyData.shown] using hz
      obtain ⟨o, es, ep, ho, hx, hdat, _, hp, _⟩ := dof
      have vv : (zipK ks ds).map (·.2) = ds := zipK_vals kl
      obtain ⟨sh1, sh2⟩ := PyData.showableKv_split _ (show PyData.showableKv (zipK ks ds) = true by simpa [PyData.showable] using hs)
      rw [vv] at sh2
      have rk1 : ReadsAll s.heap (es.toList.map (·.key)) ((zipK ks ds).map (·.1)) [] := pairs_keys hp rkv kl
      have dle := dKv_le ks ds kl
      obtain ⟨as2, b2, ra2, hb2, k2⟩ := rp_all ih h2 (by simp only [PyData.depth] at hn; omega) (kv_vals rkv) sh2 (fun t ht => by
        rw [← vv] at ht
        obtain ⟨p, hp, hl⟩ := PyData.shownKv_val_le _ t ht
        exact Nat.le_trans hl (Nat.le_trans (dictText_mem_le hp) zz))
      obtain ⟨b1, hb1, k1⟩ := ReprAllK.of_readsAll (prog := X.prog) (w := X.w) rk1 sh1 (fun _ z => nomatch z) (fun t ht => let ⟨p, hp, hl⟩ := PyData.shownKv_key_le _ t ht; Nat.le_trans hl (Nat.le_trans (dictText_mem_le hp) zz))
      have ev : es.toList.map (·.val) = vs.map (·.2) := pairs_vals hp
      rw [← ev] at ra2 k2
      have ra2' : ReadsAll s.heap (es.toList.map (·.val)) ((zipK ks ds).map (·.2)) as2 := by rw [vv]; exact ra2
      have rd : Reads s.heap (.ref a) (.dict (zipK ks ds)) (a :: [] ++ as2) := .dict ho hx.1 hdat rk1 ra2'
      have rm : ReadAtMost s.heap (PyData.depthKv (zipK ks ds)) (b1 ++ b2) := (hb1.mono (PyData.depthAll_keys_le _)).append (hb2.mono dle)
      have na : a ∉ b1 ++ b2 := not_mem_of_deeper rd (by simp only [PyData.depth]; omega) rm
      refine ⟨_, a :: (b1 ++ b2), rd, ReadAtMost.cons rd (by simp only [PyData.depth]; omega) rm, ?_⟩
      have EK := ReprEntriesK.of_two es.toList _ _ (k1.more_le (fun b z => List.mem_append_left b2 z) (PyData.depthAll_keys_le (zipK ks ds))) (k2.more_le (fun b z => List.mem_append_right b1 z) dle)
      rw [show PyData.shownAll ds = PyData.shownAll ((zipK ks ds).map (·.2)) by rw [vv], ← PyData.shownKv_eq] at EK
      simp only [PyData.depth, PyData.shown]
      exact ReprK.dict ho hx.1 hdat hsys na EK
theorem rp_list (I : Inv X pins σ H s) {vs : List V} {us : List Value} {ds : List PyData} (h : DqAll H vs ds) (r : Vals vs us) (hs : PyData.showableAll ds = true) (hz : ∀ t ∈ PyData.shownAll ds, t.length ≤ sizeLine) : RpAll X s us ds :=
  rp_all (fun d v u hn => dq_rp I _ d v u hn) h (Nat.le_refl _) r hs hz
def rRepQ : List V → Hp → VK → Prop := fun xs H Q => ∃ (a : Addr) (d : PyData), xs = [.ref a] ∧ Dq H (.ref a) d ∧ PyData.showable d = true ∧ PyData.depth d ≤ 40 ∧ (PyData.shown d).length ≤ sizeLine ∧ Q (.str (PyData.shown d)) H
theorem call_repQ (gd : X.A.guards = some []) (hu : X.A.units + 64 < cLine) : CallR X (.builtin "repr") rRepQ := by
  intro pins s σ H xs us Q I r h
  obtain ⟨a, d, rfl, hd, hs, dep, hz, q⟩ := h
  obtain ⟨u, rfl, ru⟩ := vals1 r
  cases (show u = Value.ref a from ru)
  have fin : ∀ (h' : Heap) (v : Tok) (tk : Nat), (∀ b o, s.heap.get? b = some o → h'.get? b = some o) → EP X pins σ Q (.str (PyData.shown d) v) { s with heap := h', toks := tk } := fun h' v tk hk => ⟨.str _, H, I.kept hk, ⟨v, rfl⟩, q⟩
  cases hd with
  | @lst _ xs ds h1 h2 =>
    obtain ⟨_, its, m, rv, ho⟩ := (show ObjOk X.prog X.w H s.heap a (.lst xs) from I.hok a _ h1)
    have zz : (listText (PyData.shownAll ds)).length ≤ sizeLine := by simpa only [PyData.shown] using hz
    obtain ⟨as, bs, ra, rm, rk⟩ := rp_list I h2 rv (by simpa [PyData.showable] using hs) (fun t ht => Nat.le_trans (listText_mem_le ht) zz)
    have rd : Reads s.heap (.ref a) (.list ds) (a :: as) := .list ho rfl rfl ra
    have na : a ∉ bs := not_mem_of_deeper rd (by simp only [PyData.depth]; omega) rm
    simp only [PyData.depth] at dep
    simp only [PyData.shown] at fin
    cases its with
    | nil =>
      cases ra
      simp only [PyData.shownAll, listText_nil] at fin
      exact call_repr_slot (T := "list") (by omega) ⟨_, ho, rfl⟩ F.slot_list_repr.toG (call_list_repr_empty ⟨_, ho, rfl⟩ ho rfl ⟨_, _, rfl, fin s.heap _ _ fun _ _ e => e⟩)
    | cons x l =>
      exact call_repr_slot (T := "list") (by omega) ⟨_, ho, rfl⟩ F.slot_list_repr.toG (call_list_reprK (h₀ := s.heap) ho rfl rfl na (by simpa using rk.length_eq) (fun i y e => rk.item i y (by simpa using e)) gd (fun b _ => Clear.nil b) (by show X.A.units + 1 + _ < cLine; omega) (fun _ _ e => e) (fun h' v tk hk => ⟨_, _, rfl, fin h' v tk hk⟩) zz)
  | @tup _ xs ds h1 h2 =>
    obtain ⟨_, its, rv, o, ho, oc, m, od⟩ := (show ObjOk X.prog X.w H s.heap a (.tup xs) from I.hok a _ h1)
    have zz : (tupleText (PyData.shownAll ds)).length ≤ sizeLine := by simpa only [PyData.shown] using hz
    obtain ⟨as, bs, ra, rm, rk⟩ := rp_list I h2 rv (by simpa [PyData.showable] using hs) (fun t ht => Nat.le_trans (tupleText_mem_le ht) zz)
    have rd : Reads s.heap (.ref a) (.tuple ds) as := .tuple ho oc od ra
    have na : a ∉ bs := not_mem_of_deeper rd (by simp only [PyData.depth]; omega) rm
    simp only [PyData.depth] at dep
    simp only [PyData.shown] at fin
    exact call_repr_slot (T := "tuple") (by omega) ⟨_, ho, oc⟩ F.slot_tuple_repr (call_tuple_reprK (h₀ := s.heap) ho oc od na rk gd (fun b _ => Clear.nil b) (by show X.A.units + 1 + _ < cLine; omega) (fun _ _ e => e) (fun h' v tk hk => ⟨_, _, rfl, fin h' v tk hk⟩) zz)
  | @dic _ ks ds h1 nd h2 =>
    obtain ⟨_, hsys, vs, rkv, dof⟩ := (show ObjOk X.prog X.w H s.heap a (.dK ks) from I.hok a _ h1)
    have kl : ks.length = ds.length := by have := h2.len; rwa [List.length_map] at this
    have zz : (dictText (PyData.shownKv (zipK ks ds))).length ≤ sizeLine := by simpa only [PyData.shown] using hz
    obtain ⟨o, es, ep, ho, hx, hdat, _, hp, _⟩ := dof
    have vv : (zipK ks ds).map (·.2) = ds := zipK_vals kl
    obtain ⟨sh1, sh2⟩ := PyData.showableKv_split _ (show PyData.showableKv (zipK ks ds) = true by simpa [PyData.showable] using hs)
    rw [vv] at sh2
    have rk1 : ReadsAll s.heap (es.toList.map (·.key)) ((zipK ks ds).map (·.1)) [] := pairs_keys hp rkv kl
    have dle := dKv_le ks ds kl
    obtain ⟨as2, b2, ra2, hb2, k2⟩ := rp_list I h2 (kv_vals rkv) sh2 (fun t ht => by
      rw [← vv] at ht
      obtain ⟨p, hp, hl⟩ := PyData.shownKv_val_le _ t ht
      exact Nat.le_trans hl (Nat.le_trans (dictText_mem_le hp) zz))
    obtain ⟨b1, hb1, k1⟩ := ReprAllK.of_readsAll (prog := X.prog) (w := X.w) rk1 sh1 (fun _ z => nomatch z) (fun t ht => let ⟨p, hp, hl⟩ := PyData.shownKv_key_le _ t ht; Nat.le_trans hl (Nat.le_trans (dictText_mem_le hp) zz))
    have ev : es.toList.map (·.val) = vs.map (·.2) := pairs_vals hp
    rw [← ev] at ra2 k2
    have ra2' : ReadsAll s.heap (es.toList.map (·.val)) ((zipK ks ds).map (·.2)) as2 := by rw [vv]; exact ra2
    have rd : Reads s.heap (.ref a) (.dict (zipK ks ds)) (a :: [] ++ as2) := .dict ho hx.1 hdat rk1 ra2'
    have rm : ReadAtMost s.heap (PyData.depthKv (zipK ks ds)) (b1 ++ b2) := (hb1.mono (PyData.depthAll_keys_le _)).append (hb2.mono dle)
    have na : a ∉ b1 ++ b2 := not_mem_of_deeper rd (by simp only [PyData.depth]; omega) rm
    have EK := ReprEntriesK.of_two es.toList _ _ (k1.more_le (fun b z => List.mem_append_left b2 z) (PyData.depthAll_keys_le (zipK ks ds))) (k2.more_le (fun b z => List.mem_append_right b1 z) dle)
    rw [show PyData.shownAll ds = PyData.shownAll ((zipK ks ds).map (·.2)) by rw [vv], ← PyData.shownKv_eq] at EK
    simp only [PyData.depth] at dep
    simp only [PyData.shown] at fin
    exact call_repr_slot (T := "dict") (idr := "dict.__repr__") (by omega) ⟨o, ho, hx.1⟩ F.slot_dict_repr (call_dict_reprK (h₀ := s.heap) ho hx.1 hdat hsys na EK gd (fun b _ => Clear.nil b) (by show X.A.units + 1 + _ < cLine; omega) (fun _ _ e => e) (fun h' v tk hk => ⟨_, _, rfl, fin h' v tk hk⟩) zz)
end
end VL

set_option Elab.async false
set_option linter.all false
set_option maxRecDepth 100000
set_option maxHeartbeats 4000000
namespace VL
open PySem PySem.Spec PyProof.Rows L2
/-! ### dict comprehensions over any walk; dicts read while locked -/
theorem dc_itQ {J : It} {n : Nat} {G : Hp → Prop} {Y : Nat → Hp → V → Hp → Prop} (w : Walk J n G Y) {g : TG} {tt : TT} {tk tv : TE} {vs : List Nat} {σ : L2.St} {H1 : Hp} {D : Addr} {Qd : Hp → Prop} (Pv : Nat → Hp → Prop) (h0 : Pv 0 (upd H1 D (.dK []))) (hG : ∀ i H, i ≤ n → Pv i H → G H)
    (hs : ∀ i x H H', i < n → Pv i H → Y i H x H' → g x (wipe σ vs) H' fun σ2 H2 => wipe σ2 vs = wipe σ vs ∧ tt σ2 H2 fun b H3 =>
      if b = true then tk σ2 H3 fun y H4 => tv σ2 H4 fun z H5 => ∃ kvs k, y = kV k ∧ H5 D = some (.dK kvs) ∧ kvs.length < sizeLine ∧ Pv (i + 1) (upd H5 D (.dK (putK kvs k z))) else Pv (i + 1) H3) (hd : ∀ H, Pv n H → Qd H) :
    ∃ W : Nat → Nat → Hp → Prop, (∃ m, W 0 m (upd H1 D (.dK []))) ∧ ∀ i m H, W i m H →
      (J.stop i H ∧ Qd H) ∨ (J.go i H ∧ ∃ Nx : Hp → Prop, (∀ H', Nx H' → ∃ m', m' < m ∧ W (i + 1) m' H') ∧ ∀ x H', J.yld i H x H' → g x (wipe σ vs) H' fun σ2 H2 => wipe σ2 vs = wipe σ vs ∧ tt σ2 H2 fun b H3 =>
        if b = true then tk σ2 H3 fun y H4 => tv σ2 H4 fun z H5 => ∃ kvs k, y = kV k ∧ H5 D = some (.dK kvs) ∧ kvs.length < sizeLine ∧ Nx (upd H5 D (.dK (putK kvs k z))) else Nx H3) := by
  refine ⟨fun i m H => m = n - i ∧ i ≤ n ∧ Pv i H, ⟨n, by simp, Nat.zero_le _, h0⟩, ?_⟩
  rintro i m H ⟨rfl, hi, p⟩
  have q := hG i H hi p
  by_cases hlt : i < n
  · refine .inr ⟨w.goes i H hlt q, Pv (i + 1), fun H' p' => ⟨n - (i + 1), by omega, rfl, hlt, p'⟩, fun x H' y => hs i x H H' hlt p (w.yields i H x H' hlt q y)⟩
  · have e : i = n := by omega
    subst e
    exact .inl ⟨w.stops H q, hd H p⟩
theorem dget_fz {H : Hp} {a : Addr} {o : Obj} {kvs : List (Key × V)} {k : Key} (e : H a = some (.frz o (.dK kvs))) : DGet H a (kV k) (valV kvs k) := .inl ⟨kvs, k, .inr ⟨o, e⟩, rfl, rfl⟩
theorem putK_nw {ks : List (Key × V)} {k : Key} {v : V} (h : valV ks k = none) : putK ks k v = ks ++ [(k, v)] := by
  unfold putK
  rw [valV_any, h]
  rfl
theorem valV_out {ks : List (Key × V)} {k : Key} (h : k ∉ ks.map (·.1)) : valV ks k = none := by
  induction ks with
  | nil => rfl
  | cons p ks ih =>
    rw [valV_neg (fun z => h (by rw [List.map_cons, ← z]; exact List.mem_cons_self))]
    exact ih fun z => h (List.mem_cons_of_mem _ z)
theorem valV_nd : ∀ {ks : List (Key × V)} {i : Nat} {k : Key} {v : V}, (ks.map (·.1)).Nodup → ks[i]? = some (k, v) → valV ks k = some v
  | [], _, _, _, _, h => by simp at h
  | p :: ks, 0, k, v, nd, h => by
    simp at h
    subst h
    exact valV_pos rfl
  | p :: ks, i + 1, k, v, nd, h => by
    simp at h
    rw [List.map_cons, List.nodup_cons] at nd
    have hm : k ∈ ks.map (·.1) := List.mem_map.mpr ⟨_, List.mem_of_getElem? h, rfl⟩
    rw [valV_neg (fun z => nd.1 (by rw [z]; exact hm))]
    exact valV_nd nd.2 h
theorem zipK_keys : ∀ {ks ls : List (Key × V)} {ds : List PyData}, ks.map (·.1) = ls.map (·.1) → zipK ks ds = zipK ls ds
  | [], [], _, _ => by unfold zipK; rfl
  | p :: ks, q :: ls, [], h => by unfold zipK; rfl
  | p :: ks, q :: ls, d :: ds, h => by
    rw [List.map_cons, List.map_cons] at h
    injection h with h1 h2
    show (enK p.1, d) :: zipK ks ds = (enK q.1, d) :: zipK ls ds
    rw [h1, zipK_keys h2]
  | [], q :: ls, _, h => nomatch h
  | p :: ks, [], _, h => nomatch h
theorem zipK_app : ∀ {ks ls : List (Key × V)} {ds es : List PyData}, ks.length = ds.length → zipK (ks ++ ls) (ds ++ es) = zipK ks ds ++ zipK ls es
  | [], ls, [], es, _ => rfl
  | p :: ks, ls, d :: ds, es, h => by
    show (enK p.1, d) :: zipK (ks ++ ls) (ds ++ es) = (enK p.1, d) :: zipK ks ds ++ zipK ls es
    rw [zipK_app (Nat.succ.inj h)]
    rfl
theorem enK_inj {a b : Key} (h : enK a = enK b) : a = b := by
  cases a with
  | inl i => cases b with
    | inl j => injection h with h; rw [h]
    | inr y => exact nomatch h
  | inr x => cases b with
    | inl j => exact nomatch h
    | inr y => injection h with h; rw [h]
/-! ### what stands there is one thing -/
theorem dq_det_n {H : Hp} : ∀ (n : Nat) (d d' : PyData) (v : V), PyData.depth d ≤ n → Dq H v d → Dq H v d' → d = d' := by
  intro n
  induction n with
  | zero =>
    intro d d' v hn h h'
    cases h with
    | non => cases h'; rfl
    | bl b => cases h'; rfl
    | int i => cases h'; rfl
    | str x => cases h'; rfl
    | lst _ _ => exact absurd hn (by simp [PyData.depth])
    | tup _ _ => exact absurd hn (by simp [PyData.depth])
    | dic _ _ _ => exact absurd hn (by simp [PyData.depth])
  | succ n ih =>
    have all : ∀ {vs : List V} {ds es : List PyData}, DqAll H vs ds → DqAll H vs es → PyData.depthAll ds ≤ n → ds = es := by
      intro vs
      induction vs with
      | nil => intro ds es h h' _; cases h; cases h'; rfl
      | cons v vs iv =>
        intro ds es h h' hd
        cases h with
        | @cons _ _ d ds a b =>
          cases h' with
          | @cons _ _ e es a' b' =>
            have hd' : max (PyData.depth d) (PyData.depthAll ds) ≤ n := hd
            rw [ih d e v (by omega) a a', iv b b' (by omega)]
    intro d d' v hn h h'
    cases h with
    | non => cases h'; rfl
    | bl b => cases h'; rfl
    | int i => cases h'; rfl
    | str x => cases h'; rfl
    | lst h1 h2 =>
      simp only [PyData.depth] at hn
      cases h' with
      | lst g1 g2 => rw [h1] at g1; cases g1; rw [all h2 g2 (by omega)]
      | tup g1 g2 => rw [h1] at g1; cases g1
      | dic g1 _ g2 => rw [h1] at g1; cases g1
    | tup h1 h2 =>
      simp only [PyData.depth] at hn
      cases h' with
      | lst g1 g2 => rw [h1] at g1; cases g1
      | tup g1 g2 => rw [h1] at g1; cases g1; rw [all h2 g2 (by omega)]
      | dic g1 _ g2 => rw [h1] at g1; cases g1
    | @dic a ks ds h1 nd h2 =>
      have := dKv_le ks ds (by have := h2.len; rwa [List.length_map] at this)
      simp only [PyData.depth] at hn
      cases h' with
      | lst g1 g2 => rw [h1] at g1; cases g1
      | tup g1 g2 => rw [h1] at g1; cases g1
      | dic g1 _ g2 => rw [h1] at g1; cases g1; rw [all h2 g2 (by omega)]
theorem Dq.det {H : Hp} {v : V} {d d' : PyData} (h : Dq H v d) (h' : Dq H v d') : d = d' := dq_det_n _ d d' v (Nat.le_refl _) h h'
/-- a store at what is deeper changes nothing -/
theorem dq_upd_n {H : Hp} {a : Addr} {da : PyData} {o : HO} (ha : Dq H (.ref a) da) : ∀ (n : Nat) (d : PyData) (v : V), PyData.depth d ≤ n → PyData.depth d < PyData.depth da → Dq H v d → Dq (upd H a o) v d := by
  intro n
  induction n with
  | zero =>
    intro d v hn _ h
    cases h with
    | non => exact .non
    | bl b => exact .bl b
    | int i => exact .int i
    | str x => exact .str x
    | lst _ _ => exact absurd hn (by simp [PyData.depth])
    | tup _ _ => exact absurd hn (by simp [PyData.depth])
    | dic _ _ _ => exact absurd hn (by simp [PyData.depth])
  | succ n ih =>
    have all : ∀ {vs : List V} {ds : List PyData}, DqAll H vs ds → PyData.depthAll ds ≤ n → PyData.depthAll ds < PyData.depth da → DqAll (upd H a o) vs ds := by
      intro vs
      induction vs with
      | nil => intro ds h _ _; cases h; exact .nil
      | cons v vs iv =>
        intro ds h hd hl
        cases h with
        | @cons _ _ d ds b c =>
          have hd' : max (PyData.depth d) (PyData.depthAll ds) ≤ n := hd
          have hl' : max (PyData.depth d) (PyData.depthAll ds) < PyData.depth da := hl
          exact .cons (ih d v (by omega) (by omega) b) (iv c (by omega) (by omega))
    intro d v hn hl h
    have ne : ∀ b : Addr, v = .ref b → b ≠ a := fun b e z => by
      subst e
      subst z
      rw [h.det ha] at hl
      exact Nat.lt_irrefl _ hl
    cases h with
    | non => exact .non
    | bl b => exact .bl b
    | int i => exact .int i
    | str x => exact .str x
    | lst h1 h2 =>
      simp only [PyData.depth] at hn hl
      exact .lst (by rw [upd_ne (ne _ rfl)]; exact h1) (all h2 (by omega) (by omega))
    | tup h1 h2 =>
      simp only [PyData.depth] at hn hl
      exact .tup (by rw [upd_ne (ne _ rfl)]; exact h1) (all h2 (by omega) (by omega))
    | @dic b ks ds h1 nd h2 =>
      have := dKv_le ks ds (by have := h2.len; rwa [List.length_map] at this)
      simp only [PyData.depth] at hn hl
      exact .dic (by rw [upd_ne (ne _ rfl)]; exact h1) nd (all h2 (by omega) (by omega))
theorem Dq.upd {H : Hp} {a : Addr} {da d : PyData} {v : V} {o : HO} (h : Dq H v d) (ha : Dq H (.ref a) da) (hl : PyData.depth d < PyData.depth da) : Dq (upd H a o) v d := dq_upd_n ha _ d v (Nat.le_refl _) hl h
theorem mem_depth {d : PyData} : ∀ {ds : List PyData}, d ∈ ds → PyData.depth d ≤ PyData.depthAll ds
  | e :: ds, h => by
    show _ ≤ max (PyData.depth e) (PyData.depthAll ds)
    rcases List.mem_cons.mp h with rfl | h
    · omega
    · have := mem_depth h
      omega
/-! ### reading a dict's data -/
def keyB : PyData → Key → Bool
  | .int i, .inl j => decide (i = j)
  | .str x, .inr y => decide (x = y)
  | _, _ => false
theorem keyB_en (a b : Key) : keyB (enK a) b = decide (a = b) := by
  cases a with
  | inl i => cases b with
    | inl j => show decide (i = j) = decide (Sum.inl i = Sum.inl j); by_cases e : i = j <;> simp [e]
    | inr y => show false = decide (Sum.inl i = Sum.inr y); simp
  | inr x => cases b with
    | inl j => show false = decide (Sum.inr x = Sum.inl j); simp
    | inr y => show decide (x = y) = decide (Sum.inr x = Sum.inr y); by_cases e : x = y <;> simp [e]
def lkp : List (PyData × PyData) → Key → Option PyData
  | [], _ => none
  | p :: r, k => if keyB p.1 k = true then some p.2 else lkp r k
theorem lkp_at {H : Hp} {k : Key} : ∀ {ks : List (Key × V)} {ds : List PyData}, DqAll H (ks.map (·.2)) ds → (lkp (zipK ks ds) k = none ∧ valV ks k = none) ∨ ∃ d v, lkp (zipK ks ds) k = some d ∧ valV ks k = some v ∧ Dq H v d
  | [], ds, h => by
    cases h
    exact .inl ⟨rfl, rfl⟩
  | p :: ks, _, .cons (d := d) (ds := ds) a b => by
    have e : lkp (zipK (p :: ks) (d :: ds)) k = if keyB (enK p.1) k = true then some d else lkp (zipK ks ds) k := rfl
    rw [e, keyB_en]
    by_cases q : p.1 = k
    · rw [if_pos (decide_eq_true q), valV_pos q]
      exact .inr ⟨d, p.2, rfl, rfl, a⟩
    · rw [if_neg (by simp [q]), valV_neg q]
      exact lkp_at b
theorem dq_dict {H : Hp} {v : V} {kvs : List (PyData × PyData)} (h : Dq H v (.dict kvs)) : ∃ a ks, v = .ref a ∧ H a = some (.dK ks) ∧ (ks.map (·.1)).Nodup ∧ ks.length = kvs.length ∧
    ∀ k, (lkp kvs k = none ∧ valV ks k = none) ∨ ∃ d v, lkp kvs k = some d ∧ valV ks k = some v ∧ Dq H v d := by
  cases h with
  | @dic a ks ds h1 nd h2 =>
    refine ⟨a, ks, rfl, h1, nd, ?_, fun k => lkp_at h2⟩
    have e : ks.length = ds.length := by have := h2.len; rwa [List.length_map] at this
    have : ((zipK ks ds).map (·.2)).length = ds.length := by rw [zipK_vals e]
    rw [List.length_map] at this
    omega
theorem dq_list {H : Hp} {v : V} {ds : List PyData} (h : Dq H v (.list ds)) : ∃ a xs, v = .ref a ∧ H a = some (.lst xs) ∧ DqAll H xs ds := by
  cases h with
  | @lst a xs _ h1 h2 => exact ⟨a, xs, rfl, h1, h2⟩
theorem dq_tup {H : Hp} {v : V} {ds : List PyData} (h : Dq H v (.tuple ds)) : ∃ a xs, v = .ref a ∧ H a = some (.tup xs) ∧ DqAll H xs ds := by
  cases h with
  | @tup a xs _ h1 h2 => exact ⟨a, xs, rfl, h1, h2⟩
theorem dqAll_at {H : Hp} : ∀ {vs : List V} {ds : List PyData}, DqAll H vs ds → ∀ {i : Nat} {d : PyData}, ds[i]? = some d → ∃ v, vs[i]? = some v ∧ Dq H v d
  | _, _, .nil, i, d, h => by simp at h
  | _, _, .cons a b, 0, d, h => by
    simp at h
    subst h
    exact ⟨_, rfl, a⟩
  | _, _, .cons a b, i + 1, d, h => by
    simp at h
    obtain ⟨v, h1, h2⟩ := dqAll_at b h
    exact ⟨v, by simpa using h1, h2⟩
theorem dqAll_ap {H : Hp} : ∀ {vs ws : List V} {ds es : List PyData}, DqAll H vs ds → DqAll H ws es → DqAll H (vs ++ ws) (ds ++ es)
  | _, _, _, _, .nil, q => q
  | _, _, _, _, .cons a b, q => .cons a (dqAll_ap b q)
/-! ### small data -/
structure Small (c k : Nat) (d : PyData) : Prop where
  sh : PyData.showable d = true
  dp : PyData.depth d ≤ k
  ln : (PyData.shown d).length ≤ c
theorem Small.mono {c k c' k' : Nat} {d : PyData} (h : Small c k d) (h1 : c ≤ c') (h2 : k ≤ k') : Small c' k' d := ⟨h.sh, Nat.le_trans h.dp h2, Nat.le_trans h.ln h1⟩
theorem tupText_le (ts : List Str) : (tupleText ts).length ≤ 3 + piled ts := by
  have e1 : ((("(" : String) : Str)).length = 1 := rfl
  have e3 : (((if ts.length == 1 then ",)" else ")" : String) : Str)).length ≤ 2 := by split <;> decide
  unfold tupleText
  rw [strApp, strApp, e1]
  by_cases h : ts = []
  · subst h
    have : (Str.join ", " ([] : List Str)).length = 0 := rfl
    omega
  · have := join_length_add ts h
    omega
theorem shAll_mem : ∀ {ds : List PyData}, (∀ d ∈ ds, PyData.showable d = true) → PyData.showableAll ds = true
  | [], _ => rfl
  | d :: ds, h => by
    show (PyData.showable d && PyData.showableAll ds) = true
    rw [h d List.mem_cons_self, shAll_mem fun x hx => h x (List.mem_cons_of_mem _ hx)]
    rfl
theorem dpAll_mem {k : Nat} : ∀ {ds : List PyData}, (∀ d ∈ ds, PyData.depth d ≤ k) → PyData.depthAll ds ≤ k
  | [], _ => Nat.zero_le _
  | d :: ds, h => by
    show max (PyData.depth d) (PyData.depthAll ds) ≤ k
    have := h d List.mem_cons_self
    have := dpAll_mem fun x hx => h x (List.mem_cons_of_mem _ hx)
    omega
theorem shownAll_len : ∀ ds : List PyData, (PyData.shownAll ds).length = ds.length
  | [] => rfl
  | d :: ds => by
    show (PyData.shownAll ds).length + 1 = _
    rw [shownAll_len ds]
    rfl
theorem shownAll_mem : ∀ {ds : List PyData} {t : Str}, t ∈ PyData.shownAll ds → ∃ d ∈ ds, t = PyData.shown d
  | d :: ds, t, h => by
    rcases List.mem_cons.mp (show t ∈ PyData.shown d :: PyData.shownAll ds from h) with rfl | h
    · exact ⟨d, List.mem_cons_self, rfl⟩
    · obtain ⟨e, h1, h2⟩ := shownAll_mem h
      exact ⟨e, List.mem_cons_of_mem _ h1, h2⟩
theorem piledAll {c k : Nat} {ds : List PyData} (h : ∀ d ∈ ds, Small c k d) : piled (PyData.shownAll ds) ≤ ds.length * (c + 2) := by
  have := piled_le (c := c) (ts := PyData.shownAll ds) fun t ht => by
    obtain ⟨d, hd, rfl⟩ := shownAll_mem ht
    exact (h d hd).ln
  rwa [shownAll_len] at this
theorem small_list {c k n : Nat} {ds : List PyData} (h : ∀ d ∈ ds, Small c k d) (hl : ds.length ≤ n) : Small (2 + n * (c + 2)) (k + 1) (.list ds) := by
  refine ⟨?_, ?_, ?_⟩
  · show PyData.showableAll ds = true
    exact shAll_mem fun d hd => (h d hd).sh
  · show PyData.depthAll ds + 1 ≤ k + 1
    have := dpAll_mem fun d hd => (h d hd).dp
    omega
  · show (listText (PyData.shownAll ds)).length ≤ _
    have h1 := listText_le (PyData.shownAll ds)
    have h2 := piledAll h
    have h3 := Nat.mul_le_mul_right (c + 2) hl
    omega
theorem small_tup {c k n : Nat} {ds : List PyData} (h : ∀ d ∈ ds, Small c k d) (hl : ds.length ≤ n) : Small (3 + n * (c + 2)) (k + 1) (.tuple ds) := by
  refine ⟨?_, ?_, ?_⟩
  · show PyData.showableAll ds = true
    exact shAll_mem fun d hd => (h d hd).sh
  · show PyData.depthAll ds + 1 ≤ k + 1
    have := dpAll_mem fun d hd => (h d hd).dp
    omega
  · show (tupleText (PyData.shownAll ds)).length ≤ _
    have h1 := tupText_le (PyData.shownAll ds)
    have h2 := piledAll h
    have h3 := Nat.mul_le_mul_right (c + 2) hl
    omega
theorem small_dict {c k n : Nat} {kvs : List (PyData × PyData)} (h : ∀ p ∈ kvs, Small c k p.1 ∧ Small c k p.2) (hl : kvs.length ≤ n) : Small (2 + n * (2 * c + 4)) (k + 1) (.dict kvs) := by
  have sh : ∀ L : List (PyData × PyData), (∀ p ∈ L, Small c k p.1 ∧ Small c k p.2) → PyData.showableKv L = true ∧ PyData.depthKv L ≤ k ∧ piled (PyData.shownKv L) ≤ L.length * (2 * c + 4) := by
    intro L
    induction L with
    | nil => exact fun _ => ⟨rfl, Nat.zero_le _, by simp [PyData.shownKv, piled]⟩
    | cons p L ih =>
      intro hp
      obtain ⟨i1, i2, i3⟩ := ih fun x hx => hp x (List.mem_cons_of_mem _ hx)
      obtain ⟨a, b⟩ := hp p List.mem_cons_self
      refine ⟨?_, ?_, ?_⟩
      · show (PyData.showable p.1 && PyData.showable p.2 && PyData.showableKv L) = true
        rw [a.sh, b.sh, i1]
        rfl
      · show max (max (PyData.depth p.1) (PyData.depth p.2)) (PyData.depthKv L) ≤ k
        have := a.dp
        have := b.dp
        omega
      · have e : PyData.shownKv (p :: L) = (PyData.shown p.1 ++ (": " : Str) ++ PyData.shown p.2) :: PyData.shownKv L := rfl
        have e2 : piled (PyData.shownKv (p :: L)) = (PyData.shown p.1 ++ (": " : Str) ++ PyData.shown p.2).length + 2 + piled (PyData.shownKv L) := by rw [e]; simp [piled]
        have e3 : ((": " : String) : Str).length = 2 := rfl
        have := a.ln
        have := b.ln
        have e4 : (p :: L).length * (2 * c + 4) = L.length * (2 * c + 4) + (2 * c + 4) := by rw [List.length_cons, Nat.succ_mul]
        rw [e2, strApp, strApp]
        omega
  obtain ⟨i1, i2, i3⟩ := sh kvs h
  refine ⟨i1, ?_, ?_⟩
  · show PyData.depthKv kvs + 1 ≤ k + 1
    omega
  · show (dictText (PyData.shownKv kvs)).length ≤ _
    have h1 := dictText_le (PyData.shownKv kvs)
    have h3 := Nat.mul_le_mul_right (2 * c + 4) hl
    omega
end VL

set_option Elab.async false
set_option linter.all false
set_option maxRecDepth 100000
set_option maxHeartbeats 4000000
namespace VL
open PySem PySem.Spec PyProof.Rows L2
/-! ### copies of values: what may be copied, what is new -/
mutual
def cpy : PyData → Bool
  | .list ds => decide (ds.length ≤ 1000) && cpyAll ds
  | .dict kvs => decide (kvs.length ≤ 1000) && cpyKv kvs
  | .tuple _ => false
  | .none | .bool _ | .int _ | .str _ => true
def cpyAll : List PyData → Bool
  | [] => true
  | d :: ds => cpy d && cpyAll ds
def cpyKv : List (PyData × PyData) → Bool
  | [] => true
  | (_, d) :: r => cpy d && cpyKv r
end
theorem cpyAll_mem : ∀ {ds : List PyData}, cpyAll ds = true → ∀ d ∈ ds, cpy d = true
  | e :: ds, h, d, hd => by
    have h' : cpy e = true ∧ cpyAll ds = true := by simpa [cpyAll] using h
    rcases List.mem_cons.mp hd with rfl | hd
    · exact h'.1
    · exact cpyAll_mem h'.2 d hd
theorem cpyKv_zip : ∀ {ks : List (Key × V)} {ds : List PyData}, ks.length = ds.length → cpyKv (zipK ks ds) = true → cpyAll ds = true
  | [], [], _, _ => rfl
  | p :: ks, d :: ds, hl, h => by
    have h' : cpy d = true ∧ cpyKv (zipK ks ds) = true := by
      have e : cpyKv (zipK (p :: ks) (d :: ds)) = (cpy d && cpyKv (zipK ks ds)) := rfl
      rw [e] at h
      simpa using h
    show (cpy d && cpyAll ds) = true
    rw [h'.1, cpyKv_zip (Nat.succ.inj hl) h'.2]
    rfl
/-- what has come since H -/
def newer (H H' : Hp) : Hp := fun b => match H b with
  | none => H' b
  | some _ => none
theorem newer_some {H H' : Hp} {b : Addr} {o : HO} (h : newer H H' b = some o) : H b = none ∧ H' b = some o := by
  unfold newer at h
  cases e : H b with
  | none => rw [e] at h; exact ⟨rfl, h⟩
  | some u => rw [e] at h; exact nomatch h
theorem newer_mk {H H' : Hp} {b : Addr} {o : HO} (h1 : H b = none) (h2 : H' b = some o) : newer H H' b = some o := by
  unfold newer
  rw [h1]
  exact h2
theorem newer_same (H H' : Hp) : Same (newer H H') H' := fun b o h => (newer_some h).2
def spCopy (n : Nat) : Sp := fun vs H Q _ => ∃ (v : V) (d : PyData), vs = [v] ∧ Dq H v d ∧ cpy d = true ∧ PyData.depth d ≤ n ∧ ∀ v' H', Same H H' → Dq (newer H H') v' d → Q v' H'
end VL

set_option Elab.async false
set_option linter.all false
set_option maxRecDepth 100000
set_option maxHeartbeats 4000000
namespace VL
open PySem PySem.Spec PyProof.Rows L2
/-! ### a part of a heap, and a few objects beside it that change -/
structure Sb (G H : Hp) (M : List (Addr × HO)) : Prop where
  s : Same G H
  m : ∀ p ∈ M, G p.1 = none ∧ H p.1 = some p.2
  nd : (M.map (·.1)).Nodup
def joinH (G N : Hp) : Hp := fun b => match G b with
  | some o => some o
  | none => N b
theorem joinH_l {G N : Hp} : Same G (joinH G N) := fun b o e => by
  unfold joinH
  rw [e]
theorem joinH_r {G H H' : Hp} (s : Same G H) : Same (newer H H') (joinH G (newer H H')) := fun b o e => by
  obtain ⟨z, _⟩ := newer_some e
  unfold joinH
  cases g : G b with
  | none => exact e
  | some u => rw [s _ _ g] at z; exact nomatch z
theorem Sb.alloc {G H : Hp} {M : List (Addr × HO)} {t : Addr} {o : HO} (S : Sb G H M) (h : H t = none) : Sb (upd G t o) (upd H t o) M := by
  refine ⟨fun b u e => ?_, fun p hp => ?_, S.nd⟩
  · by_cases z : b = t
    · subst z
      rw [upd_same] at e ⊢
      exact e
    · rw [upd_ne z] at e ⊢
      exact S.s _ _ e
  · obtain ⟨h1, h2⟩ := S.m p hp
    have n : p.1 ≠ t := ne_of_none h2 h
    rw [upd_ne n, upd_ne n]
    exact ⟨h1, h2⟩
theorem Sb.gnone {G H : Hp} {M : List (Addr × HO)} {t : Addr} (S : Sb G H M) (h : H t = none) : G t = none := Same.free S.s h
theorem Sb.grow {G H : Hp} {M : List (Addr × HO)} {t : Addr} {o : HO} (S : Sb G H M) (h : H t = none) : Same G (upd G t o) := fun b u e => by rw [upd_ne (ne_of_none e (S.gnone h))]; exact e
theorem Sb.call {G H H' : Hp} {M : List (Addr × HO)} (S : Sb G H M) (s : Same H H') : Sb (joinH G (newer H H')) H' M := by
  refine ⟨fun b u e => ?_, fun p hp => ?_, S.nd⟩
  · unfold joinH at e
    cases g : G b with
    | some o => rw [g] at e; rw [← e]; exact s _ _ (S.s _ _ g)
    | none => rw [g] at e; exact (newer_some e).2
  · obtain ⟨h1, h2⟩ := S.m p hp
    refine ⟨?_, s _ _ h2⟩
    unfold joinH
    rw [h1]
    show newer H H' p.1 = none
    unfold newer
    rw [h2]
theorem Sb.add {G H : Hp} {M : List (Addr × HO)} {t : Addr} {o : HO} (S : Sb G H M) (h : H t = none) : Sb G (upd H t o) ((t, o) :: M) := by
  refine ⟨fun b u e => by rw [upd_ne (ne_of_none (S.s _ _ e) h)]; exact S.s _ _ e, fun p hp => ?_, ?_⟩
  · rcases List.mem_cons.mp hp with rfl | hp
    · exact ⟨S.gnone h, upd_same⟩
    · obtain ⟨h1, h2⟩ := S.m p hp
      exact ⟨h1, by rw [upd_ne (ne_of_none h2 h)]; exact h2⟩
  · rw [List.map_cons, List.nodup_cons]
    refine ⟨fun hm => ?_, S.nd⟩
    obtain ⟨p, hp, e⟩ := List.mem_map.mp hm
    have := (S.m p hp).2
    rw [e] at this
    rw [show H (t, o).1 = none from h] at this
    exact nomatch this
theorem Sb.put {G H : Hp} {M : List (Addr × HO)} {t : Addr} {o : HO} {u : HO} (S : Sb G H ((t, o) :: M)) : Sb G (upd H t u) ((t, u) :: M) := by
  have nd := S.nd
  rw [List.map_cons, List.nodup_cons] at nd
  have gt := (S.m (t, o) List.mem_cons_self).1
  refine ⟨fun b v e => by rw [upd_ne (ne_of_none e gt)]; exact S.s _ _ e, fun p hp => ?_, ?_⟩
  · rcases List.mem_cons.mp hp with rfl | hp
    · exact ⟨gt, upd_same⟩
    · obtain ⟨h1, h2⟩ := S.m p (List.mem_cons_of_mem _ hp)
      have n : p.1 ≠ t := fun z => nd.1 (List.mem_map.mpr ⟨p, hp, z⟩)
      exact ⟨h1, by rw [upd_ne n]; exact h2⟩
  · rw [List.map_cons, List.nodup_cons]
    exact nd
theorem Sb.swap {G H : Hp} {M : List (Addr × HO)} {p q : Addr × HO} (S : Sb G H (p :: q :: M)) : Sb G H (q :: p :: M) := by
  have nd := S.nd
  refine ⟨S.s, fun r hr => S.m r ?_, ?_⟩
  · rcases List.mem_cons.mp hr with rfl | hr
    · exact List.mem_cons_of_mem _ List.mem_cons_self
    · rcases List.mem_cons.mp hr with rfl | hr
      · exact List.mem_cons_self
      · exact List.mem_cons_of_mem _ (List.mem_cons_of_mem _ hr)
  · simp only [List.map_cons, List.nodup_cons, List.mem_cons] at nd ⊢
    refine ⟨fun z => ?_, fun z => nd.1 (.inr z), nd.2.2⟩
    rcases z with z | z
    · exact nd.1 (.inl z.symm)
    · exact nd.2.1 z
theorem Sb.drop {G H : Hp} {M : List (Addr × HO)} {t : Addr} {o : HO} (S : Sb G H ((t, o) :: M)) : Sb (upd G t o) H M ∧ Same G (upd G t o) := by
  have nd := S.nd
  rw [List.map_cons, List.nodup_cons] at nd
  obtain ⟨gt, ht⟩ := S.m (t, o) List.mem_cons_self
  refine ⟨⟨fun b u e => ?_, fun p hp => ?_, nd.2⟩, fun b u e => by rw [upd_ne (ne_of_none e gt)]; exact e⟩
  · by_cases z : b = t
    · subst z
      rw [upd_same] at e
      rw [← e]
      exact ht
    · rw [upd_ne z] at e
      exact S.s _ _ e
  · obtain ⟨h1, h2⟩ := S.m p (List.mem_cons_of_mem _ hp)
    have n : p.1 ≠ t := fun z => nd.1 (List.mem_map.mpr ⟨p, hp, z⟩)
    exact ⟨by rw [upd_ne n]; exact h1, h2⟩
theorem Sb.hd {G H : Hp} {M : List (Addr × HO)} {p : Addr × HO} (S : Sb G H (p :: M)) : H p.1 = some p.2 := (S.m p List.mem_cons_self).2
theorem Sb.hd2 {G H : Hp} {M : List (Addr × HO)} {p q : Addr × HO} (S : Sb G H (q :: p :: M)) : H p.1 = some p.2 := (S.m p (List.mem_cons_of_mem _ List.mem_cons_self)).2
theorem Sb.nil {H : Hp} : Sb H H [] := ⟨Same.refl _, (fun _ h => nomatch h), List.nodup_nil⟩
end VL

set_option Elab.async false
set_option linter.all false
set_option maxRecDepth 100000
set_option maxHeartbeats 4000000
namespace VL
open PySem PySem.Spec PyProof.Rows L2

/-! ### what the text has: methods with keyword-only parameters, properties, written tuples, own exceptions without a text of their own -/
def WrT (K : PySem.W.Frag) (a : Addr) (xs : List V) : Prop := ∃ (o : Obj) (its : Array Value) (n : Nat), K.lookup a = some o ∧ o.cls = .type "tuple" ∧ o.data = .seq its n ∧ its.size ≤ sizeLine ∧ Vals xs its.toList ∧ o.dict = none
abbrev catG {α : Type} (us ws : List α) : List α := us ++ ws
def MethKE (K : PySem.W.Frag) (C : Addr) (x qual : Str) (st : Stmt) (ps : List Str) (n : Nat) (ks : List Str) : Prop :=
  ∃ (f : Addr) (fd : FuncData), Fun K x qual st f fd ∧ Meth K C x f ∧ KBn K fd ps n ks catG catG
def PropE (K : PySem.W.Frag) (C : Addr) (x qual : Str) (st : Stmt) : Prop := ∃ (p g : Addr) (fd : FuncData), PropOf K C x p g ∧ Fun K x qual st g fd ∧ Binds K fd ["self"] []
structure ExT (K : PySem.W.Frag) (mg : Str → Option Value) (x : Str) (D : Addr) : Prop where
  g : mg x = some (.ref D)
  xx : PySem.W.excIn K D [.type "ValueError", .type "Exception", .type "BaseException", .type "object"] "ValueError.__new__" = true
  kp : PySem.W.keepIn K (.ref D) = true
  bP : PySem.W.subIn K (.ref D) (.type "BaseException") = some true
  tP : PySem.W.typeIn K (.ref D) = some (.type "type")
  em : PySem.W.exmOne K (.ref D) (.ref D) = some true
  ec : ExcC K D
theorem fun_kbn {K : PySem.W.Frag} {x qual : Str} {st : Stmt} {f : Addr} {fd : FuncData} {ps : List Str} (F : Fun K x qual st f fd) (n : Nat) (ks : List Str)
    (h : ∀ (kV doc pm : Value) (an : Option Addr) (cdv ct : Value) (us ws : List Value), us.length = n → ws.length = ks.length → bindArgs (PySem.W.fnOf x qual (defArgs st) (defBody st) (defScope st) .none kV doc pm an cdv ct) ⟨us, ks.zip ws⟩ = pure (ps.zip (us ++ ws))) :
    KBn K fd ps n ks catG catG := by
  obtain ⟨oc, od, kV, doc, pm, an, cdv, ct, osl, rfl, lk, hcd⟩ := F.ex
  exact ⟨fun s us ws X l1 l2 => .of_eq (h kV doc pm an cdv ct us ws l1 l2), fun r1 r2 => r1.append r2⟩
/-! ### as callers see them -/
structure MetK (P : Program) (w : World) (K : PySem.W.Frag) (mg : Str → Option Value) (base : Heap) (k : Nat) (C : Addr) (m : Str) (sp : Sp) (n : Nat) (ks : List Str) (gV : List V → List V → List V) : Prop where
  ex : ∃ (f : Addr) (fd : FuncData) (ps : List Str) (g : List Value → List Value → List Value), Cls K C ∧ Meth K C m f ∧ FnOk P w K mg base CX0 k f fd ps sp ∧ KBn K fd ps n ks g gV
structure Pro (P : Program) (w : World) (K : PySem.W.Frag) (mg : Str → Option Value) (base : Heap) (k : Nat) (C : Addr) (x : Str) (sp : Sp) : Prop where
  ex : ∃ (p g : Addr) (fd : FuncData), Cls K C ∧ PropOf K C x p g ∧ FnOk P w K mg base CX0 k g fd ["self"] sp ∧ Binds K fd ["self"] []
/-- o.m(.., k = v, ..): n is one more than the values written -/
def tMethK (C : Addr) (m : Str) (sp : Sp) (n kn : Nat) (gV : List V → List V → List V) (ta : TE) (t tk : TA) : TE := fun σ H Q => ta σ H fun x H1 => ∃ a dx fs, x = .ref a ∧ H1 a = some (.ins C dx fs) ∧ fs.lookup m = none ∧ t σ H1 fun vs H2 => tk σ H2 fun zs H3 => vs.length + 1 = n ∧ zs.length = kn ∧ sp (gV (.ref a :: vs) zs) H3 Q E0
section
variable {X : Cx} {k j n : Nat} {C : Addr} {m x : Str} {ks : List Str} {sp : Sp} {pos apos : Pos} {e o : Expr} {es : List Expr} {kws : List Keyword} {ta : TE} {t tk : TA} {gV : List V → List V → List V}
theorem pe_mtK {pl : Sem Bool} (c : MetK X.prog X.w X.K X.mg X.base k C m sp n ks gV) (hr : Room j X.A) (hk : k ≤ j) (he : PE X o ta) (ha : PA X (e :: es) t) (hkw : PK X kws tk)
    (hall : (backToKw pos (keywordEach kws X.env)).all (·.1.isSome) = true := by rfl) (hks : (backToKw pos (keywordEach kws X.env)).filterMap (·.1) = ks := by rfl)
    (hst : starEach (e :: es) X.env = (false, eval e X.env) :: starEach es X.env := by rfl)
    (hpl : ((backTo pos (starEach (e :: es) X.env)).any (·.1) || (backToKw pos (keywordEach kws X.env)).any (·.1.isNone)) = false := by rfl)
    (ht : eval (.Call (.Attribute o m apos) (e :: es) kws pos) X.env = (do
      let ov ← eval o X.env
      standAt apos.atName
      let (f, first) ← holding [ov] (getMethod ov m pl)
      callWith pos f first (backTo pos (starEach (e :: es) X.env)) (backToKw pos (keywordEach kws X.env))) := by rfl) :
    PE X (.Call (.Attribute o m apos) (e :: es) kws pos) (tMethK C m sp n ks.length gV ta t tk) := by
  obtain ⟨f, fd, ps, g, hc, hm, F, b⟩ := c.ex
  refine ⟨fun pins s σ H Q I h => ?_⟩
  refine PySem.W.methodCall_KW (pl := pl) (thn (he.run pins s σ H _ I h) fun u s1 ⟨x, H1, I1, rx, a, dx, fs, ex, ea, l, q⟩ => ?_) ht
  subst ex
  obtain rfl : u = Value.ref a := rx
  refine getmeth_ok I1 ea hc hm l ?_
  refine PySem.W.callWith_KW (first := [.ref a]) (h₀ := X.base) I.ok.mod.kin hm.kp hall (thn (ha.run pos pins s1 σ H1 _ I1 q) fun us s2 ⟨vs, H2, I2, r, q2⟩ => ?_) hpl hst
  refine thn (hkw.run pos pins s2 σ H2 _ I2 q2) fun ws s3 ⟨zs, H3, I3, rz, l1, l2, q3⟩ => ⟨I3.kIn, ?_⟩
  rw [hks]
  exact run_fnN (us := .ref a :: us) (vs := .ref a :: vs) F (hr.mono hk) b pass0 I3 (.cons rfl r) rz l1 l2 q3
theorem pe_mtK0 {pl : Sem Bool} (c : MetK X.prog X.w X.K X.mg X.base k C m sp n ks gV) (hr : Room j X.A) (hk : k ≤ j) (he : PE X o ta) (hkw : PK X kws tk)
    (hall : (backToKw pos (keywordEach kws X.env)).all (·.1.isSome) = true := by rfl) (hks : (backToKw pos (keywordEach kws X.env)).filterMap (·.1) = ks := by rfl)
    (hpl : ((backTo pos (starEach [] X.env)).any (·.1) || (backToKw pos (keywordEach kws X.env)).any (·.1.isNone)) = false := by rfl)
    (ht : eval (.Call (.Attribute o m apos) [] kws pos) X.env = (do
      let ov ← eval o X.env
      standAt apos.atName
      let (f, first) ← holding [ov] (getMethod ov m pl)
      callWith pos f first (backTo pos (starEach [] X.env)) (backToKw pos (keywordEach kws X.env))) := by rfl) :
    PE X (.Call (.Attribute o m apos) [] kws pos) (tMethK C m sp n ks.length gV ta tNil tk) := by
  obtain ⟨f, fd, ps, g, hc, hm, F, b⟩ := c.ex
  refine ⟨fun pins s σ H Q I h => ?_⟩
  refine PySem.W.methodCall_KW (pl := pl) (thn (he.run pins s σ H _ I h) fun u s1 ⟨x, H1, I1, rx, a, dx, fs, ex, ea, l, q⟩ => ?_) ht
  subst ex
  obtain rfl : u = Value.ref a := rx
  refine getmeth_ok I1 ea hc hm l ?_
  refine PySem.W.callWith_KW0 (first := [.ref a]) (h₀ := X.base) I.ok.mod.kin hm.kp hall ?_ hpl
  refine thn (hkw.run pos pins s1 σ H1 _ I1 q) fun ws s3 ⟨zs, H3, I3, rz, l1, l2, q3⟩ => ⟨I3.kIn, ?_⟩
  rw [hks]
  exact run_fnN (us := [.ref a]) (vs := [.ref a]) F (hr.mono hk) b pass0 I3 (.cons rfl .nil) rz l1 l2 q3
theorem pe_pr (c : Pro X.prog X.w X.K X.mg X.base k C x sp) (hr : Room j X.A) (hk : k + 1 ≤ j) (he : PE X e ta) (hab : attributeBase e x X.env (eval e X.env) = eval e X.env := by rfl) : PE X (.Attribute e x pos) (tProp C sp [] E0 ta) := by
  obtain ⟨p, g, fd, hc, hp, F, b⟩ := c.ex
  exact pe_prop he hc hp F (hr.mono hk) b .nil pass0 hab
end
section
variable {P : Program} {w : World} {K : PySem.W.Frag} {mg : Str → Option Value} {base : Heap}
theorem metK_of {C : Addr} {x qual : Str} {st : Stmt} {ps ks N : List Str} {k n : Nat} {sp : Sp} (D : MethKE K C x qual st ps n ks) (c : Cls K C) (S : FnScope N ps (defScope st)) (len : ∀ vs H Q E, sp vs H Q E → vs.length = ps.length)
    (hbody : ∀ (f : Addr) (cdv : Value) (A : Around) (outer : List Env) (s : Shared) (H : Hp) (vs : List V) (Q : VK) (E : XK), Room k (A.deeper (envOfC qual (defScope st) s.heap.objs.size f cdv)) → sp vs H Q E →
      ∃ t, PSs (cxOf CX0 P w K mg base N qual (defScope st) f cdv A outer s H E).nox (defBody st) t ∧ t { nx := fun _ H' => Q .non H', rt := Q } (start N vs) H) : MetK P w K mg base (k + 1) C x sp n ks catG := by
  obtain ⟨f, fd, F, hm, b⟩ := D
  exact ⟨f, fd, ps, _, c, hm, F.ok S len (hbody f), b⟩
theorem pro_of {C : Addr} {x qual : Str} {st : Stmt} {N : List Str} {k : Nat} {sp : Sp} (D : PropE K C x qual st) (c : Cls K C) (S : FnScope N ["self"] (defScope st)) (len : ∀ vs H Q E, sp vs H Q E → vs.length = 1)
    (hbody : ∀ (f : Addr) (cdv : Value) (A : Around) (outer : List Env) (s : Shared) (H : Hp) (vs : List V) (Q : VK) (E : XK), Room k (A.deeper (envOfC qual (defScope st) s.heap.objs.size f cdv)) → sp vs H Q E →
      ∃ t, PSs (cxOf CX0 P w K mg base N qual (defScope st) f cdv A outer s H E).nox (defBody st) t ∧ t { nx := fun _ H' => Q .non H', rt := Q } (start N vs) H) : Pro P w K mg base (k + 1) C x sp := by
  obtain ⟨p, g, fd, hp, F, b⟩ := D
  exact ⟨p, g, fd, c, hp, F.ok S len (hbody g), b⟩
end
end VL

set_option Elab.async false
set_option linter.all false
set_option maxRecDepth 100000
set_option maxHeartbeats 4000000
namespace VL
open PySem PySem.Spec PyProof.Rows L2
/-! ### rules whose readings speak of K, with K told: within comprehensions and except suites -/
theorem u65 {A : Around} {k : Nat} (r : Room k A) : A.units + 65 < cLine := by have := r.un; omega
section
variable {X : Cx} {K : PySem.W.Frag} {e o : Expr} {f : Str} {pos : Pos} {ta : TE}
theorem pe_fldS (hK : X.K = K) (he : PE X e ta) (hb : attributeBase e f X.env (eval e X.env) = eval e X.env) : PE X (.Attribute e f pos) (tFld K ta f) := by subst hK; exact pe_fld he hb
theorem pe_conS (hK : X.K = K) (he : PE X e ta) (hb : attributeBase e f X.env (eval e X.env) = eval e X.env) : PE X (.Attribute e f pos) (tCon K ta f) := by subst hK; exact pe_con he hb
theorem pe_cvalS (hK : X.K = K) (he : PE X e ta) (hb : attributeBase e f X.env (eval e X.env) = eval e X.env := by rfl) : PE X (.Attribute e f pos) (ClX.tCVal K ta f) := by subst hK; exact ClX.pe_cval he hb
theorem ix_listS (hK : X.K = K) : IxR X (rIxL K) := by subst hK; exact ix_list
theorem ix_tupS (hK : X.K = K) : IxR X (rIxT K) := by subst hK; exact ix_tup
theorem sl_listS (hK : X.K = K) : SlR X (rSlL K) := by subst hK; exact sl_list
theorem sl_tupS (hK : X.K = K) : SlR X (rSlT K) := by subst hK; exact sl_tup
theorem op_in_seqS (hK : X.K = K) : OpR X (compareOp .In) (rIn K false) := by subst hK; exact op_in_seq
theorem op_notIn_seqS (hK : X.K = K) : OpR X (compareOp .NotIn) (rIn K true) := by subst hK; exact op_notIn_seq
theorem call_len_seqS (hK : X.K = K) : CallR X (.builtin "len") (fun xs H Q => ∃ p ys, xs = [.ref p] ∧ (SqL K H p ys ∨ SqT K H p ys) ∧ Q (.int ys.length) H) := by subst hK; exact call_len_seq
theorem call_list_ofS (hK : X.K = K) : CallR X (.type "list") (fun xs H Q => ∃ p ys, xs = [.ref p] ∧ (SqL K H p ys ∨ SqT K H p ys) ∧ ∀ l, H l = none → Q (.ref l) (upd H l (.lst ys))) := by subst hK; exact call_list_of
theorem call_isiS (hK : X.K = K) : CallR X (.builtin "isinstance") (rIsi K) := by subst hK; exact call_isi
theorem op_eqDS (hK : X.K = K) (hu : X.A.units + 64 < cLine) : OpR X (compareOp .Eq) (rEqD K) := by subst hK; exact op_eqD hu
theorem op_neDS (hK : X.K = K) (hu : X.A.units + 64 < cLine) : OpR X (compareOp .NotEq) (rNeD K) := by subst hK; exact op_neD hu
theorem cr_maxS (hK : X.K = K) (hc : X.calm = true) : CallR X (.builtin "max") (rMax K) := by subst hK; exact cr_max hc
theorem cr_minS (hK : X.K = K) (hc : X.calm = true) : CallR X (.builtin "min") (rMin K) := by subst hK; exact cr_min hc
theorem op_inDS (hK : X.K = K) (hu : X.A.units + 65 < cLine) : OpR X (compareOp .In) (rInD K) := by subst hK; exact op_inD hu
theorem pt_truthS (hK : X.K = K) (ha : PE X e ta) (he : ∀ whole, isTrue e X.env whole = (do let v ← whole; standAt e.pos; holding [v] (truthy v))) :
    PT X e (fun σ H Q => ta σ H fun x H' => ∃ k, TruV K x H' k ∧ Q k H') := by subst hK; exact pt_truth ha he
theorem pi_listS {tg : Expr} (hK : X.K = K) (hl : PE X e ta) : PI X tg e (iList K ta) := by subst hK; exact pi_list hl
theorem pi_tupS {tg : Expr} (hK : X.K = K) (hl : PE X e ta) : PI X tg e (iTup K ta) := by subst hK; exact pi_tup hl
theorem pg_tupS {es : List Expr} {k : Nat} {t : TGs} {n : Nat} (hK : X.K = K) (hc : X.calm = true) (h : PGs X es t)
    (hn : (assignEach es X.env).length = n := by rfl) (hst : (assignEach es X.env).findIdx? (·.1) = none := by rfl) : PG X (.Tuple es k pos) (gTup K n t) := by subst hK; exact pg_tup hc h hn hst
end
end VL

set_option Elab.async false
set_option linter.all false
set_option maxRecDepth 100000
set_option maxHeartbeats 4000000
namespace VL
open PySem PySem.Spec PyProof.Rows L2

def top (i : Nat) : Stmt := PySem.Challenge.pw_viewloom_k68_plain_texts.main.body.getD i (.Pass ⟨0, 0, 0, 0⟩)
abbrev s_write_tree : Stmt := top 4
abbrev s_plain_text : Stmt := top 5
abbrev s_written_text : Stmt := top 6
abbrev s_written_value : Stmt := top 7
abbrev s_written_element : Stmt := top 8
abbrev s__law_rows : Stmt := top 10
abbrev s__law_text : Stmt := top 11
abbrev s__law_word : Stmt := top 12
abbrev s__law_tree : Stmt := top 13
abbrev s__law_drawn : Stmt := top 14
abbrev s__law_flat : Stmt := top 15
abbrev s__law_joined : Stmt := top 16
abbrev s_law : Stmt := top 17
structure Ad where
  u0 : Unit
structure Txt (K : PySem.W.Frag) (w : World) (mg : Str → Option Value) (C : Ad) : Prop where
  z_int : mg "int" = none
  z_isinstance : mg "isinstance" = none
  z_len : mg "len" = none
  z_range : mg "range" = none
  z_repr : mg "repr" = none
  z_str : mg "str" = none
  g_EMPTY_TEXT : GV mg "EMPTY_TEXT" (V.str "<!--e-->")
  g_BETWEEN_TEXTS : GV mg "BETWEEN_TEXTS" (V.str "<!--t-->")
  g_AWAIT_END : GV mg "AWAIT_END" (V.str "<!--]-->")
  d_write_tree : DefE K mg "write_tree" s_write_tree ["nodes"]
  d_plain_text : DefE K mg "plain_text" s_plain_text ["nodes"]
  d_written_text : DefE K mg "written_text" s_written_text ["text"]
  d_written_value : DefE K mg "written_value" s_written_value ["text"]
  d_written_element : DefE K mg "written_element" s_written_element ["node", "inner"]
  d__law_rows : DefE K mg "_law_rows" s__law_rows ["script", "count"]
  d__law_text : DefE K mg "_law_text" s__law_text ["row"]
  d__law_word : DefE K mg "_law_word" s__law_word ["row"]
  d__law_tree : DefE K mg "_law_tree" s__law_tree ["rows", "world", "depth"]
  d__law_drawn : DefE K mg "_law_drawn" s__law_drawn ["rows", "at", "most"]
  d__law_flat : DefE K mg "_law_flat" s__law_flat ["nodes"]
  d__law_joined : DefE K mg "_law_joined" s__law_joined ["nodes"]
end VL

set_option linter.all false
namespace VL
inductive Nd where
  | tx (x : List Nat)
  | el (t : List Nat) (as : List (List Nat × List Nat)) (ks : List Nd)
  | aw (n : Option Int) (ks : List Nd)
/-- each c of a text becomes z -/
def esc1 (c : Nat) (z l : List Nat) : List Nat := l.flatMap fun d => if d = c then z else [d]
theorem esc1_app (c : Nat) (z a b : List Nat) : esc1 c z (a ++ b) = esc1 c z a ++ esc1 c z b := by simp [esc1]
theorem esc1_len {c k : Nat} {z : List Nat} (h : z.length ≤ k) (hk : 1 ≤ k) : ∀ l : List Nat, (esc1 c z l).length ≤ k * l.length
  | [] => by simp [esc1]
  | d :: l => by
    have ih := esc1_len (c := c) h hk l
    have e : esc1 c z (d :: l) = (if d = c then z else [d]) ++ esc1 c z l := by simp [esc1]
    rw [e, List.length_append, List.length_cons, Nat.mul_succ]
    have : (if d = c then z else [d]).length ≤ k := by
      split
      · exact h
      · exact hk
    omega
abbrev zAmp : List Nat := [38, 97, 109, 112, 59]
abbrev zLt : List Nat := [38, 108, 116, 59]
abbrev zGt : List Nat := [38, 103, 116, 59]
abbrev zQuot : List Nat := [38, 113, 117, 111, 116, 59]
def escT (l : List Nat) : List Nat := esc1 62 zGt (esc1 60 zLt (esc1 38 zAmp l))
def escV (l : List Nat) : List Nat := esc1 34 zQuot (esc1 60 zLt (esc1 38 zAmp l))
theorem escT_app (a b : List Nat) : escT (a ++ b) = escT a ++ escT b := by simp [escT, esc1_app]
theorem escT_nil : escT [] = [] := rfl
theorem escT_len (l : List Nat) : (escT l).length ≤ 80 * l.length := by
  have h1 := esc1_len (c := 38) (z := zAmp) (k := 5) (by decide) (by decide) l
  have h2 := esc1_len (c := 60) (z := zLt) (k := 4) (by decide) (by decide) (esc1 38 zAmp l)
  have h3 := esc1_len (c := 62) (z := zGt) (k := 4) (by decide) (by decide) (esc1 60 zLt (esc1 38 zAmp l))
  unfold escT
  omega
theorem escV_len (l : List Nat) : (escV l).length ≤ 120 * l.length := by
  have h1 := esc1_len (c := 38) (z := zAmp) (k := 5) (by decide) (by decide) l
  have h2 := esc1_len (c := 60) (z := zLt) (k := 4) (by decide) (by decide) (esc1 38 zAmp l)
  have h3 := esc1_len (c := 34) (z := zQuot) (k := 6) (by decide) (by decide) (esc1 60 zLt (esc1 38 zAmp l))
  unfold escV
  omega
/-- ' name="value"' of each -/
def pairL (a : List Nat × List Nat) : List Nat := [32] ++ a.1 ++ [61, 34] ++ escV a.2 ++ [34]
def elemL (t : List Nat) (as : List (List Nat × List Nat)) (inner : List Nat) : List Nat := [60] ++ t ++ as.flatMap pairL ++ [62] ++ inner ++ [60, 47] ++ t ++ [62]
def wA (as : List (List Nat × List Nat)) : Nat := (as.map fun a => a.1.length + 120 * a.2.length + 20).sum
mutual
def wN : Nd → Nat
  | .tx x => 80 * x.length + 20
  | .el t as ks => 2 * t.length + 50 + wA as + wS ks
  | .aw _ ks => 100 + wS ks
def wS : List Nd → Nat
  | [] => 0
  | d :: r => wN d + wS r
end
mutual
def dpN : Nd → Nat
  | .tx _ => 0
  | .el _ _ ks => dpS ks + 1
  | .aw _ ks => dpS ks + 1
def dpS : List Nd → Nat
  | [] => 0
  | d :: r => max (dpN d) (dpS r)
end
mutual
def pieceP : Nd → List Nat
  | .tx x => escT x
  | .el t as ks => elemL t as (catP ks)
  | .aw _ ks => catP ks
def catP : List Nd → List Nat
  | [] => []
  | d :: r => pieceP d ++ catP r
end
abbrev zE : List Nat := [60, 33, 45, 45, 101, 45, 45, 62]
abbrev zT : List Nat := [60, 33, 45, 45, 116, 45, 45, 62]
abbrev zA : List Nat := [60, 33, 45, 45, 91]
abbrev zB : List Nat := [45, 45, 62]
abbrev zC : List Nat := [60, 33, 45, 45, 93, 45, 45, 62]
def isT : Nd → Bool
  | .tx x => decide (x ≠ [])
  | _ => false
/-- the text of a number -/
def numL (f : Int → List Nat) : Option Int → List Nat
  | none => []
  | some i => f i
section
variable (f : Int → List Nat)
mutual
def pieceW : Nd → List Nat
  | .tx x => if x = [] then zE else escT x
  | .el t as ks => elemL t as (catW false ks)
  | .aw n ks => zA ++ numL f n ++ zB ++ catW false ks ++ zC
def catW : Bool → List Nd → List Nat
  | _, [] => []
  | b, d :: r => (if b && isT d then zT else []) ++ pieceW d ++ catW (isT d) r
end
end
/-! what the law makes of it -/
def jnS (acc : List Nd) (d : Nd) : List Nd := match d, acc.getLast? with
  | .tx y, some (.tx x) => acc.dropLast ++ [.tx (x ++ y)]
  | d, _ => acc ++ [d]
def jn (l : List Nd) : List Nd := l.foldl jnS []
mutual
def flN : Nd → List Nd
  | .tx x => if x = [] then [] else [.tx x]
  | .el t as ks => [.el t as (jn (flS ks))]
  | .aw _ ks => flS ks
def flS : List Nd → List Nd
  | [] => []
  | d :: r => flN d ++ flS r
end
theorem wS_app (a b : List Nd) : wS (a ++ b) = wS a + wS b := by
  induction a with
  | nil => simp [wS]
  | cons d a ih => simp [wS, ih]; omega
theorem catP_app (a b : List Nd) : catP (a ++ b) = catP a ++ catP b := by
  induction a with
  | nil => simp [catP]
  | cons d a ih => simp [catP, ih]
theorem flS_app (a b : List Nd) : flS (a ++ b) = flS a ++ flS b := by
  induction a with
  | nil => simp [flS]
  | cons d a ih => simp [flS, ih]
theorem dpS_app (a b : List Nd) : dpS (a ++ b) = max (dpS a) (dpS b) := by
  induction a with
  | nil => simp [dpS]
  | cons d a ih => simp [dpS, ih]
theorem dp_mem {d : Nd} : ∀ {ks : List Nd}, d ∈ ks → dpN d ≤ dpS ks
  | e :: ks, h => by
    simp only [dpS]
    rcases List.mem_cons.mp h with rfl | h
    · omega
    · have := dp_mem h
      omega
theorem w_mem {d : Nd} : ∀ {ks : List Nd}, d ∈ ks → wN d ≤ wS ks
  | e :: ks, h => by
    simp only [wS]
    rcases List.mem_cons.mp h with rfl | h
    · omega
    · have := w_mem h
      omega
theorem wN_pos : ∀ d : Nd, 20 ≤ wN d
  | .tx x => by simp [wN]
  | .el t as ks => by simp only [wN]; omega
  | .aw n ks => by simp only [wN]; omega
theorem len_wS : ∀ ks : List Nd, 20 * ks.length ≤ wS ks
  | [] => by simp [wS]
  | d :: r => by
    have := wN_pos d
    have := len_wS r
    simp only [wS, List.length_cons]
    omega
theorem pair_len (a : List Nat × List Nat) : (pairL a).length ≤ a.1.length + 120 * a.2.length + 20 := by
  have := escV_len a.2
  simp only [pairL, List.length_append, List.length_cons, List.length_nil]
  omega
theorem pairs_len : ∀ as : List (List Nat × List Nat), (as.flatMap pairL).length ≤ wA as
  | [] => by simp [wA]
  | a :: as => by
    have := pair_len a
    have ih := pairs_len as
    simp only [wA, List.map_cons, List.sum_cons, List.flatMap_cons, List.length_append] at ih ⊢
    omega
theorem elem_len (t : List Nat) (as : List (List Nat × List Nat)) (i : List Nat) : (elemL t as i).length ≤ 2 * t.length + 10 + wA as + i.length := by
  have := pairs_len as
  simp only [elemL, List.length_append, List.length_cons, List.length_nil]
  omega
mutual
theorem pieceP_len : ∀ d : Nd, (pieceP d).length ≤ wN d
  | .tx x => by have := escT_len x; simp only [pieceP, wN]; omega
  | .el t as ks => by have := elem_len t as (catP ks); have := catP_len ks; simp only [pieceP, wN]; omega
  | .aw n ks => by have := catP_len ks; simp only [pieceP, wN]; omega
theorem catP_len : ∀ ks : List Nd, (catP ks).length ≤ wS ks
  | [] => by simp [catP, wS]
  | d :: r => by have := pieceP_len d; have := catP_len r; simp only [catP, wS, List.length_append]; omega
end
/-! joined -/
theorem jnS_nt {acc : List Nd} {d : Nd} (h : ∀ y, d ≠ .tx y) : jnS acc d = acc ++ [d] := by
  cases d with
  | tx y => exact absurd rfl (h y)
  | el t as ks => unfold jnS; rfl
  | aw n ks => unfold jnS; rfl
theorem jnS_nil (d : Nd) : jnS [] d = [d] := by
  cases d <;> rfl
theorem jnS_sn {a : List Nd} {e d : Nd} : jnS (a ++ [e]) d = match d, e with | .tx y, .tx x => a ++ [.tx (x ++ y)] | _, _ => a ++ [e] ++ [d] := by
  unfold jnS
  rw [List.getLast?_concat]
  cases d with
  | tx y => cases e <;> simp
  | el t as ks => cases e <;> simp
  | aw n ks => cases e <;> simp
theorem snoc_cases (l : List Nd) : l = [] ∨ ∃ a e, l = a ++ [e] := by
  rcases List.eq_nil_or_concat l with h | ⟨a, e, h⟩
  · exact .inl h
  · exact .inr ⟨a, e, by simpa using h⟩
theorem catP_jnS (acc : List Nd) (d : Nd) : catP (jnS acc d) = catP acc ++ pieceP d := by
  rcases snoc_cases acc with rfl | ⟨a, e, rfl⟩
  · rw [jnS_nil]; simp [catP]
  · rw [jnS_sn]
    cases d with
    | tx y => cases e <;> simp [catP_app, catP, pieceP, escT_app]
    | el t as ks => cases e <;> simp [catP_app, catP]
    | aw n ks => cases e <;> simp [catP_app, catP]
theorem catP_fold : ∀ (l acc : List Nd), catP (l.foldl jnS acc) = catP acc ++ catP l
  | [], acc => by simp [catP]
  | d :: l, acc => by
    rw [List.foldl_cons, catP_fold l, catP_jnS]
    simp [catP]
theorem catP_jn (l : List Nd) : catP (jn l) = catP l := by
  unfold jn
  rw [catP_fold]
  simp [catP]
mutual
theorem catP_flN : ∀ d : Nd, catP (flN d) = pieceP d
  | .tx x => by
    by_cases h : x = []
    · subst h; simp [flN, catP, pieceP, escT_nil]
    · simp [flN, h, catP]
  | .el t as ks => by simp only [flN, catP, pieceP, catP_jn, catP_flS ks, List.append_nil]
  | .aw n ks => by simp only [flN, pieceP, catP_flS ks]
theorem catP_flS : ∀ ks : List Nd, catP (flS ks) = catP ks
  | [] => by simp [flS]
  | d :: r => by simp only [flS, catP_app, catP, catP_flN d, catP_flS r]
end
theorem wS_jnS (acc : List Nd) (d : Nd) : wS (jnS acc d) ≤ wS acc + wN d := by
  rcases snoc_cases acc with rfl | ⟨a, e, rfl⟩
  · rw [jnS_nil]; simp [wS]
  · rw [jnS_sn]
    cases d with
    | tx y => cases e with
      | tx x => simp only [wS_app, wS, wN, List.length_append]; omega
      | el t as ks => simp only [wS_app, wS]; omega
      | aw n ks => simp only [wS_app, wS]; omega
    | el t as ks => cases e <;> (simp only [wS_app, wS]; omega)
    | aw n ks => cases e <;> (simp only [wS_app, wS]; omega)
theorem wS_fold : ∀ (l acc : List Nd), wS (l.foldl jnS acc) ≤ wS acc + wS l
  | [], acc => by simp [wS]
  | d :: l, acc => by
    have h1 := wS_fold l (jnS acc d)
    have h2 := wS_jnS acc d
    simp only [List.foldl_cons, wS]
    omega
theorem wS_jn (l : List Nd) : wS (jn l) ≤ wS l := by
  have := wS_fold l []
  simp only [wS] at this
  unfold jn
  omega
mutual
theorem wS_flN : ∀ d : Nd, wS (flN d) ≤ wN d
  | .tx x => by
    by_cases h : x = []
    · simp [flN, h, wS]
    · simp [flN, h, wS]
  | .el t as ks => by have := wS_flS ks; have := wS_jn (flS ks); simp only [flN, wS, wN]; omega
  | .aw n ks => by have := wS_flS ks; simp only [flN, wN]; omega
theorem wS_flS : ∀ ks : List Nd, wS (flS ks) ≤ wS ks
  | [] => by simp [flS]
  | d :: r => by have := wS_flN d; have := wS_flS r; simp only [flS, wS_app, wS]; omega
end
theorem dpS_jnS (acc : List Nd) (d : Nd) : dpS (jnS acc d) ≤ max (dpS acc) (dpN d) := by
  rcases snoc_cases acc with rfl | ⟨a, e, rfl⟩
  · rw [jnS_nil]; simp [dpS]
  · rw [jnS_sn]
    cases d with
    | tx y => cases e <;> simp [dpS_app, dpS, dpN] <;> omega
    | el t as ks => cases e <;> simp [dpS_app, dpS] <;> omega
    | aw n ks => cases e <;> simp [dpS_app, dpS] <;> omega
theorem dpS_fold : ∀ (l acc : List Nd), dpS (l.foldl jnS acc) ≤ max (dpS acc) (dpS l)
  | [], acc => by simp [dpS]
  | d :: l, acc => by
    have h1 := dpS_fold l (jnS acc d)
    have h2 := dpS_jnS acc d
    simp only [List.foldl_cons, dpS]
    omega
theorem dpS_jn (l : List Nd) : dpS (jn l) ≤ dpS l := by
  have := dpS_fold l []
  simp only [dpS] at this
  unfold jn
  omega
mutual
theorem dpS_flN : ∀ d : Nd, dpS (flN d) ≤ dpN d
  | .tx x => by
    by_cases h : x = []
    · simp [flN, h, dpS]
    · simp [flN, h, dpS]
  | .el t as ks => by have := dpS_flS ks; have := dpS_jn (flS ks); simp only [flN, dpS, dpN]; omega
  | .aw n ks => by have := dpS_flS ks; simp only [flN, dpN]; omega
theorem dpS_flS : ∀ ks : List Nd, dpS (flS ks) ≤ dpS ks
  | [] => by simp [flS]
  | d :: r => by have := dpS_flN d; have := dpS_flS r; simp only [flS, dpS_app, dpS]; omega
end
/-! neat trees: no awaits, no empty texts, no two texts in a row -/
mutual
def ntN : Nd → Prop
  | .tx x => x ≠ []
  | .el _ _ ks => ntS false ks
  | .aw _ _ => False
def ntS : Bool → List Nd → Prop
  | _, [] => True
  | b, d :: r => ntN d ∧ (b = true → isT d = false) ∧ ntS (isT d) r
end
section
variable (f : Int → List Nat)
mutual
theorem neatN : ∀ d : Nd, ntN d → pieceW f d = pieceP d
  | .tx x, h => by
    have h : x ≠ [] := h
    simp only [pieceW, pieceP]
    rw [if_neg h]
  | .el t as ks, h => by
    have := neatS false ks (by simpa only [ntN] using h)
    simp only [pieceW, pieceP, this]
  | .aw n ks, h => h.elim
theorem neatS : ∀ (b : Bool) (ks : List Nd), ntS b ks → catW f b ks = catP ks
  | b, [], _ => by simp [catW, catP]
  | b, d :: r, h => by
    obtain ⟨h1, h2, h3⟩ : ntN d ∧ (b = true → isT d = false) ∧ ntS (isT d) r := by simpa only [ntS] using h
    have e : (b && isT d) = false := by
      cases b with
      | false => rfl
      | true => simpa using h2 rfl
    simp only [catW, catP, neatN d h1, neatS _ r h3, e]
    rfl
end
end
def lastT (acc : List Nd) : Bool := match acc.getLast? with | some d => isT d | none => false
theorem ntS_app : ∀ (a : List Nd) (b : Bool) (d : Nd), ntS b a → ntN d → ((if a = [] then b else lastT a) = true → isT d = false) → ntS b (a ++ [d])
  | [], b, d, _, h2, h3 => by
    simp only [List.nil_append, ntS]
    exact ⟨h2, fun z => h3 (by simpa using z), trivial⟩
  | e :: a, b, d, h1, h2, h3 => by
    obtain ⟨g1, g2, g3⟩ : ntN e ∧ (b = true → isT e = false) ∧ ntS (isT e) a := by simpa only [ntS] using h1
    rw [List.cons_append]
    simp only [ntS]
    refine ⟨g1, g2, ntS_app a _ d g3 h2 fun z => h3 ?_⟩
    rw [if_neg (by simp)]
    cases a with
    | nil => simpa [lastT] using z
    | cons x xs =>
      rw [if_neg (by simp)] at z
      unfold lastT at z ⊢
      rw [List.getLast?_cons_cons]
      exact z
theorem ntS_dl : ∀ (a : List Nd) (b : Bool) (d : Nd), ntS b (a ++ [d]) → ntS b a ∧ ntN d ∧ ((if a = [] then b else lastT a) = true → isT d = false)
  | [], b, d, h => by
    obtain ⟨h1, h2, _⟩ : ntN d ∧ (b = true → isT d = false) ∧ ntS (isT d) [] := by simpa only [List.nil_append, ntS] using h
    exact ⟨by simp only [ntS], h1, fun z => h2 (by simpa using z)⟩
  | e :: a, b, d, h => by
    obtain ⟨h1, h2, h3⟩ : ntN e ∧ (b = true → isT e = false) ∧ ntS (isT e) (a ++ [d]) := by simpa only [List.cons_append, ntS] using h
    obtain ⟨i1, i2, i3⟩ := ntS_dl a _ d h3
    refine ⟨by simp only [ntS]; exact ⟨h1, h2, i1⟩, i2, fun z => i3 ?_⟩
    rw [if_neg (by simp)] at z
    cases a with
    | nil => simpa [lastT] using z
    | cons x xs =>
      rw [if_neg (by simp)]
      unfold lastT at z ⊢
      rw [List.getLast?_cons_cons] at z
      exact z
theorem nt_jnS {acc : List Nd} {d : Nd} (h : ntS false acc) (hd : ntN d) : ntS false (jnS acc d) := by
  rcases snoc_cases acc with rfl | ⟨a, e, rfl⟩
  · rw [jnS_nil]
    exact ntS_app [] false d h hd (fun z => by simp at z)
  · rw [jnS_sn]
    obtain ⟨i1, i2, i3⟩ := ntS_dl a false e h
    have app : ∀ d, ntN d → (isT e = true → isT d = false) → ntS false (a ++ [e] ++ [d]) := fun d hd hh =>
      ntS_app (a ++ [e]) false d h hd fun z => by
        rw [if_neg (by simp)] at z
        unfold lastT at z
        rw [List.getLast?_concat] at z
        exact hh (by simpa using z)
    cases d with
    | tx y =>
      have hy : y ≠ [] := hd
      cases e with
      | tx x =>
        have hx : x ≠ [] := i2
        refine ntS_app a false _ i1 (by simp [ntN, hx]) fun z => ?_
        have := i3 z
        simp [isT, hx] at this
      | el t as ks => exact app _ hd fun z => by simp [isT] at z
      | aw n ks => exact absurd i2 id
    | el t as ks =>
      cases e with
      | tx x => exact app _ hd fun _ => rfl
      | el t as ks => exact app _ hd fun _ => rfl
      | aw n ks => exact absurd i2 id
    | aw n ks => exact absurd hd id
theorem nt_fold : ∀ (l acc : List Nd), ntS false acc → (∀ d ∈ l, ntN d) → ntS false (l.foldl jnS acc)
  | [], acc, h, _ => h
  | d :: l, acc, h, hl => nt_fold l _ (nt_jnS h (hl d List.mem_cons_self)) fun x hx => hl x (List.mem_cons_of_mem _ hx)
theorem nt_jn {l : List Nd} (h : ∀ d ∈ l, ntN d) : ntS false (jn l) := nt_fold l [] (by simp only [ntS]) h
mutual
theorem nt_flN : ∀ d : Nd, ∀ e ∈ flN d, ntN e
  | .tx x => fun e he => by
    by_cases h : x = []
    · simp [flN, h] at he
    · simp only [flN, if_neg h, List.mem_singleton] at he
      subst he
      exact h
  | .el t as ks => fun e he => by
    simp only [flN, List.mem_singleton] at he
    subst he
    simp only [ntN]
    exact nt_jn (nt_flS ks)
  | .aw n ks => fun e he => by
    simp only [flN] at he
    exact nt_flS ks e he
theorem nt_flS : ∀ ks : List Nd, ∀ e ∈ flS ks, ntN e
  | [] => fun e he => by simp [flS] at he
  | d :: r => fun e he => by
    simp only [flS, List.mem_append] at he
    rcases he with he | he
    · exact nt_flN d e he
    · exact nt_flS r e he
end
/-- the law -/
theorem law68 (f : Int → List Nat) (ks : List Nd) : catW f false (jn (flS ks)) = catP ks := by
  rw [neatS f _ _ (nt_jn (nt_flS ks)), catP_jn, catP_flS]
end VL
namespace VL
/-! writing any tree -/
mutual
def nuN : Nd → Prop
  | .tx _ => True
  | .el _ _ ks => nuS ks
  | .aw n ks => (∀ i, n = some i → 0 ≤ i ∧ i < 10 ^ 30) ∧ nuS ks
def nuS : List Nd → Prop
  | [] => True
  | d :: r => nuN d ∧ nuS r
end
theorem nu_mem {d : Nd} : ∀ {ks : List Nd}, nuS ks → d ∈ ks → nuN d
  | e :: ks, h, m => by
    obtain ⟨h1, h2⟩ : nuN e ∧ nuS ks := by simpa only [nuS] using h
    rcases List.mem_cons.mp m with rfl | m
    · exact h1
    · exact nu_mem h2 m
mutual
theorem nt_nuN : ∀ d : Nd, ntN d → nuN d
  | .tx _, _ => trivial
  | .el _ _ ks, h => by simp only [nuN]; exact nt_nuS false ks (by simpa only [ntN] using h)
  | .aw _ _, h => h.elim
theorem nt_nuS : ∀ (b : Bool) (ks : List Nd), ntS b ks → nuS ks
  | _, [], _ => by simp only [nuS]
  | b, d :: r, h => by
    obtain ⟨h1, _, h3⟩ : ntN d ∧ (b = true → isT d = false) ∧ ntS (isT d) r := by simpa only [ntS] using h
    simp only [nuS]
    exact ⟨nt_nuN d h1, nt_nuS _ r h3⟩
end
section
variable (f : Int → List Nat)
theorem catW_sn : ∀ (a : List Nd) (b : Bool) (d : Nd), catW f b (a ++ [d]) = catW f b a ++ ((if (if a = [] then b else lastT a) && isT d then zT else []) ++ pieceW f d)
  | [], b, d => by simp [catW]
  | e :: a, b, d => by
    rw [List.cons_append]
    simp only [catW]
    rw [catW_sn a (isT e) d, if_neg (by simp : ¬ (e :: a = []))]
    have : (if a = [] then isT e else lastT a) = lastT (e :: a) := by
      cases a with
      | nil => simp [lastT]
      | cons x xs =>
        rw [if_neg (by simp)]
        unfold lastT
        rw [List.getLast?_cons_cons]
    rw [this]
    simp
theorem catW_sn0 (a : List Nd) (d : Nd) : catW f false (a ++ [d]) = catW f false a ++ ((if lastT a && isT d then zT else []) ++ pieceW f d) := by
  rw [catW_sn]
  cases a with
  | nil => simp [lastT]
  | cons x xs =>
    have e : (if (x :: xs) = [] then false else lastT (x :: xs)) = lastT (x :: xs) := if_neg (by simp)
    rw [e]
theorem lastT_sn (a : List Nd) (d : Nd) : lastT (a ++ [d]) = isT d := by
  unfold lastT
  rw [List.getLast?_concat]
mutual
theorem pieceW_len (hf : ∀ i, 0 ≤ i → i < 10 ^ 30 → (f i).length ≤ 30) : ∀ d : Nd, nuN d → (pieceW f d).length + 8 ≤ wN d
  | .tx x, _ => by
    have := escT_len x
    simp only [pieceW, wN]
    split <;> simp <;> omega
  | .el t as ks, h => by
    have := elem_len t as (catW f false ks)
    have := catW_len hf false ks (by simpa only [nuN] using h)
    simp only [pieceW, wN]
    omega
  | .aw n ks, h => by
    obtain ⟨h1, h2⟩ : (∀ i, n = some i → 0 ≤ i ∧ i < 10 ^ 30) ∧ nuS ks := by simpa only [nuN] using h
    have := catW_len hf false ks h2
    have : (numL f n).length ≤ 30 := by
      cases n with
      | none => simp [numL]
      | some i => exact hf i (h1 i rfl).1 (h1 i rfl).2
    simp only [pieceW, wN, List.length_append, List.length_cons, List.length_nil]
    omega
theorem catW_len (hf : ∀ i, 0 ≤ i → i < 10 ^ 30 → (f i).length ≤ 30) : ∀ (b : Bool) (ks : List Nd), nuS ks → (catW f b ks).length ≤ wS ks
  | _, [], _ => by simp [catW, wS]
  | b, d :: r, h => by
    obtain ⟨h1, h2⟩ : nuN d ∧ nuS r := by simpa only [nuS] using h
    have := pieceW_len hf d h1
    have := catW_len hf (isT d) r h2
    simp only [catW, wS, List.length_append]
    split <;> simp <;> omega
end
end
end VL
namespace VL
theorem len_jnS (acc : List Nd) (d : Nd) : (jnS acc d).length ≤ acc.length + 1 := by
  rcases snoc_cases acc with rfl | ⟨a, e, rfl⟩
  · rw [jnS_nil]; simp
  · rw [jnS_sn]
    cases d with
    | tx y => cases e <;> simp
    | el t as ks => cases e <;> simp
    | aw n ks => cases e <;> simp
theorem len_fold : ∀ (l acc : List Nd), (l.foldl jnS acc).length ≤ acc.length + l.length
  | [], acc => by simp
  | d :: l, acc => by
    have h1 := len_fold l (jnS acc d)
    have h2 := len_jnS acc d
    simp only [List.foldl_cons, List.length_cons]
    omega
theorem jn_snoc (l : List Nd) (d : Nd) : jn (l ++ [d]) = jnS (jn l) d := by
  unfold jn
  rw [List.foldl_append]
  rfl
end VL

set_option Elab.async false
set_option linter.all false
set_option maxRecDepth 100000
set_option maxHeartbeats 4000000
namespace VL
open PySem PySem.Spec PyProof.Rows L2
theorem Sm.new {t : Addr} {o : HO} {H : Hp} (h : H t = none) : Same H (upd H t o) := fun b u e => by rw [upd_ne (ne_of_none e h)]; exact e
def spFalse : Sp := fun _ _ _ _ => False
/-! ### trees as data -/
def nV : Option Int → PyData
  | none => .none
  | some i => .int i
def pairD (a : List Nat × List Nat) : PyData := .tuple [.str (TX a.1), .str (TX a.2)]
mutual
def encN : Nd → PyData
  | .tx x => .tuple [.str "text", .str (TX x)]
  | .el t as ks => .tuple [.str "element", .str (TX t), .list (as.map pairD), .list (encS ks)]
  | .aw n ks => .tuple [.str "await", nV n, .list (encS ks)]
def encS : List Nd → List PyData
  | [] => []
  | d :: r => encN d :: encS r
end
theorem encS_map : ∀ ks : List Nd, encS ks = ks.map encN
  | [] => by simp [encS]
  | d :: r => by simp [encS, encS_map r]
abbrev TreeA (H : Hp) (a : Addr) (ks : List Nd) : Prop := Dq H (.ref a) (.list (encS ks))
theorem tree_mk {H : Hp} {a : Addr} {xs : List V} {ks : List Nd} (h : H a = some (.lst xs)) (d : DqAll H xs (encS ks)) : TreeA H a ks := .lst h d
theorem encS_len (ks : List Nd) : (encS ks).length = ks.length := by rw [encS_map, List.length_map]
theorem encS_app (a b : List Nd) : encS (a ++ b) = encS a ++ encS b := by simp [encS_map]
theorem tree_at {H : Hp} {a : Addr} {ks : List Nd} (h : TreeA H a ks) : ∃ xs, H a = some (.lst xs) ∧ xs.length = ks.length ∧ DqAll H xs (encS ks) := by
  obtain ⟨b, xs, e, h1, h2⟩ := dq_list h
  cases e
  exact ⟨xs, h1, by rw [h2.len, encS_len], h2⟩
theorem node_at {H : Hp} {xs : List V} {ks : List Nd} (h : DqAll H xs (encS ks)) {i : Nat} {x : V} (hx : xs[i]? = some x) : ∃ d, ks[i]? = some d ∧ Dq H x (encN d) := by
  have hl := h.len
  rw [encS_len] at hl
  have hi : i < ks.length := by
    have := (List.getElem?_eq_some_iff.mp hx).1
    omega
  refine ⟨ks[i], List.getElem?_eq_getElem hi, ?_⟩
  have e : (encS ks)[i]? = some (encN ks[i]) := by rw [encS_map, List.getElem?_map, List.getElem?_eq_getElem hi]; rfl
  obtain ⟨v, h1, h2⟩ := dqAll_at h e
  rw [hx] at h1
  cases h1
  exact h2
theorem dq_str {H : Hp} {v : V} {x : Str} (h : Dq H v (.str x)) : v = .str x := by cases h; rfl
theorem n_tx {H : Hp} {v : V} {x : List Nat} (h : Dq H v (encN (.tx x))) : ∃ q, v = .ref q ∧ H q = some (.tup [.str "text", .str (TX x)]) := by
  obtain ⟨q, xs, rfl, h1, h2⟩ := dq_tup h
  cases h2 with
  | cons a b => cases b with
    | cons b c => cases c; rw [dq_str a, dq_str b] at h1; exact ⟨q, rfl, h1⟩
theorem n_el {H : Hp} {v : V} {t : List Nat} {as : List (List Nat × List Nat)} {ks : List Nd} (h : Dq H v (encN (.el t as ks))) : ∃ q pa pk, v = .ref q ∧ H q = some (.tup [.str "element", .str (TX t), .ref pa, .ref pk]) ∧ Dq H (.ref pa) (.list (as.map pairD)) ∧ TreeA H pk ks := by
  obtain ⟨q, xs, rfl, h1, h2⟩ := dq_tup h
  cases h2 with
  | cons a b => cases b with
    | cons b c => cases c with
      | cons c d => cases d with
        | cons d e =>
          cases e
          obtain ⟨pa, _, rfl, _, _⟩ := dq_list c
          obtain ⟨pk, _, rfl, _, _⟩ := dq_list d
          rw [dq_str a, dq_str b] at h1
          exact ⟨q, pa, pk, rfl, h1, c, d⟩
def nVV : Option Int → V
  | none => .non
  | some i => .int i
theorem n_aw {H : Hp} {v : V} {n : Option Int} {ks : List Nd} (h : Dq H v (encN (.aw n ks))) : ∃ q pk, v = .ref q ∧ H q = some (.tup [.str "await", nVV n, .ref pk]) ∧ TreeA H pk ks := by
  obtain ⟨q, xs, rfl, h1, h2⟩ := dq_tup h
  cases h2 with
  | cons a b => cases b with
    | cons b c => cases c with
      | cons c d =>
          cases d
          obtain ⟨pk, _, rfl, _, _⟩ := dq_list c
          rw [dq_str a] at h1
          refine ⟨q, pk, rfl, ?_, c⟩
          cases n with
          | none => cases b; exact h1
          | some i => cases b; exact h1
theorem pairs_at {H : Hp} {pa : Addr} {as : List (List Nat × List Nat)} (h : Dq H (.ref pa) (.list (as.map pairD))) : ∃ ps : List Addr, H pa = some (.lst (ps.map V.ref)) ∧ ps.length = as.length ∧ ∀ (i : Nat) (p : Addr), ps[i]? = some p → ∃ a, as[i]? = some a ∧ H p = some (.tup [.str (TX a.1), .str (TX a.2)]) := by
  obtain ⟨b, xs, e, h1, h2⟩ := dq_list h
  cases e
  have key : ∀ (as : List (List Nat × List Nat)) (xs : List V), DqAll H xs (as.map pairD) → ∃ ps : List Addr, xs = ps.map V.ref ∧ ps.length = as.length ∧ ∀ (i : Nat) (p : Addr), ps[i]? = some p → ∃ a, as[i]? = some a ∧ H p = some (.tup [.str (TX a.1), .str (TX a.2)]) := by
    intro as
    induction as with
    | nil => intro xs h; cases h; exact ⟨[], rfl, rfl, fun i p z => by simp at z⟩
    | cons a as ih =>
      intro xs h
      cases h with
      | cons g r =>
        obtain ⟨ps, rfl, hl, hp⟩ := ih _ r
        obtain ⟨q, ys, rfl, g1, g2⟩ := dq_tup g
        cases g2 with
        | cons u w => cases w with
          | cons w z =>
            cases z
            rw [dq_str u, dq_str w] at g1
            refine ⟨q :: ps, rfl, by simp [hl], fun i p hip => ?_⟩
            cases i with
            | zero => simp at hip; subst hip; exact ⟨a, rfl, g1⟩
            | succ i => exact hp i p (by simpa using hip)
  obtain ⟨ps, rfl, h3, h4⟩ := key as xs h2
  exact ⟨ps, h1, h3, h4⟩
/-! ### constants -/
theorem k_amp : ("&" : Str) = TX [38] := rfl
theorem k_lt : ("<" : Str) = TX [60] := rfl
theorem k_gt : (">" : Str) = TX [62] := rfl
theorem k_quot : ("\"" : Str) = TX [34] := rfl
theorem k_zamp : ("&amp;" : Str) = TX zAmp := rfl
theorem k_zlt : ("&lt;" : Str) = TX zLt := rfl
theorem k_zgt : ("&gt;" : Str) = TX zGt := rfl
theorem k_zquot : ("&quot;" : Str) = TX zQuot := rfl
theorem k_sp : (" " : Str) = TX [32] := rfl
theorem k_eq : ("=\"" : Str) = TX [61, 34] := rfl
theorem k_lts : ("</" : Str) = TX [60, 47] := rfl
theorem k_E : ("<!--e-->" : Str) = TX zE := rfl
theorem k_T : ("<!--t-->" : Str) = TX zT := rfl
theorem k_A : ("<!--[" : Str) = TX zA := rfl
theorem k_B : ("-->" : Str) = TX zB := rfl
theorem k_C : ("<!--]-->" : Str) = TX zC := rfl
theorem k_0 : Str.empty = TX [] := rfl
theorem k_00 : ("" : Str) = TX [] := rfl
theorem str_TX (x : Str) : x = TX x.cps.toList := by simp
theorem rep1_esc : rep1 = esc1 := rfl
theorem sne {a b : Str} (h : (a == b) = false) : ¬ (decide (V.str a = V.str b) = true) := fun c => by
  have e := V.str.inj (of_decide_eq_true c)
  subst e
  simp at h
theorem flat_catP (ks : List Nd) : (ks.map pieceP).flatten = catP ks := by
  induction ks with
  | nil => simp [catP]
  | cons d r ih => simp [catP, ih]
/-! ### promises -/
def spText (g : List Nat → List Nat) : Sp := fun vs H Q _ => ∃ l, vs = [.str (TX l)] ∧ l.length ≤ 100000 ∧ Q (.str (TX (g l))) H
def spElem : Sp := fun vs H Q _ => ∃ (v : V) (t : List Nat) (as : List (List Nat × List Nat)) (ks : List Nd) (i : List Nat), vs = [v, .str (TX i)] ∧ Dq H v (encN (.el t as ks)) ∧ 2 * t.length + wA as + i.length ≤ 9000000 ∧ ∀ H', Same H H' → Q (.str (TX (elemL t as i))) H'
def spPlain (n : Nat) : Sp := fun vs H Q _ => ∃ (a : Addr) (ks : List Nd), vs = [.ref a] ∧ TreeA H a ks ∧ dpS ks ≤ n ∧ wS ks ≤ 8000000 ∧ ∀ H', Same H H' → Q (.str (TX (catP ks))) H'
theorem rep_eq {l z : List Nat} {c : Nat} {a b : Str} (ha : a = TX [c]) (hb : b = TX z) : Txt.replace (TX l) a b = TX (esc1 c z l) := by subst ha hb; exact replace_TX
section
variable {P : Program} {w : World} {K : PySem.W.Frag} {mg : Str → Option Value} {base : Heap} {C : Ad}
theorem sc_written_text : FnScope ["text"] ["text"] (defScope s_written_text) := ⟨rfl, rfl, rfl, by decide +kernel, rfl, by decide +kernel, by decide +kernel⟩
theorem ok_text (T : Txt K w mg C) : Cal P w K mg base 1 "written_text" (spText escT) := by
  refine cal_ofT T.d_written_text sc_written_text (by decide +kernel) (by decide) (fun vs H Q E h => ?_) (fun f cdv A outer s H vs Q E hr h => ?_)
  · obtain ⟨l, rfl, _⟩ := h
    rfl
  · obtain ⟨l, rfl, hl, q⟩ := h
    have h1 := esc1_len (c := 38) (z := zAmp) (k := 5) (by decide) (by decide) l
    have h2 := esc1_len (c := 60) (z := zLt) (k := 4) (by decide) (by decide) (esc1 38 zAmp l)
    refine ⟨_, CwR.psst_one (CwR.pst_ret (CwR.pet_replT (CwR.pet_replT (CwR.pet_replC (pv 0))))), ?_⟩
    refine ⟨_, rfl, _, rfl, ?_, ?_⟩
    · rw [TX_len]
      show l.length + (l.length + 1) * 5 ≤ _
      omega
    rw [rep_eq k_amp k_zamp]
    refine ⟨_, rfl, ?_, ?_⟩
    · rw [TX_len]
      show (esc1 38 zAmp l).length + ((esc1 38 zAmp l).length + 1) * 4 ≤ _
      omega
    rw [rep_eq k_lt k_zlt]
    refine ⟨_, rfl, ?_, ?_⟩
    · rw [TX_len]
      show (esc1 60 zLt (esc1 38 zAmp l)).length + ((esc1 60 zLt (esc1 38 zAmp l)).length + 1) * 4 ≤ _
      omega
    rw [rep_eq k_gt k_zgt]
    exact q
theorem sc_written_value : FnScope ["text"] ["text"] (defScope s_written_value) := ⟨rfl, rfl, rfl, by decide +kernel, rfl, by decide +kernel, by decide +kernel⟩
theorem ok_value (T : Txt K w mg C) : Cal P w K mg base 1 "written_value" (spText escV) := by
  refine cal_ofT T.d_written_value sc_written_value (by decide +kernel) (by decide) (fun vs H Q E h => ?_) (fun f cdv A outer s H vs Q E hr h => ?_)
  · obtain ⟨l, rfl, _⟩ := h
    rfl
  · obtain ⟨l, rfl, hl, q⟩ := h
    have h1 := esc1_len (c := 38) (z := zAmp) (k := 5) (by decide) (by decide) l
    have h2 := esc1_len (c := 60) (z := zLt) (k := 4) (by decide) (by decide) (esc1 38 zAmp l)
    refine ⟨_, CwR.psst_one (CwR.pst_ret (CwR.pet_replT (CwR.pet_replT (CwR.pet_replC (pv 0))))), ?_⟩
    refine ⟨_, rfl, _, rfl, ?_, ?_⟩
    · rw [TX_len]
      show l.length + (l.length + 1) * 5 ≤ _
      omega
    rw [rep_eq k_amp k_zamp]
    refine ⟨_, rfl, ?_, ?_⟩
    · rw [TX_len]
      show (esc1 38 zAmp l).length + ((esc1 38 zAmp l).length + 1) * 4 ≤ _
      omega
    rw [rep_eq k_lt k_zlt]
    refine ⟨_, rfl, ?_, ?_⟩
    · rw [TX_len]
      show (esc1 60 zLt (esc1 38 zAmp l)).length + ((esc1 60 zLt (esc1 38 zAmp l)).length + 1) * 6 ≤ _
      omega
    rw [rep_eq k_quot k_zquot]
    exact q
theorem sc_written_element : FnScope ["node", "inner", "_", "tag", "attributes", "pairs", "name", "text"] ["node", "inner"] (defScope s_written_element) := ⟨rfl, rfl, rfl, by decide +kernel, rfl, by decide +kernel, by decide +kernel⟩
theorem a_mem {a : List Nat × List Nat} : ∀ {as : List (List Nat × List Nat)}, a ∈ as → a.1.length + 120 * a.2.length + 20 ≤ wA as
  | b :: as, h => by
    simp only [wA, List.map_cons, List.sum_cons]
    rcases List.mem_cons.mp h with rfl | h
    · omega
    · have := a_mem h
      simp only [wA] at this
      omega
theorem wA_len (as : List (List Nat × List Nat)) : 20 * as.length ≤ wA as := by
  induction as with
  | nil => simp [wA]
  | cons a as ih =>
    simp only [wA, List.map_cons, List.sum_cons, List.length_cons] at ih ⊢
    omega
theorem ok_elem (T : Txt K w mg C) : Cal P w K mg base 2 "written_element" spElem := by
  have Gwritten_value := ok_value (P := P) (base := base) T
  refine cal_of T.d_written_element sc_written_element (fun vs H Q E h => ?_) (fun f cdv A outer s H vs Q E hr h => ?_)
  · obtain ⟨v, t, as, ks, i, rfl, _⟩ := h
    rfl
  · obtain ⟨v, t, as, ks, inner, rfl, hd, hw, q⟩ := h
    obtain ⟨qd, pa, pk, rfl, hq, hpa, hpk⟩ := n_el hd
    obtain ⟨ps, h1, h2, h3⟩ := pairs_at hpa
    have big : 10000000 < sizeLine := by decide
    have wal := wA_len as
    refine ⟨_, (pss_cons (ps_asg (pv 0) (pg_tup rfl (pgs_cons (pg_name (i := 2) sc_written_element.nd rfl (Or.inl rfl)) (pgs_cons (pg_name (i := 3) sc_written_element.nd rfl (Or.inl rfl)) (pgs_cons (pg_name (i := 4) sc_written_element.nd rfl (Or.inl rfl)) (pgs_cons (pg_name (i := 2) sc_written_element.nd rfl (Or.inl rfl)) pgs_nil)))))) (pss_cons (ps_set (i := 5) sc_written_element.nd rfl (Or.inl rfl) (pe_join pe_str (pe_lc (own := [("name", 6), ("text", 7)]) (g := gTup K 2 (gCons (gName 6) (gCons (gName 7) (gNil)))) (tt := tYes) rfl sc_written_element.nd (pi_list (pv 4)) (blkOk_by (N := ["node", "inner", "_", "tag", "attributes", "pairs", "name", "text"]) (sc := (defScope s_written_element)) (by decide +kernel)) (fun _ _ _ _ _ => pg_tupS (K := K) rfl rfl (pgs_cons (pg_name (i := 6) sc_written_element.nd rfl (Or.inl rfl)) (pgs_cons (pg_name (i := 7) sc_written_element.nd rfl (Or.inl rfl)) pgs_nil))) (fun _ _ _ _ _ => pts_nil) (fun _ _ _ _ _ => (pe_joinedT (PJ.cons pe_str (PJ.cons (pe_fmt (pv 6)) (PJ.cons pe_str (PJ.cons (pe_fmt (pe_c Gwritten_value hr (by decide) (by rfl) (pa_cons (pv 7) pa_nil))) (PJ.cons pe_str PJ.nil)))))))))) (pss_one (ps_ret (pe_joinedT (PJ.cons pe_str (PJ.cons (pe_fmt (pv 3)) (PJ.cons (pe_fmt (pv 5)) (PJ.cons pe_str (PJ.cons (pe_fmt (pv 1)) (PJ.cons pe_str (PJ.cons (pe_fmt (pv 3)) (PJ.cons pe_str PJ.nil))))))))))))), ?_⟩
    refine ⟨_, rfl, qd, _, rfl, SqT.of hq, rfl, _, _, rfl, _, _, rfl, _, _, rfl, _, _, rfl, rfl, ?_⟩
    refine ⟨⟨_, rfl⟩, _, rfl, pa, rfl, ⟨_, SqL.of h1⟩, fun D hD => ?_⟩
    refine lc_it (walk_list (K := K) (a := pa) (xs := ps.map V.ref)) (fun i H' => Same H H' ∧ H' D = some (.lst (((as.take i).map fun a => TX (pairL a)).map V.str))) ⟨Sm.new hD, upd_same⟩ (fun i H' _ z => SqL.of (z.1 _ _ h1)) ?_ ?_
    · rintro i x H1 H2 hi ⟨s1, hl⟩ ⟨rfl, hx⟩
      rw [List.getElem?_map] at hx
      cases hp : ps[i]? with
      | none => rw [hp] at hx; exact nomatch hx
      | some p =>
        rw [hp] at hx
        cases hx
        obtain ⟨a, ha, hpt⟩ := h3 i p hp
        have am := a_mem (List.mem_of_getElem? ha)
        have il : i < as.length := (List.getElem?_eq_some_iff.mp ha).1
        have ev := escV_len a.2
        have tk : as.take (i + 1) = as.take i ++ [a] := by rw [List.take_add_one, ha]; rfl
        refine ⟨_, _, rfl, SqT.of (s1 _ _ hpt), rfl, ?_⟩
        refine ⟨_, _, rfl, _, _, rfl, rfl, rfl, ?_⟩
        refine ⟨_, rfl, ?_, _, rfl, .inl ⟨_, rfl, ?_, _, rfl, ?_, _, rfl, ?_, _, rfl, a.2, rfl, by omega, .inl ⟨_, rfl, ?_, _, rfl, ?_, _, rfl, ?_, ?_⟩⟩⟩
        · simp only [strApp, TX_len, k_0, k_sp, List.length_cons, List.length_nil]
          omega
        · simp only [TX_len]
          omega
        · simp only [strApp, TX_len, k_0, k_sp, List.length_cons, List.length_nil]
          omega
        · simp only [strApp, TX_len, k_0, k_sp, k_eq, List.length_cons, List.length_nil]
          omega
        · simp only [TX_len]
          omega
        · simp only [strApp, TX_len, k_0, k_sp, k_eq, List.length_cons, List.length_nil]
          omega
        · simp only [strApp, TX_len, k_0, k_sp, k_eq, k_quot, List.length_cons, List.length_nil]
          omega
        refine ⟨_, hl, ?_, fun b o e => ?_, ?_⟩
        · simp only [List.length_map, List.length_take]
          omega
        · rw [upd_ne (ne_of_none e hD)]
          exact s1 _ _ e
        · rw [upd_same, tk, List.map_append, List.map_append]
          simp only [k_0, k_sp, k_eq, k_quot, TX_cat]
          rfl
    · rintro H1 ⟨s1, hl⟩
      have tkl : as.take ps.length = as := by rw [h2, List.take_length]
      rw [List.length_map, tkl] at hl
      have pl := pairs_len as
      have em : (as.map fun a => TX (pairL a)) = (as.map pairL).map TX := by rw [List.map_map]; rfl
      rw [em] at hl
      refine ⟨_, D, _, rfl, rfl, .inl (SqL.of hl), ?_, ?_⟩
      · rw [sum_TX, ← List.flatMap_def]
        show _ + _ * 0 ≤ _
        omega
      rw [k_00, join_TX, ← List.flatMap_def]
      refine ⟨_, rfl, ?_, _, rfl, .inl ⟨_, rfl, ?_, _, rfl, ?_, _, rfl, .inl ⟨_, rfl, ?_, _, rfl, ?_, _, rfl, ?_, _, rfl, .inl ⟨_, rfl, ?_, _, rfl, ?_, _, rfl, ?_, _, rfl, .inl ⟨_, rfl, ?_, _, rfl, ?_, _, rfl, ?_, ?_⟩⟩⟩⟩⟩
      all_goals first | (simp only [strApp, TX_len, k_0, k_lt, k_gt, k_lts, List.length_cons, List.length_nil]; omega) | skip
      simp only [k_0, k_lt, k_gt, k_lts, TX_cat]
      exact q _ s1
/-! plain_text -/
theorem sc_plain_text : FnScope ["nodes", "pieces", "node"] ["nodes"] (defScope s_plain_text) := ⟨rfl, rfl, rfl, by decide +kernel, rfl, by decide +kernel, by decide +kernel⟩
theorem plain_0 (T : Txt K w mg C) {k : Nat} : Cal P w K mg base (k + 1) "plain_text" spFalse := cal_of T.d_plain_text sc_plain_text (fun vs H Q E h => h.elim) (fun f cdv A outer s H vs Q E hr h => h.elim)
theorem plain_S (T : Txt K w mg C) {n : Nat} {sp : Sp} (hsp : ∀ m, m + 1 = n → sp = spPlain m) (Gplain_text : Cal P w K mg base (n + 2) "plain_text" sp) : Cal P w K mg base (n + 3) "plain_text" (spPlain n) := by
  have Gwritten_text := ok_text (P := P) (base := base) T
  have Gwritten_element := ok_elem (P := P) (base := base) T
  refine cal_of T.d_plain_text sc_plain_text (fun vs H Q E h => ?_) (fun f cdv A outer s H vs Q E hr h => ?_)
  · obtain ⟨a, ks, rfl, _⟩ := h
    rfl
  · obtain ⟨a, ks, rfl, ht, hn, hw, q⟩ := h
    obtain ⟨xs, ha, hl, hd⟩ := tree_at ht
    have big : 10000000 < sizeLine := by decide
    have lw := len_wS ks
    refine ⟨_, (pss_cons (ps_set (i := 1) sc_plain_text.nd rfl (Or.inl rfl) (pe_lst pa_nil)) (pss_cons (ps_for PassesOwn.never rfl (pi_list (pv 0)) (pg_name (i := 2) sc_plain_text.nd rfl (Or.inl rfl)) (pss_one (ps_if (pt_cmpR op_eq (pe_ix ix_tup (pv 2) pe_int (fun _ _ => rfl)) pe_str (nomark _)) (pss_one (ps_expr (pe_bm PySem.F.plainAttrs_list PySem.F.slot_list_append PySem.F.type_list_append mt_append (pv 1) (pa_cons (pe_c Gplain_text hr (Nat.le_refl _) (by rfl) (pa_cons (pe_ix ix_tup (pv 2) pe_int (fun _ _ => rfl)) pa_nil)) pa_nil)))) (pss_one (ps_if (pt_cmpR op_eq (pe_ix ix_tup (pv 2) pe_int (fun _ _ => rfl)) pe_str (nomark _)) (pss_one (ps_expr (pe_bm PySem.F.plainAttrs_list PySem.F.slot_list_append PySem.F.type_list_append mt_append (pv 1) (pa_cons (pe_c Gwritten_element hr (by omega) (by rfl) (pa_cons (pv 2) (pa_cons (pe_c Gplain_text hr (Nat.le_refl _) (by rfl) (pa_cons (pe_ix ix_tup (pv 2) pe_int (fun _ _ => rfl)) pa_nil)) pa_nil))) pa_nil)))) (pss_one (ps_expr (pe_bm PySem.F.plainAttrs_list PySem.F.slot_list_append PySem.F.type_list_append mt_append (pv 1) (pa_cons (pe_c Gwritten_text hr (by omega) (by rfl) (pa_cons (pe_ix ix_tup (pv 2) pe_int (fun _ _ => rfl)) pa_nil)) pa_nil))))))))) (pss_one (ps_ret (pe_join pe_str (pv 1)))))), ?_⟩
    refine ⟨by show 0 ≤ sizeLine; decide, fun p hp => ?_⟩
    refine ⟨_, rfl, a, rfl, ⟨_, SqL.of (Sm.new hp _ _ ha)⟩, ?_⟩
    refine for_it (walk_list (K := K) (a := a) (xs := xs)) (fun i σ H' => Same H H' ∧ H' p = some (.lst (((ks.take i).map fun d => TX (pieceP d)).map V.str)) ∧ ∃ y, σ = [some (.ref a), some (.ref p), y]) ⟨Sm.new hp, upd_same, _, rfl⟩ (fun i σ H' _ z => SqL.of (z.1 _ _ ha)) ?_ ?_
    · rintro i x σ H1 H2 hi ⟨s1, hpl, y, rfl⟩ ⟨rfl, hx⟩
      obtain ⟨d, hdi, dd⟩ := node_at hd hx
      have dm := dp_mem (List.mem_of_getElem? hdi)
      have wm := w_mem (List.mem_of_getElem? hdi)
      have il : i < ks.length := (List.getElem?_eq_some_iff.mp hdi).1
      have tk : ks.take (i + 1) = ks.take i ++ [d] := by rw [List.take_add_one, hdi]; rfl
      have plen := pieceP_len d
      have dd1 := dd.same s1
      cases d with
      | tx x =>
        obtain ⟨qq, rfl, hq⟩ := n_tx dd1
        simp only [wN] at wm
        refine ⟨_, rfl, qq, _, _, _, rfl, rfl, SqT.of hq, rfl, rfl, _, rfl, ?_⟩
        refine ite2 (fun c => absurd c (sne (by decide +kernel))) (fun _ => ?_)
        refine ⟨_, rfl, qq, _, _, _, rfl, rfl, SqT.of hq, rfl, rfl, _, rfl, ?_⟩
        refine ite2 (fun c => absurd c (sne (by decide +kernel))) (fun _ => ?_)
        refine ⟨_, rfl, .inl ⟨rfl, _, SqL.of hpl⟩, _, rfl, qq, _, _, _, rfl, rfl, SqT.of hq, rfl, x, rfl, by omega, p, _, _, rfl, rfl, hpl, ?_, ?_⟩
        · simp only [List.length_map, List.length_take]
          omega
        · refine ⟨fun b o e => ?_, ?_, _, rfl⟩
          · rw [upd_ne (ne_of_none e hp)]
            exact s1 _ _ e
          · rw [upd_same, tk, List.map_append, List.map_append]
            rfl
      | el t as kk =>
        obtain ⟨qq, qa, qk, rfl, hq, hqa, hqk⟩ := n_el dd1
        simp only [wN] at wm
        simp only [dpN] at dm
        obtain ⟨m, rfl⟩ : ∃ m, n = m + 1 := ⟨n - 1, by omega⟩
        have e := hsp m rfl
        subst e
        refine ⟨_, rfl, qq, _, _, _, rfl, rfl, SqT.of hq, rfl, rfl, _, rfl, ?_⟩
        refine ite2 (fun c => absurd c (sne (by decide +kernel))) (fun _ => ?_)
        refine ⟨_, rfl, qq, _, _, _, rfl, rfl, SqT.of hq, rfl, rfl, _, rfl, ?_⟩
        refine ite2 (fun _ => ?_) (fun c => absurd (by simp) c)
        have cl := catP_len kk
        refine ⟨_, rfl, .inl ⟨rfl, _, SqL.of hpl⟩, _, rfl, _, rfl, qq, _, _, _, rfl, rfl, SqT.of hq, rfl, qk, kk, rfl, hqk, by omega, by omega, fun H3 s3 => ⟨.ref qq, t, as, kk, _, rfl, dd1.same s3, by omega, fun H4 s4 => ?_⟩⟩
        refine ⟨p, _, _, rfl, rfl, s4 _ _ (s3 _ _ hpl), ?_, fun b o e => ?_, ?_, _, rfl⟩
        · simp only [List.length_map, List.length_take]
          omega
        · rw [upd_ne (ne_of_none e hp)]
          exact s4 _ _ (s3 _ _ (s1 _ _ e))
        · rw [upd_same, tk, List.map_append, List.map_append]
          rfl
      | aw nn kk =>
        obtain ⟨qq, qk, rfl, hq, hqk⟩ := n_aw dd1
        simp only [wN] at wm
        simp only [dpN] at dm
        obtain ⟨m, rfl⟩ : ∃ m, n = m + 1 := ⟨n - 1, by omega⟩
        have e := hsp m rfl
        subst e
        refine ⟨_, rfl, qq, _, _, _, rfl, rfl, SqT.of hq, rfl, rfl, _, rfl, ?_⟩
        refine ite2 (fun _ => ?_) (fun c => absurd (by simp) c)
        refine ⟨_, rfl, .inl ⟨rfl, _, SqL.of hpl⟩, _, rfl, qq, _, _, _, rfl, rfl, SqT.of hq, rfl, qk, kk, rfl, hqk, by omega, by omega, fun H3 s3 => ?_⟩
        refine ⟨p, _, _, rfl, rfl, s3 _ _ hpl, ?_, fun b o e => ?_, ?_, _, rfl⟩
        · simp only [List.length_map, List.length_take]
          omega
        · rw [upd_ne (ne_of_none e hp)]
          exact s3 _ _ (s1 _ _ e)
        · rw [upd_same, tk, List.map_append, List.map_append]
          rfl
    · rintro σ H1 ⟨s1, hpl, y, rfl⟩
      rw [hl, List.take_length, show (ks.map fun d => TX (pieceP d)) = (ks.map pieceP).map TX by rw [List.map_map]; rfl] at hpl
      have fl := flat_catP ks
      have cl := catP_len ks
      refine ⟨⟨_, rfl⟩, _, rfl, _, p, _, rfl, rfl, .inl (SqL.of hpl), ?_, ?_⟩
      · rw [sum_TX, fl]
        show _ + _ * 0 ≤ _
        omega
      · rw [k_00, join_TX, fl]
        exact q _ s1
theorem plain_N (T : Txt K w mg C) : ∀ n : Nat, Cal P w K mg base (n + 3) "plain_text" (spPlain n)
  | 0 => plain_S T (n := 0) (sp := spFalse) (fun m h => by omega) (plain_0 T)
  | n + 1 => plain_S T (n := n + 1) (sp := spPlain n) (fun m h => by rw [Nat.succ.inj h]) (plain_N T n)
end
end VL

set_option Elab.async false
set_option linter.all false
set_option pp.maxSteps 700
set_option maxRecDepth 100000
set_option maxHeartbeats 4000000
namespace VL
open PySem PySem.Spec PyProof.Rows L2
/-- a number's text -/
def nL (i : Int) : List Nat := (Str.ofString (toString i)).cps.toList
theorem nL_TX (i : Int) : Str.ofString (toString i) = TX (nL i) := by simp [nL]
theorem nL_len : ∀ i : Int, 0 ≤ i → i < 10 ^ 30 → (nL i).length ≤ 30 := fun i h0 h1 => by
  have := toString_length_le (k := 30) h0 (by decide) h1
  rw [nL_TX, TX_len] at this
  exact this
theorem log_ok {i : Int} (h0 : 0 ≤ i) (h1 : i < 10 ^ 30) : i.natAbs.log2 < 1920 := by
  have h2 : i.natAbs < 2 ^ 1920 := by
    have : i.natAbs < 10 ^ 30 := by omega
    exact Nat.lt_trans this (by decide)
  by_cases hz : i.natAbs = 0
  · rw [hz]; decide
  · exact (Nat.log2_lt hz).mpr h2
def spWrite (n : Nat) : Sp := fun vs H Q _ => ∃ (a : Addr) (ks : List Nd), vs = [.ref a] ∧ TreeA H a ks ∧ dpS ks ≤ n ∧ wS ks ≤ 8000000 ∧ nuS ks ∧ ∀ H', Same H H' → Q (.str (TX (catW nL false ks))) H'
section
variable {P : Program} {w : World} {K : PySem.W.Frag} {mg : Str → Option Value} {base : Heap} {C : Ad}
theorem sc_write_tree : FnScope ["nodes", "pieces", "is_behind_text", "node", "is_text", "number"] ["nodes"] (defScope s_write_tree) := ⟨rfl, rfl, rfl, by decide +kernel, rfl, by decide +kernel, by decide +kernel⟩
theorem write_0 (T : Txt K w mg C) {k : Nat} : Cal P w K mg base (k + 1) "write_tree" spFalse := cal_of T.d_write_tree sc_write_tree (fun vs H Q E h => h.elim) (fun f cdv A outer s H vs Q E hr h => h.elim)
theorem write_S (T : Txt K w mg C) {n : Nat} {sp : Sp} (hsp : ∀ m, m + 1 = n → sp = spWrite m) (Gwrite_tree : Cal P w K mg base (n + 2) "write_tree" sp) : Cal P w K mg base (n + 3) "write_tree" (spWrite n) := by
  have Gwritten_text := ok_text (P := P) (base := base) T
  have Gwritten_element := ok_elem (P := P) (base := base) T
  refine cal_of T.d_write_tree sc_write_tree (fun vs H Q E h => ?_) (fun f cdv A outer s H vs Q E hr h => ?_)
  · obtain ⟨a, ks, rfl, _⟩ := h
    rfl
  · obtain ⟨a, ks, rfl, ht, hn, hw, hu, q⟩ := h
    obtain ⟨xs, ha, hl, hd⟩ := tree_at ht
    have big : 20000000 > sizeLine ∧ 10000000 < sizeLine := by decide
    have lw := len_wS ks
    refine ⟨_, (pss_cons (ps_set (i := 1) sc_write_tree.nd rfl (Or.inl rfl) (pe_lst pa_nil)) (pss_cons (ps_set (i := 2) sc_write_tree.nd rfl (Or.inl rfl) pe_bl) (pss_cons (ps_for PassesOwn.never rfl (pi_list (pv 0)) (pg_name (i := 3) sc_write_tree.nd rfl (Or.inl rfl)) (pss_cons (ps_set (i := 4) sc_write_tree.nd rfl (Or.inl rfl) (pe_and (pe_cmpR op_eq (pe_ix ix_tup (pv 3) pe_int (fun _ _ => rfl)) pe_str (nomark _)) (pe_one (pe_cmpR op_ne (pe_ix ix_tup (pv 3) pe_int (fun _ _ => rfl)) pe_str (nomark _))))) (C8.pss_cut (ps_if (PW.pt (pw_and (pt_val (pv 2)) (pw_and1 (pt_val (pv 4))))) (pss_one (ps_expr (pe_bm PySem.F.plainAttrs_list PySem.F.slot_list_append PySem.F.type_list_append mt_append (pv 1) (pa_cons (C8.pe_gc (by rfl) T.g_BETWEEN_TEXTS) pa_nil)))) pss_nil) (pss_cons (ps_if (pt_cmpR op_eq (pe_ix ix_tup (pv 3) pe_int (fun _ _ => rfl)) pe_str (nomark _)) (pss_cons (ps_set (i := 5) sc_write_tree.nd rfl (Or.inl rfl) (pe_ifExp (pt_cmp (pc_isN (pe_ix ix_tup (pv 3) pe_int (fun _ _ => rfl)))) pe_str (pe_callTy call_str_int (by rfl) T.z_str (by decide +kernel) (pa_cons (pe_ix ix_tup (pv 3) pe_int (fun _ _ => rfl)) pa_nil)))) (pss_one (ps_expr (pe_bm PySem.F.plainAttrs_list PySem.F.slot_list_append PySem.F.type_list_append mt_append (pv 1) (pa_cons (pe_op op_add_str (pe_op op_add_str (pe_joinedT (PJ.cons pe_str (PJ.cons (pe_fmt (pv 5)) (PJ.cons pe_str PJ.nil)))) (pe_c Gwrite_tree hr (Nat.le_refl _) (by rfl) (pa_cons (pe_ix ix_tup (pv 3) pe_int (fun _ _ => rfl)) pa_nil))) (C8.pe_gc (by rfl) T.g_AWAIT_END)) pa_nil))))) (pss_one (ps_if (pt_cmpR op_eq (pe_ix ix_tup (pv 3) pe_int (fun _ _ => rfl)) pe_str (nomark _)) (pss_one (ps_expr (pe_bm PySem.F.plainAttrs_list PySem.F.slot_list_append PySem.F.type_list_append mt_append (pv 1) (pa_cons (pe_c Gwritten_element hr (by omega) (by rfl) (pa_cons (pv 3) (pa_cons (pe_c Gwrite_tree hr (Nat.le_refl _) (by rfl) (pa_cons (pe_ix ix_tup (pv 3) pe_int (fun _ _ => rfl)) pa_nil)) pa_nil))) pa_nil)))) (pss_one (ps_expr (pe_bm PySem.F.plainAttrs_list PySem.F.slot_list_append PySem.F.type_list_append mt_append (pv 1) (pa_cons (pe_ifExp (pt_val (pv 4)) (pe_c Gwritten_text hr (by omega) (by rfl) (pa_cons (pe_ix ix_tup (pv 3) pe_int (fun _ _ => rfl)) pa_nil)) (C8.pe_gc (by rfl) T.g_EMPTY_TEXT)) pa_nil))))))) (pss_one (ps_set (i := 2) sc_write_tree.nd rfl (Or.inl rfl) (pv 4))))))) (pss_one (ps_ret (pe_join pe_str (pv 1))))))), ?_⟩
    refine ⟨by show 0 ≤ sizeLine; decide, fun p hp => ?_⟩
    refine ⟨_, rfl, a, rfl, ⟨_, SqL.of (Sm.new hp _ _ ha)⟩, ?_⟩
    refine for_it (walk_list (K := K) (a := a) (xs := xs)) (fun i σ H' => Same H H' ∧ ∃ ys : List (List Nat), H' p = some (.lst ((ys.map TX).map V.str)) ∧ ys.flatten = catW nL false (ks.take i) ∧ ys.length ≤ 2 * i ∧ ∃ y3 y4 y5, σ = [some (.ref a), some (.ref p), some (.bl (lastT (ks.take i))), y3, y4, y5]) ⟨Sm.new hp, [], upd_same, by simp [catW], by simp, _, _, _, rfl⟩ (fun i σ H' _ z => SqL.of (z.1 _ _ ha)) ?_ ?_
    · rintro i x σ H1 H2 hi ⟨s1, ys, hpl, yf, yl, y3, y4, y5, rfl⟩ ⟨rfl, hx⟩
      obtain ⟨d, hdi, dd⟩ := node_at hd hx
      have dm := dp_mem (List.mem_of_getElem? hdi)
      have wm := w_mem (List.mem_of_getElem? hdi)
      have um := nu_mem hu (List.mem_of_getElem? hdi)
      have il : i < ks.length := (List.getElem?_eq_some_iff.mp hdi).1
      have tk : ks.take (i + 1) = ks.take i ++ [d] := by rw [List.take_add_one, hdi]; rfl
      have plen := pieceW_len nL nL_len d um
      have fin : ∀ (b : Bool) (us : List (List Nat)) (H3 : Hp) (y3 y4 y5 : Option V), Same H H3 → us.flatten = (if lastT (ks.take i) && isT d then zT else []) ++ pieceW nL d → us.length ≤ 2 → H3 p = some (.lst (((ys ++ us).map TX).map V.str)) → b = isT d →
          (Same H H3 ∧ ∃ ys : List (List Nat), H3 p = some (.lst ((ys.map TX).map V.str)) ∧ ys.flatten = catW nL false (ks.take (i + 1)) ∧ ys.length ≤ 2 * (i + 1) ∧ ∃ z3 z4 z5, [some (V.ref a), some (.ref p), some (.bl b), y3, y4, y5] = [some (.ref a), some (.ref p), some (.bl (lastT (ks.take (i + 1)))), z3, z4, z5]) := by
        intro b us H3 y3 y4 y5 s3 uf ul h3 hb
        refine ⟨s3, ys ++ us, h3, ?_, by rw [List.length_append]; omega, y3, y4, y5, ?_⟩
        · rw [List.flatten_append, yf, uf, tk, catW_sn0]
        · rw [tk, lastT_sn, hb]
      have put : ∀ (us : List (List Nat)) (l : List Nat) (H3 : Hp), Same H H3 → H3 p = some (.lst (((ys ++ us).map TX).map V.str)) → Same H (upd H3 p (.lst (((ys ++ us).map TX).map V.str ++ [V.str (TX l)]))) ∧ upd H3 p (.lst (((ys ++ us).map TX).map V.str ++ [V.str (TX l)])) p = some (.lst (((ys ++ (us ++ [l])).map TX).map V.str)) := by
        intro us l H3 s3 h3
        refine ⟨fun b o e => ?_, ?_⟩
        · rw [upd_ne (ne_of_none e hp)]
          exact s3 _ _ e
        · rw [upd_same, ← List.append_assoc, List.map_append (l₁ := ys ++ us), List.map_append (l₁ := (ys ++ us).map TX)]
          rfl
      have lok : ∀ us : List (List Nat), us.length ≤ 1 → (((ys ++ us).map TX).map V.str).length < sizeLine := fun us h => by
        simp only [List.length_map, List.length_append]
        omega
      cases d with
      | tx x =>
        obtain ⟨qq, rfl, hq⟩ := n_tx dd
        have hq1 := s1 _ _ hq
        simp only [wN] at wm
        have hb : (!decide (V.str (TX x) = V.str "")) = isT (.tx x) := by
          rw [k_00, vstr_TX]
          simp only [isT]
          by_cases h : x = [] <;> simp [h]
        refine ⟨_, rfl, qq, _, _, _, rfl, rfl, SqT.of hq1, rfl, rfl, _, rfl, ite2 (fun _ => ?_) (fun c => absurd (by simp) c)⟩
        refine ⟨_, rfl, qq, _, _, _, rfl, rfl, SqT.of hq1, rfl, rfl, ?_⟩
        refine ⟨fun σ' H' => ∃ us : List (List Nat), us.flatten = (if lastT (ks.take i) && isT (.tx x) then zT else []) ∧ us.length ≤ 1 ∧ H' p = some (.lst (((ys ++ us).map TX).map V.str)) ∧ Same H H' ∧ σ' = [some (.ref a), some (.ref p), some (.bl (lastT (ks.take i))), some (.ref qq), some (.bl (!decide (V.str (TX x) = V.str ""))), y5], ?_, ?_⟩
        · refine ⟨_, rfl, _, rfl, ite2 (fun c1 => ?_) (fun c1 => ?_)⟩
          · refine ⟨_, rfl, _, rfl, ite2 (fun c2 => ?_) (fun c2 => ?_)⟩
            · rw [hb] at c2
              have pp := put [] zT H2 s1 (by simpa using hpl)
              simp only [List.append_nil, List.nil_append] at pp
              refine ⟨_, rfl, .inl ⟨rfl, _, SqL.of hpl⟩, p, _, _, rfl, rfl, hpl, by simpa using lok [] (by simp), [zT], ?_, by simp, pp.2, pp.1, rfl⟩
              rw [c1, c2]
              rfl
            · rw [hb] at c2
              have c3 : isT (.tx x) = false := by simpa using c2
              exact ⟨[], by rw [c3]; simp, by simp, by simpa using hpl, s1, rfl⟩
          · have c3 : lastT (ks.take i) = false := by simpa using c1
            refine iteF ?_
            exact ⟨[], by rw [c3]; simp, by simp, by simpa using hpl, s1, rfl⟩
        · rintro σ' H' ⟨us, uf, ul, hpu, s2, rfl⟩
          have hq' := s2 _ _ hq
          refine ⟨_, rfl, qq, _, _, _, rfl, rfl, SqT.of hq', rfl, rfl, _, rfl, ?_⟩
          refine ite2 (fun c => absurd c (sne (by decide +kernel))) (fun _ => ?_)
          refine ⟨_, rfl, qq, _, _, _, rfl, rfl, SqT.of hq', rfl, rfl, _, rfl, ?_⟩
          refine ite2 (fun c => absurd c (sne (by decide +kernel))) (fun _ => ?_)
          refine ⟨_, rfl, .inl ⟨rfl, _, SqL.of hpu⟩, ?_⟩
          refine ⟨_, rfl, _, rfl, ite2 (fun c2 => ?_) (fun c2 => ?_)⟩
          · rw [hb] at c2
            have hx0 : x ≠ [] := by simpa [isT] using c2
            have pp := put us (escT x) H' s2 hpu
            refine ⟨_, rfl, qq, _, _, _, rfl, rfl, SqT.of hq', rfl, x, rfl, by omega, p, _, _, rfl, rfl, hpu, lok us ul, _, rfl, ?_⟩
            refine fin _ (us ++ [escT x]) _ _ _ _ pp.1 ?_ (by rw [List.length_append]; simp; omega) pp.2 hb
            rw [List.flatten_append, uf]
            simp only [pieceW, if_neg hx0]
            simp
          · rw [hb] at c2
            have hx0 : x = [] := by simpa [isT] using c2
            have pp := put us zE H' s2 hpu
            refine ⟨p, _, _, rfl, rfl, hpu, lok us ul, _, rfl, ?_⟩
            refine fin _ (us ++ [zE]) _ _ _ _ pp.1 ?_ (by rw [List.length_append]; simp; omega) pp.2 hb
            rw [List.flatten_append, uf]
            simp only [pieceW, if_pos hx0]
            simp
      | el t as kk =>
        obtain ⟨qq, qa, qk, rfl, hq, hqa, hqk⟩ := n_el dd
        have hq1 := s1 _ _ hq
        simp only [wN] at wm
        simp only [dpN] at dm
        simp only [nuN] at um
        obtain ⟨m, rfl⟩ : ∃ m, n = m + 1 := ⟨n - 1, by omega⟩
        have e := hsp m rfl
        subst e
        refine ⟨_, rfl, qq, _, _, _, rfl, rfl, SqT.of hq1, rfl, rfl, _, rfl, ite2 (fun c => absurd c (sne (by decide +kernel))) (fun _ => ?_)⟩
        refine ⟨fun σ' H' => H' = H2 ∧ σ' = [some (.ref a), some (.ref p), some (.bl (lastT (ks.take i))), some (.ref qq), some (.bl false), y5], ?_, ?_⟩
        · refine ⟨_, rfl, _, rfl, ite2 (fun c1 => ?_) (fun c1 => ?_)⟩
          · exact ⟨_, rfl, _, rfl, iteF ⟨rfl, rfl⟩⟩
          · exact iteF ⟨rfl, rfl⟩
        · rintro σ' H' ⟨rfl, rfl⟩
          refine ⟨_, rfl, qq, _, _, _, rfl, rfl, SqT.of hq1, rfl, rfl, _, rfl, ?_⟩
          refine ite2 (fun c => absurd c (sne (by decide +kernel))) (fun _ => ?_)
          refine ⟨_, rfl, qq, _, _, _, rfl, rfl, SqT.of hq1, rfl, rfl, _, rfl, ?_⟩
          refine ite2 (fun _ => ?_) (fun c => absurd (by simp) c)
          have cl := catW_len nL nL_len false kk um
          refine ⟨_, rfl, .inl ⟨rfl, _, SqL.of hpl⟩, _, rfl, _, rfl, qq, _, _, _, rfl, rfl, SqT.of hq1, rfl, qk, kk, rfl, hqk.same s1, by omega, by omega, um, fun H3 s3 => ⟨.ref qq, t, as, kk, _, rfl, (dd.same s1).same s3, by omega, fun H4 s4 => ?_⟩⟩
          have s14 := Same.trans s1 (Same.trans s3 s4)
          have h4 := s4 _ _ (s3 _ _ hpl)
          have pp := put [] (elemL t as (catW nL false kk)) H4 s14 (by simpa using h4)
          refine ⟨p, _, _, rfl, rfl, h4, by simpa using lok [] (by simp), _, rfl, ?_⟩
          refine fin _ [elemL t as (catW nL false kk)] _ _ _ _ (by simpa using pp.1) ?_ (by simp) (by simpa using pp.2) rfl
          simp [isT, pieceW]
      | aw nn kk =>
        obtain ⟨qq, qk, rfl, hq, hqk⟩ := n_aw dd
        have hq1 := s1 _ _ hq
        simp only [wN] at wm
        simp only [dpN] at dm
        obtain ⟨um1, um2⟩ : (∀ i, nn = some i → 0 ≤ i ∧ i < 10 ^ 30) ∧ nuS kk := by simpa only [nuN] using um
        obtain ⟨m, rfl⟩ : ∃ m, n = m + 1 := ⟨n - 1, by omega⟩
        have e := hsp m rfl
        subst e
        refine ⟨_, rfl, qq, _, _, _, rfl, rfl, SqT.of hq1, rfl, rfl, _, rfl, ite2 (fun c => absurd c (sne (by decide +kernel))) (fun _ => ?_)⟩
        refine ⟨fun σ' H' => H' = H2 ∧ σ' = [some (.ref a), some (.ref p), some (.bl (lastT (ks.take i))), some (.ref qq), some (.bl false), y5], ?_, ?_⟩
        · refine ⟨_, rfl, _, rfl, ite2 (fun c1 => ?_) (fun c1 => ?_)⟩
          · exact ⟨_, rfl, _, rfl, iteF ⟨rfl, rfl⟩⟩
          · exact iteF ⟨rfl, rfl⟩
        · rintro σ' H' ⟨rfl, rfl⟩
          refine ⟨_, rfl, qq, _, _, _, rfl, rfl, SqT.of hq1, rfl, rfl, _, rfl, ?_⟩
          refine ite2 (fun _ => ?_) (fun c => absurd (by simp) c)
          have cl := catW_len nL nL_len false kk um2
          cases nn with
          | none =>
            refine ⟨_, rfl, qq, _, _, _, rfl, rfl, SqT.of hq1, rfl, true, rfl, iteT ?_⟩
            refine ⟨_, rfl, .inl ⟨rfl, _, SqL.of hpl⟩, _, rfl, ?_, _, rfl, .inl ⟨_, rfl, ?_, _, rfl, ?_, _, rfl, ?_, _, rfl, qq, _, _, _, rfl, rfl, SqT.of hq1, rfl, qk, kk, rfl, hqk.same s1, by omega, by omega, um2, fun H3 s3 => ⟨_, _, rfl, rfl, ?_, _, _, rfl, rfl, ?_, ?_⟩⟩⟩
            all_goals first | (simp only [strApp, TX_len, k_0, k_00, k_A, k_B, k_C, nL_TX, List.length_cons, List.length_nil]; omega) | skip
            simp only [k_0, k_00, k_A, k_B, k_C, nL_TX, TX_cat]
            have s13 := Same.trans s1 s3
            have h3 := s3 _ _ hpl
            have pp := put [] (pieceW nL (.aw none kk)) H3 s13 (by simpa using h3)
            simp only [List.append_nil, List.nil_append] at pp
            refine ⟨p, _, _, rfl, rfl, h3, by simpa using lok [] (by simp), _, rfl, ?_⟩
            refine fin _ [pieceW nL (.aw none kk)] _ _ _ _ pp.1 ?_ (by simp) pp.2 rfl
            simp [isT]
          | some k =>
            obtain ⟨k0, k1⟩ := um1 k rfl
            have kl := nL_len k k0 k1
            refine ⟨_, rfl, qq, _, _, _, rfl, rfl, SqT.of hq1, rfl, false, rfl, iteF ?_⟩
            refine ⟨_, rfl, qq, _, _, _, rfl, rfl, SqT.of hq1, rfl, _, rfl, log_ok k0 k1, ?_⟩
            refine ⟨_, rfl, .inl ⟨rfl, _, SqL.of hpl⟩, _, rfl, ?_, _, rfl, .inl ⟨_, rfl, ?_, _, rfl, ?_, _, rfl, ?_, _, rfl, qq, _, _, _, rfl, rfl, SqT.of hq1, rfl, qk, kk, rfl, hqk.same s1, by omega, by omega, um2, fun H3 s3 => ⟨_, _, rfl, rfl, ?_, _, _, rfl, rfl, ?_, ?_⟩⟩⟩
            all_goals first | (simp only [strApp, TX_len, k_0, k_00, k_A, k_B, k_C, nL_TX, List.length_cons, List.length_nil]; omega) | skip
            simp only [k_0, k_00, k_A, k_B, k_C, nL_TX, TX_cat]
            have s13 := Same.trans s1 s3
            have h3 := s3 _ _ hpl
            have pp := put [] (pieceW nL (.aw (some k) kk)) H3 s13 (by simpa using h3)
            simp only [List.append_nil, List.nil_append] at pp
            refine ⟨p, _, _, rfl, rfl, h3, by simpa using lok [] (by simp), _, rfl, ?_⟩
            refine fin _ [pieceW nL (.aw (some k) kk)] _ _ _ _ pp.1 ?_ (by simp) pp.2 rfl
            simp [isT]
    · rintro σ H1 ⟨s1, ys, hpl, yf, yl, y3, y4, y5, rfl⟩
      rw [hl, List.take_length] at yf
      have cl := catW_len nL nL_len false ks hu
      refine ⟨⟨_, rfl⟩, _, rfl, _, p, _, rfl, rfl, .inl (SqL.of hpl), ?_, ?_⟩
      · rw [sum_TX, yf]
        show _ + _ * 0 ≤ _
        omega
      · rw [k_00, join_TX, yf]
        exact q _ s1
theorem write_N (T : Txt K w mg C) : ∀ n : Nat, Cal P w K mg base (n + 3) "write_tree" (spWrite n)
  | 0 => write_S T (n := 0) (sp := spFalse) (fun m h => by omega) (write_0 T)
  | n + 1 => write_S T (n := n + 1) (sp := spWrite n) (fun m h => by rw [Nat.succ.inj h]) (write_N T n)
end
end VL

set_option Elab.async false
set_option linter.all false
set_option pp.maxSteps 700
set_option maxRecDepth 100000
set_option maxHeartbeats 4000000
namespace VL
open PySem PySem.Spec PyProof.Rows L2
def spRows (K : PySem.W.Frag) : Sp := fun vs H Q _ => ∃ (s : Addr) (ns : List Int) (m : Nat), vs = [.ref s, .int m] ∧ SqL K H s (ns.map V.int) ∧ ns.length ≤ 63 ∧ m ≤ 100 ∧ ∀ r (zs : List Int) H', Same H H' → H r = none → H' r = some (.lst (zs.map V.int)) → zs.length = m → Q (.ref r) H'
theorem map_int_atR {ns : List Int} {j : Int} (h0 : 0 ≤ j) (h1 : j < (ns.length : Int)) : ∃ z, atI (ns.map V.int) j = some (.int z) := by
  have hj : j.toNat < ns.length := by omega
  refine ⟨ns[j.toNat], ?_⟩
  unfold atI ixN
  rw [if_pos h0, if_pos (by rw [List.length_map]; exact h1)]
  show (ns.map V.int)[j.toNat]? = _
  rw [List.getElem?_map, List.getElem?_eq_getElem hj]
  rfl
section
variable {P : Program} {w : World} {K : PySem.W.Frag} {mg : Str → Option Value} {base : Heap} {C : Ad}
theorem sc__law_rows : FnScope ["script", "count", "rows", "k", "cell"] ["script", "count"] (defScope s__law_rows) := ⟨rfl, rfl, rfl, by decide +kernel, rfl, by decide +kernel, by decide +kernel⟩
theorem ok_rows (T : Txt K w mg C) : Cal P w K mg base 1 "_law_rows" (spRows K) := by
  refine cal_of T.d__law_rows sc__law_rows (fun vs H Q E h => ?_) (fun f cdv A outer s H vs Q E hr h => ?_)
  · obtain ⟨a, ns, m, rfl, _⟩ := h
    rfl
  · obtain ⟨a, ns, m, rfl, ha, hn, hm, k⟩ := h
    have hu := hu_of hr
    have big : 100000 < sizeLine := by decide
    refine ⟨_, (pss_cons (ps_set (i := 2) sc__law_rows.nd rfl (Or.inl rfl) (pe_lst pa_nil)) (pss_cons (ps_for PassesOwn.never rfl (pi_range1 (by rfl) T.z_range (pa_cons (pv 1) pa_nil)) (pg_name (i := 3) sc__law_rows.nd rfl (Or.inl rfl)) (pss_cons (ps_set (i := 4) sc__law_rows.nd rfl (Or.inl rfl) pe_int) (C8.pss_cut (ps_if (pt_cmpR op_gt (pe_callB call_len_seq (by rfl) T.z_len PySem.boot_len (pa_cons (pv 0) pa_nil)) pe_int (nomark _)) (pss_one (ps_set (i := 4) sc__law_rows.nd rfl (Or.inl rfl) (pe_callTy call_int1 (by rfl) T.z_int (by decide +kernel) (pa_cons (pe_ix ix_list (pv 0) (pe_op op_mod (pe_callTy call_int1 (by rfl) T.z_int (by decide +kernel) (pa_cons (pv 3) pa_nil)) (pe_callB call_len_seq (by rfl) T.z_len PySem.boot_len (pa_cons (pv 0) pa_nil))) (fun _ _ => rfl)) pa_nil)))) pss_nil) (C8.pss_cut (ps_if (pt_cmpR op_lt (pv 4) pe_int (nomark _)) (pss_one (ps_set (i := 4) sc__law_rows.nd rfl (Or.inl rfl) (pe_op op_sub pe_int (pe_op op_mul pe_int (pv 4))))) pss_nil) (C8.pss_cut (ps_if (PW.pt (pw_or (pt_cmpR op_ge (pv 3) (pe_callB call_len_seq (by rfl) T.z_len PySem.boot_len (pa_cons (pv 0) pa_nil)) (nomark _)) (pw_or1 (pt_cmpR op_lt (pv 4) pe_int (nomark _))))) (pss_cons (ps_set (i := 4) sc__law_rows.nd rfl (Or.inl rfl) (pe_op op_mod (pe_callTy call_int1 (by rfl) T.z_int (by decide +kernel) (pa_cons (pe_op op_add (pe_op op_mul (pe_op op_add (pe_op op_add (pv 4) (pe_op op_mul pe_int (pv 3))) pe_int) pe_int) (pe_op op_mul (pe_op op_mul (pv 3) (pv 3)) pe_int)) pa_nil)) pe_int)) (pss_one (ps_set (i := 4) sc__law_rows.nd rfl (Or.inl rfl) (pe_op op_mod (pe_callTy call_int1 (by rfl) T.z_int (by decide +kernel) (pa_cons (pe_op op_mul (pe_op op_add (pe_op op_add (pv 4) (pe_op op_mul pe_int (pv 3))) pe_int) pe_int) pa_nil)) pe_int)))) pss_nil) (pss_one (ps_expr (pe_bm PySem.F.plainAttrs_list PySem.F.slot_list_append PySem.F.type_list_append mt_append (pv 2) (pa_cons (pv 4) pa_nil))))))))) (pss_one (ps_ret (pv 2))))), ?_⟩
    refine ⟨by show 0 ≤ sizeLine; decide, fun r hr0 => ?_⟩
    refine ⟨_, rfl, _, rfl, by omega, by omega, ?_⟩
    refine for_range (lo := 0) (n := ((m : Nat) : Int).toNat) (fun i σ H' => ∃ (zs : List Int) (y1 y2 : Option V), Same H H' ∧ H' r = some (.lst (zs.map V.int)) ∧ zs.length = i ∧ σ = [some (.ref a), some (.int m), some (.ref r), y1, y2]) ⟨[], none, none, Sm.new hr0, upd_same, rfl, rfl⟩ ?_ ?_
    · rintro i σ H1 hi ⟨zs, y1, y2, s1, h1, zl, rfl⟩
      have hi' : i < m := by omega
      have ha1 := Same.seq s1 ha
      have hL : ((ns.map V.int).length : Int) = (ns.length : Int) := by rw [List.length_map]
      refine ⟨fun σ' H' => H' = H1 ∧ ∃ c : Int, σ' = [some (.ref a), some (.int m), some (.ref r), some (.int (0 + (i : Int))), some (.int c)], ?_, ?_⟩
      · refine ⟨_, rfl, a, _, rfl, .inl ha1, _, _, rfl, rfl, _, rfl, ?_⟩
        rw [hL]
        refine ite2 (fun q => ?_) (fun q => ⟨rfl, 0, rfl⟩)
        have q' : (0 : Int) < ns.length := of_decide_eq_true q
        obtain ⟨z, hz⟩ := map_int_atR (ns := ns) (j := (0 + (i : Int)) % (ns.length : Int)) (Int.emod_nonneg _ (by omega)) (Int.emod_lt_of_pos _ q')
        refine ⟨_, rfl, _, rfl, .inl ⟨_, rfl, _, rfl, a, _, rfl, .inl ha1, _, _, rfl, rfl, by rw [hL]; exact q', a, _, _, .int z, rfl, rfl, ha1, by rw [hL]; exact hz, .inl ⟨_, rfl, rfl, z, rfl⟩⟩⟩
      · rintro σ' H' ⟨eH, c, rfl⟩
        rw [eH]
        refine ⟨fun σ' H' => H' = H1 ∧ ∃ c : Int, σ' = [some (.ref a), some (.int m), some (.ref r), some (.int (0 + (i : Int))), some (.int c)], ?_, ?_⟩
        · refine ⟨_, rfl, _, _, rfl, rfl, _, rfl, ?_⟩
          refine ite2 (fun q => ?_) (fun q => ⟨rfl, c, rfl⟩)
          exact ⟨_, rfl, _, _, rfl, rfl, .inl ⟨by decide, by decide⟩, _, _, rfl, rfl, rfl, _, rfl⟩
        · rintro σ' H' ⟨eH, c, rfl⟩
          rw [eH]
          refine ⟨fun σ' H' => H' = H1 ∧ ∃ c : Int, σ' = [some (.ref a), some (.int m), some (.ref r), some (.int (0 + (i : Int))), some (.int c)], ?_, ?_⟩
          · refine ⟨_, rfl, _, rfl, a, _, rfl, .inl ha1, _, _, rfl, rfl, _, rfl, ?_⟩
            refine ite2 (fun q => ?_) (fun q => ?_)
            · refine ⟨_, rfl, _, rfl, _, _, rfl, rfl, .inl ⟨by decide, by decide⟩, _, _, rfl, rfl, _, _, rfl, rfl, _, _, rfl, rfl, .inr ⟨by decide, by decide⟩, _, rfl, _, rfl, _, _, rfl, rfl, .inl ⟨by omega, by omega⟩, _, _, rfl, rfl, .inr ⟨by decide, by decide⟩, _, _, rfl, rfl, .inl ⟨_, rfl, _, _, rfl, rfl, (by show (0 : Int) < 1000000007; decide), ?_⟩⟩
              exact ⟨_, rfl, _, rfl, _, _, rfl, rfl, .inl ⟨by decide, by decide⟩, _, _, rfl, rfl, _, _, rfl, rfl, _, _, rfl, rfl, .inr ⟨by decide, by decide⟩, .inl ⟨_, rfl, _, _, rfl, rfl, (by show (0 : Int) < 18446744073709551557; decide), rfl, _, rfl⟩⟩
            · refine ⟨_, rfl, _, _, rfl, rfl, _, rfl, ?_⟩
              refine ite2 (fun q => ?_) (fun q => ⟨rfl, c, rfl⟩)
              refine ⟨_, rfl, _, rfl, _, _, rfl, rfl, .inl ⟨by decide, by decide⟩, _, _, rfl, rfl, _, _, rfl, rfl, _, _, rfl, rfl, .inr ⟨by decide, by decide⟩, _, rfl, _, rfl, _, _, rfl, rfl, .inl ⟨by omega, by omega⟩, _, _, rfl, rfl, .inr ⟨by decide, by decide⟩, _, _, rfl, rfl, .inl ⟨_, rfl, _, _, rfl, rfl, (by show (0 : Int) < 1000000007; decide), ?_⟩⟩
              exact ⟨_, rfl, _, rfl, _, _, rfl, rfl, .inl ⟨by decide, by decide⟩, _, _, rfl, rfl, _, _, rfl, rfl, _, _, rfl, rfl, .inr ⟨by decide, by decide⟩, .inl ⟨_, rfl, _, _, rfl, rfl, (by show (0 : Int) < 18446744073709551557; decide), rfl, _, rfl⟩⟩
          · rintro σ' H' ⟨eH, c, rfl⟩
            rw [eH]
            refine ⟨_, rfl, .inl ⟨rfl, _, SqL.of h1⟩, _, rfl, r, _, _, rfl, rfl, h1, ?_, ?_⟩
            · rw [List.length_map]
              omega
            · refine ⟨zs ++ [c], _, _, fun b o eb => ?_, ?_, by rw [List.length_append, zl]; rfl, rfl⟩
              · rw [upd_ne (ne_of_none eb hr0)]
                exact s1 _ _ eb
              · rw [upd_same, List.map_append]
                rfl
    · rintro σ H1 ⟨zs, y1, y2, s1, h1, zl, rfl⟩
      exact ⟨_, rfl, k r zs H1 s1 hr0 h1 (by omega)⟩
/-! texts and words -/
def okL (m : Nat) (l : List Nat) : Prop := l.length ≤ m ∧ ∀ c ∈ l, c < 200
def spLText : Sp := fun vs H Q _ => ∃ r : Int, vs = [.int r] ∧ ∀ l H', okL 5 l → Same H H' → Q (.str (TX l)) H'
def spWord : Sp := fun vs H Q _ => ∃ r : Int, vs = [.int r] ∧ ∀ l H', okL 5 l → Same H H' → Q (.str (TX l)) H'
theorem at_small {z : Str} {n : Nat} (h : (List.range n).all (fun i => match atI z.cps.toList (i : Nat) with | some c => decide (c < 200) | none => false) = true) {k : Int} (h0 : 0 ≤ k) (h1 : k < n) : ∃ c, atI z.cps.toList k = some c ∧ c < 200 := by
  obtain ⟨m, rfl⟩ := Int.eq_ofNat_of_zero_le h0
  have := List.all_eq_true.mp h m (List.mem_range.mpr (by omega))
  cases e : atI z.cps.toList (m : Int) with
  | none => rw [e] at this; exact nomatch this
  | some c => rw [e] at this; exact ⟨c, rfl, of_decide_eq_true this⟩
theorem atI_mem {α : Type} {xs : List α} {k : Int} (h0 : 0 ≤ k) (h1 : k < xs.length) : ∃ x, atI xs k = some x ∧ x ∈ xs := by
  obtain ⟨m, rfl⟩ := Int.eq_ofNat_of_zero_le h0
  refine ⟨xs[m]'(by omega), ?_, List.getElem_mem _⟩
  unfold atI ixN
  rw [if_pos h0, if_pos h1]
  show xs[(m : Int).toNat]? = _
  rw [Int.toNat_natCast, List.getElem?_eq_getElem]
theorem sc__law_text : FnScope ["row", "signs", "j"] ["row"] (defScope s__law_text) := ⟨rfl, rfl, rfl, by decide +kernel, rfl, by decide +kernel, by decide +kernel⟩
theorem ok_ltext (T : Txt K w mg C) : Cal P w K mg base 1 "_law_text" spLText := by
  refine cal_of T.d__law_text sc__law_text (fun vs H Q E h => ?_) (fun f cdv A outer s H vs Q E hr h => ?_)
  · obtain ⟨r, rfl, _⟩ := h
    rfl
  · obtain ⟨r, rfl, q⟩ := h
    have big : 100000 < sizeLine := by decide
    have r0 : 0 ≤ r % 6 := Int.emod_nonneg _ (by decide)
    have r1 : r % 6 < 6 := Int.emod_lt_of_pos _ (by decide)
    refine ⟨_, (pss_cons (ps_set (i := 1) sc__law_text.nd rfl (Or.inr rfl) pe_str) (pss_one (ps_ret (pe_join pe_str (pe_lc (own := [("j", 2)]) (g := gName 2) (tt := tYes) rfl sc__law_text.nd (pi_range1 (by rfl) T.z_range (pa_cons (pe_op op_mod (pe_callTy call_int1 (by rfl) T.z_int (by decide +kernel) (pa_cons (pv 0) pa_nil)) pe_int) pa_nil)) (blkOk_by (N := ["row", "signs", "j"]) (sc := (defScope s__law_text)) (by decide +kernel)) (fun _ _ _ _ _ => pg_name (i := 2) sc__law_text.nd rfl (Or.inl rfl)) (fun _ _ _ _ _ => pts_nil) (fun _ _ _ _ _ => (pe_ix ix_str (pv 1) (pe_op op_mod (pe_callTy call_int1 (by rfl) T.z_int (by decide +kernel) (pa_cons (pe_op op_fdiv (pv 0) (pe_op op_add pe_int (pe_op op_mul pe_int (pv 2)))) pa_nil)) pe_int) (fun _ _ => rfl)))))))), ?_⟩
    refine ⟨⟨_, rfl⟩, _, rfl, .inl ⟨_, rfl, _, _, rfl, rfl, (by show (0 : Int) < 6; decide), _, rfl, by omega, by omega, fun D hD => ?_⟩⟩
    refine lc_it (walk_range (lo := 0) (n := (r % 6).toNat)) (fun i H' => Same H H' ∧ ∃ cs : List Nat, cs.length = i ∧ (∀ c ∈ cs, c < 200) ∧ H' D = some (.lst (((cs.map fun c => [c]).map TX).map V.str))) ⟨Sm.new hD, [], rfl, by simp, upd_same⟩ (fun i H' _ z => trivial) ?_ ?_
    · rintro i x H1 H2 hi ⟨s1, cs, cl, cb, hc⟩ ⟨rfl, rfl⟩
      have hi' : (i : Int) < 6 := by omega
      have k0 : 0 ≤ (r / (3 + 5 * (0 + (i : Int)))) % 14 := Int.emod_nonneg _ (by decide)
      have k1 : (r / (3 + 5 * (0 + (i : Int)))) % 14 < 14 := Int.emod_lt_of_pos _ (by decide)
      obtain ⟨c, hcc, hcb⟩ := at_small (z := "ab<>&\"- ;!\n=/1") (n := 14) (by decide +kernel) k0 k1
      refine ⟨rfl, ?_⟩
      refine ⟨_, rfl, _, rfl, _, rfl, _, _, rfl, rfl, .inl ⟨by decide, by decide⟩, _, _, rfl, rfl, _, _, rfl, rfl, ⟨by omega, by omega⟩, .inl ⟨_, rfl, _, _, rfl, rfl, (by show (0 : Int) < 14; decide), _, _, c, rfl, rfl, (by decide +kernel), hcc, ?_⟩⟩
      refine ⟨_, hc, by simp only [List.length_map]; omega, fun b o e => ?_, cs ++ [c], by simp [cl], fun x hx => ?_, ?_⟩
      · rw [upd_ne (ne_of_none e hD)]
        exact s1 _ _ e
      · rcases List.mem_append.mp hx with hx | hx
        · exact cb x hx
        · rw [List.mem_singleton.mp hx]; exact hcb
      · rw [upd_same, List.map_append, List.map_append, List.map_append]
        rfl
    · rintro H1 ⟨s1, cs, cl, cb, hc⟩
      have fl : (cs.map fun c => [c]).flatten = cs := by
        clear q hc cl cb
        induction cs with
        | nil => rfl
        | cons c cs ih => simp [ih]
      refine ⟨_, D, _, rfl, rfl, .inl (SqL.of hc), ?_, ?_⟩
      · rw [sum_TX, fl]
        show _ + _ * 0 ≤ _
        omega
      · rw [k_00, join_TX, fl]
        exact q cs _ ⟨by omega, cb⟩ s1
theorem sc__law_word : FnScope ["row"] ["row"] (defScope s__law_word) := ⟨rfl, rfl, rfl, by decide +kernel, rfl, by decide +kernel, by decide +kernel⟩
theorem words_ok {x : V} (h : x ∈ [V.str "a", .str "p", .str "li", .str "x-1", .str "b2", .str "span"]) : ∃ l, x = .str (TX l) ∧ okL 5 l := by
  simp only [List.mem_cons, List.not_mem_nil, or_false] at h
  rcases h with rfl | rfl | rfl | rfl | rfl | rfl
  · exact ⟨[97], rfl, by unfold okL; decide⟩
  · exact ⟨[112], rfl, by unfold okL; decide⟩
  · exact ⟨[108, 105], rfl, by unfold okL; decide⟩
  · exact ⟨[120, 45, 49], rfl, by unfold okL; decide⟩
  · exact ⟨[98, 50], rfl, by unfold okL; decide⟩
  · exact ⟨[115, 112, 97, 110], rfl, by unfold okL; decide⟩
theorem names_ok {x : V} (h : x ∈ [V.str "n", .str "v-2", .str "data"]) : ∃ l, x = .str (TX l) ∧ okL 5 l := by
  simp only [List.mem_cons, List.not_mem_nil, or_false] at h
  rcases h with rfl | rfl | rfl
  · exact ⟨[110], rfl, by unfold okL; decide⟩
  · exact ⟨[118, 45, 50], rfl, by unfold okL; decide⟩
  · exact ⟨[100, 97, 116, 97], rfl, by unfold okL; decide⟩
theorem ok_word (T : Txt K w mg C) : Cal P w K mg base 1 "_law_word" spWord := by
  refine cal_of T.d__law_word sc__law_word (fun vs H Q E h => ?_) (fun f cdv A outer s H vs Q E hr h => ?_)
  · obtain ⟨r, rfl, _⟩ := h
    rfl
  · obtain ⟨r, rfl, q⟩ := h
    have r0 : 0 ≤ r % 6 := Int.emod_nonneg _ (by decide)
    have r1 : r % 6 < 6 := Int.emod_lt_of_pos _ (by decide)
    obtain ⟨x, hx, hm⟩ := atI_mem (xs := [V.str "a", .str "p", .str "li", .str "x-1", .str "b2", .str "span"]) r0 r1
    obtain ⟨l, rfl, hl⟩ := words_ok hm
    refine ⟨_, (pss_one (ps_ret (pe_ix ix_list (pe_lst (pa_cons pe_str (pa_cons pe_str (pa_cons pe_str (pa_cons pe_str (pa_cons pe_str (pa_cons pe_str pa_nil))))))) (pe_op op_mod (pe_callTy call_int1 (by rfl) T.z_int (by decide +kernel) (pa_cons (pv 0) pa_nil)) pe_int) (fun _ _ => rfl)))), ?_⟩
    refine ⟨by show 6 ≤ sizeLine; decide, fun p hp => ⟨_, rfl, .inl ⟨_, rfl, _, _, rfl, rfl, (by show (0 : Int) < 6; decide), p, _, _, _, rfl, rfl, SqL.of upd_same, hx, q l _ hl (Sm.new hp)⟩⟩⟩
end
end VL

set_option Elab.async false
set_option linter.all false
set_option pp.maxSteps 700
set_option maxRecDepth 100000
set_option maxHeartbeats 4000000
namespace VL
open PySem PySem.Spec PyProof.Rows L2
/-! ### sizes -/
theorem lenC_append (a b : Str) : (a ++ b).length = a.length + b.length := strApp a b
theorem small_tx {m : Nat} {l : List Nat} (h : okL m l) : Small (10 * m + 2) 0 (.str (TX l)) := by
  refine ⟨rfl, Nat.le_refl _, ?_⟩
  have := fmt_piled [TX l] (fun y hy c hc => by
    rw [List.mem_singleton] at hy
    subst hy
    rw [TX_tl] at hc
    exact Nat.lt_trans (h.2 c hc) (by decide))
  have e1 : fmtCost [TX l] = 10 * l.length + 4 := by rw [fmtCost_cons, TX_len]; rfl
  have e2 : piled ([TX l].map reprText) = (reprText (TX l)).length + 2 := by simp [piled]
  have := h.1
  show (reprText (TX l)).length ≤ _
  omega
theorem small_str {x : Str} {c : Nat} (h : (reprText x).length ≤ c) : Small c 0 (.str x) := ⟨rfl, Nat.le_refl _, h⟩
theorem small_t {k : Nat} {ds : List PyData} {c : Nat} (h : ∀ d ∈ ds, PyData.showable d = true ∧ PyData.depth d ≤ k) (hl : piled (PyData.shownAll ds) ≤ c) : Small (3 + c) (k + 1) (.tuple ds) := by
  refine ⟨?_, ?_, ?_⟩
  · show PyData.showableAll ds = true
    exact shAll_mem fun d hd => (h d hd).1
  · show PyData.depthAll ds + 1 ≤ k + 1
    have := dpAll_mem fun d hd => (h d hd).2
    omega
  · show (tupleText (PyData.shownAll ds)).length ≤ _
    have h1 := tupText_le (PyData.shownAll ds)
    omega
theorem small_t2 {a b : PyData} {x y k : Nat} (ha : Small x k a) (hb : Small y k b) : Small (7 + x + y) (k + 1) (.tuple [a, b]) := by
  have := small_t (ds := [a, b]) (k := k) (c := x + 2 + (y + 2)) (fun d hd => by
    simp only [List.mem_cons, List.not_mem_nil, or_false] at hd
    rcases hd with rfl | rfl
    · exact ⟨ha.sh, ha.dp⟩
    · exact ⟨hb.sh, hb.dp⟩) (by
    have := ha.ln
    have := hb.ln
    simp only [PyData.shownAll, piled, List.map_cons, List.map_nil, List.sum_cons, List.sum_nil]
    omega)
  exact this.mono (by omega) (Nat.le_refl _)
theorem small_t3 {a b c : PyData} {x y z k : Nat} (ha : Small x k a) (hb : Small y k b) (hc : Small z k c) : Small (9 + x + y + z) (k + 1) (.tuple [a, b, c]) := by
  have := small_t (ds := [a, b, c]) (k := k) (c := x + 2 + (y + 2) + (z + 2)) (fun d hd => by
    simp only [List.mem_cons, List.not_mem_nil, or_false] at hd
    rcases hd with rfl | rfl | rfl
    · exact ⟨ha.sh, ha.dp⟩
    · exact ⟨hb.sh, hb.dp⟩
    · exact ⟨hc.sh, hc.dp⟩) (by
    have := ha.ln
    have := hb.ln
    have := hc.ln
    simp only [PyData.shownAll, piled, List.map_cons, List.map_nil, List.sum_cons, List.sum_nil]
    omega)
  exact this.mono (by omega) (Nat.le_refl _)
theorem small_t4 {a b c d : PyData} {x y z u k : Nat} (ha : Small x k a) (hb : Small y k b) (hc : Small z k c) (hd : Small u k d) : Small (11 + x + y + z + u) (k + 1) (.tuple [a, b, c, d]) := by
  have := small_t (ds := [a, b, c, d]) (k := k) (c := x + 2 + (y + 2) + (z + 2) + (u + 2)) (fun d hd => by
    simp only [List.mem_cons, List.not_mem_nil, or_false] at hd
    rcases hd with rfl | rfl | rfl | rfl
    · exact ⟨ha.sh, ha.dp⟩
    · exact ⟨hb.sh, hb.dp⟩
    · exact ⟨hc.sh, hc.dp⟩
    · exact ⟨hd.sh, hd.dp⟩) (by
    have := ha.ln
    have := hb.ln
    have := hc.ln
    have := hd.ln
    simp only [PyData.shownAll, piled, List.map_cons, List.map_nil, List.sum_cons, List.sum_nil]
    omega)
  exact this.mono (by omega) (Nat.le_refl _)
def nB : Nat → Nat
  | 0 => 1400
  | n + 1 => 1400 + 3 * nB n
def nP : Nat → Nat
  | 0 => 400
  | n + 1 => 400 + 3 * nP n
structure GoodNd (n : Nat) (d : Nd) : Prop where
  dp : dpN d ≤ n + 1
  wt : wN d ≤ nB n
  nu : nuN d
  sm : Small (nP n) (2 * n + 4) (encN d)
structure GoodL (n : Nat) (ks : List Nd) : Prop where
  g : ∀ d ∈ ks, GoodNd n d
  l : ks.length ≤ 3
theorem GoodL.dp {n : Nat} : ∀ {ks : List Nd}, (∀ d ∈ ks, GoodNd n d) → dpS ks ≤ n + 1
  | [], _ => by simp [dpS]
  | d :: r, h => by
    have := (h d List.mem_cons_self).dp
    have := GoodL.dp fun x hx => h x (List.mem_cons_of_mem _ hx)
    simp only [dpS]
    omega
theorem GoodL.wt {n : Nat} : ∀ {ks : List Nd}, (∀ d ∈ ks, GoodNd n d) → wS ks ≤ ks.length * nB n
  | [], _ => by simp [wS]
  | d :: r, h => by
    have := (h d List.mem_cons_self).wt
    have := GoodL.wt fun x hx => h x (List.mem_cons_of_mem _ hx)
    simp only [wS, List.length_cons, Nat.succ_mul]
    omega
theorem GoodL.nu {n : Nat} : ∀ {ks : List Nd}, (∀ d ∈ ks, GoodNd n d) → nuS ks
  | [], _ => by simp only [nuS]
  | d :: r, h => by
    simp only [nuS]
    exact ⟨(h d List.mem_cons_self).nu, GoodL.nu fun x hx => h x (List.mem_cons_of_mem _ hx)⟩
theorem GoodL.wt3 {n : Nat} {ks : List Nd} (h : GoodL n ks) : wS ks ≤ 3 * nB n := by
  have := GoodL.wt h.g
  have := Nat.mul_le_mul_right (nB n) h.l
  omega
theorem GoodL.sm {n : Nat} {ks : List Nd} (h : GoodL n ks) : Small (8 + 3 * nP n) (2 * n + 5) (.list (encS ks)) := by
  have := small_list (c := nP n) (k := 2 * n + 4) (n := 3) (ds := encS ks) (fun d hd => by
    rw [encS_map] at hd
    obtain ⟨e, he, rfl⟩ := List.mem_map.mp hd
    exact (h.g e he).sm) (by rw [encS_len]; exact h.l)
  exact this.mono (by omega) (by omega)
theorem s_text : (reprText "text").length ≤ 12 := by decide +kernel
theorem s_elem : (reprText "element").length ≤ 12 := by decide +kernel
theorem s_awt : (reprText "await").length ≤ 12 := by decide +kernel
theorem good_tx {n : Nat} {l : List Nat} (h : okL 5 l) : GoodNd n (.tx l) := by
  have hb : 1400 ≤ nB n := by cases n <;> simp [nB]
  have hp : 400 ≤ nP n := by cases n <;> simp [nP]
  have := h.1
  refine ⟨by simp [dpN], by simp only [wN]; omega, by simp only [nuN], ?_⟩
  simp only [encN]
  exact (small_t2 (small_str s_text) (small_tx h)).mono (by omega) (by omega)
structure GoodAs (as : List (List Nat × List Nat)) : Prop where
  a : ∀ p ∈ as, okL 5 p.1 ∧ okL 5 p.2
  l : as.length ≤ 2
theorem GoodAs.sm {as : List (List Nat × List Nat)} (h : GoodAs as) : Small 232 2 (.list (as.map pairD)) := by
  have := small_list (c := 111) (k := 1) (n := 2) (ds := as.map pairD) (fun d hd => by
    obtain ⟨e, he, rfl⟩ := List.mem_map.mp hd
    obtain ⟨h1, h2⟩ := h.a e he
    exact (small_t2 (small_tx h1) (small_tx h2)).mono (by omega) (by omega)) (by rw [List.length_map]; exact h.l)
  exact this.mono (by omega) (by omega)
theorem GoodAs.w {as : List (List Nat × List Nat)} (h : GoodAs as) : wA as ≤ 1250 := by
  have key : ∀ as : List (List Nat × List Nat), (∀ p ∈ as, okL 5 p.1 ∧ okL 5 p.2) → wA as ≤ as.length * 625 := by
    intro as
    induction as with
    | nil => intro _; simp [wA]
    | cons a as ih =>
      intro h
      have := ih fun x hx => h x (List.mem_cons_of_mem _ hx)
      obtain ⟨h1, h2⟩ := h a List.mem_cons_self
      have := h1.1
      have := h2.1
      have e : wA (a :: as) = a.1.length + 120 * a.2.length + 20 + wA as := by simp [wA]
      rw [e, List.length_cons, Nat.succ_mul]
      omega
  have := key as h.a
  have := h.l
  omega
theorem good_el0 {n : Nat} {t : List Nat} {as : List (List Nat × List Nat)} (h : okL 5 t) (ha : GoodAs as) : GoodNd n (.el t as []) := by
  have hb : 1400 ≤ nB n := by cases n <;> simp [nB]
  have hp : 400 ≤ nP n := by cases n <;> simp [nP]
  have := h.1
  have := ha.w
  refine ⟨by simp [dpN, dpS], by simp only [wN, wS]; omega, by simp only [nuN, nuS], ?_⟩
  simp only [encN]
  exact (small_t4 (k := 3) ((small_str s_elem).mono (Nat.le_refl _) (by omega)) ((small_tx h).mono (Nat.le_refl _) (by omega)) (ha.sm.mono (Nat.le_refl _) (by omega)) (z := 232) (u := 2) ⟨rfl, by simp [encS, PyData.depth, PyData.depthAll], by decide +kernel⟩).mono (by omega) (by omega)
theorem good_el {n : Nat} {t : List Nat} {as : List (List Nat × List Nat)} {ks : List Nd} (h : okL 5 t) (ha : GoodAs as) (hk : GoodL n ks) : GoodNd (n + 1) (.el t as ks) := by
  have := h.1
  have := ha.w
  have := hk.wt3
  have := GoodL.dp hk.g
  refine ⟨by simp only [dpN]; omega, by simp only [wN, nB]; omega, by simp only [nuN]; exact GoodL.nu hk.g, ?_⟩
  simp only [encN, nP]
  exact (small_t4 (k := 2 * n + 5) ((small_str s_elem).mono (Nat.le_refl _) (by omega)) ((small_tx h).mono (Nat.le_refl _) (by omega)) (ha.sm.mono (Nat.le_refl _) (by omega)) hk.sm).mono (by omega) (by omega)
theorem small_num {k : Nat} {n : Option Int} (h : ∀ i, n = some i → 0 ≤ i ∧ i < 10 ^ 30) : Small 30 k (nV n) := by
  cases n with
  | none => exact ⟨rfl, Nat.zero_le _, by decide +kernel⟩
  | some i =>
    obtain ⟨h0, h1⟩ := h i rfl
    have hl := log_ok h0 h1
    refine ⟨?_, Nat.zero_le _, ?_⟩
    · show PyData.showable (.int i) = true
      simpa [PyData.showable] using hl
    · have := toString_length_le (k := 30) h0 (by decide) h1
      exact this
theorem good_aw {n : Nat} {m : Option Int} {ks : List Nd} (h : ∀ i, m = some i → 0 ≤ i ∧ i < 10 ^ 30) (hk : GoodL n ks) : GoodNd (n + 1) (.aw m ks) := by
  have := hk.wt3
  have := GoodL.dp hk.g
  refine ⟨by simp only [dpN]; omega, by simp only [wN, nB]; omega, by simp only [nuN]; exact ⟨h, GoodL.nu hk.g⟩, ?_⟩
  simp only [encN, nP]
  exact (small_t3 (k := 2 * n + 5) ((small_str s_awt).mono (Nat.le_refl _) (by omega)) (small_num h) hk.sm).mono (by omega) (by omega)
/-! ### the world -/
def wK (a b c : Int) : List (Key × V) := [(.inr "at", .int a), (.inr "most", .int b), (.inr "number", .int c)]
theorem dg_at {H : Hp} {d : Addr} {a b c : Int} (h : H d = some (.dK (wK a b c))) : DGet H d (.str "at") (some (.int a)) := by
  have := DGet.k (k := .inr "at") h
  exact this
theorem dg_most {H : Hp} {d : Addr} {a b c : Int} (h : H d = some (.dK (wK a b c))) : DGet H d (.str "most") (some (.int b)) := by
  have := DGet.k (k := .inr "most") h
  exact this
theorem dg_num {H : Hp} {d : Addr} {a b c : Int} (h : H d = some (.dK (wK a b c))) : DGet H d (.str "number") (some (.int c)) := by
  have := DGet.k (k := .inr "number") h
  exact this
theorem Sb.put2 {G H : Hp} {M : List (Addr × HO)} {p : Addr × HO} {t : Addr} {o u : HO} (S : Sb G H (p :: (t, o) :: M)) : Sb G (upd H t u) (p :: (t, u) :: M) := S.swap.put.swap
theorem Sb.more {G H H' : Hp} {M : List (Addr × HO)} (S : Sb G H M) (s : Same H H') : ∃ G', Sb G' H' M ∧ Same G G' := ⟨_, S.call s, joinH_l⟩
def Nums (a b c : Int) : Prop := 0 ≤ a ∧ 0 ≤ c ∧ c ≤ 3 * a ∧ c ≤ 3 * b ∧ b ≤ 100
def spTree (n : Nat) : Sp := fun vs H Q _ => ∃ (rl wd : Addr) (d : Int) (zs : List Int) (G : Hp) (M : List (Addr × HO)) (a b c : Int), vs = [.ref rl, .ref wd, .int d] ∧ d + n = 6 ∧ Sb G H ((wd, .dK (wK a b c)) :: M) ∧ G rl = some (.lst (zs.map V.int)) ∧ zs.length = 60 ∧ Nums a b c ∧
  ∀ p ks G' H' a' c', Sb G' H' ((wd, .dK (wK a' b c')) :: M) → Same G G' → TreeA G' p ks → GoodL n ks → Nums a' b c' → Q (.ref p) H'
section
variable {P : Program} {w : World} {K : PySem.W.Frag} {mg : Str → Option Value} {base : Heap} {C : Ad}
theorem sc__law_tree : FnScope ["rows", "world", "depth", "nodes", "_law_turn", "row", "kind", "attributes", "j", "name", "kids", "number"] ["rows", "world", "depth"] (defScope s__law_tree) := ⟨rfl, rfl, rfl, by decide +kernel, rfl, by decide +kernel, by decide +kernel⟩
theorem tree_0 (T : Txt K w mg C) {k : Nat} : Cal P w K mg base (k + 1) "_law_tree" spFalse := cal_of T.d__law_tree sc__law_tree (fun vs H Q E h => h.elim) (fun f cdv A outer s H vs Q E hr h => h.elim)
theorem tree_S (T : Txt K w mg C) {n : Nat} {sp : Sp} (hsp : ∀ m, m + 1 = n → sp = spTree m) (G_law_tree : Cal P w K mg base (n + 2) "_law_tree" sp) : Cal P w K mg base (n + 3) "_law_tree" (spTree n) := by
  have G_law_text := ok_ltext (P := P) (base := base) T
  have G_law_word := ok_word (P := P) (base := base) T
  refine cal_of T.d__law_tree sc__law_tree (fun vs H Q E h => ?_) (fun f cdv A outer s H vs Q E hr h => ?_)
  · obtain ⟨rl, wd, d, zs, G, M, a, b, c, rfl, _⟩ := h
    rfl
  · obtain ⟨rl, wd, d, zs, G, M, a, b, c, rfl, hdn, S, hrl, zl, hN, q⟩ := h
    have hu := hu_of hr
    have big : 100000 < sizeLine := by decide
    have L60 : ((zs.map V.int).length : Int) = 60 := by rw [List.length_map, zl]; rfl
    have draw : ∀ j : Int, ∃ z, atI (zs.map V.int) (j % ((zs.map V.int).length : Int)) = some (.int z) := fun j => by
      rw [L60]
      exact map_int_atR (Int.emod_nonneg _ (by decide)) (by rw [zl]; exact Int.emod_lt_of_pos _ (by decide))
    have L0 : (0 : Int) < ((zs.map V.int).length : Int) := by rw [L60]; decide
    obtain ⟨z0, hz0⟩ := draw a
    have r0 : 0 ≤ z0 % 4 := Int.emod_nonneg _ (by decide)
    have r1 : z0 % 4 < 4 := Int.emod_lt_of_pos _ (by decide)
    refine ⟨_, (pss_cons (ps_set (i := 3) sc__law_tree.nd rfl (Or.inl rfl) (pe_lst pa_nil)) (pss_cons (ps_for PassesOwn.never rfl (pi_range1 (by rfl) T.z_range (pa_cons (pe_op op_mod (pe_callTy call_int1 (by rfl) T.z_int (by decide +kernel) (pa_cons (pe_ix ix_list (pv 0) (pe_op op_mod (pe_dget hu (pv 1) pe_str (fun _ _ => rfl)) (pe_callB call_len_seq (by rfl) T.z_len PySem.boot_len (pa_cons (pv 0) pa_nil))) (fun _ _ => rfl)) pa_nil)) pe_int) pa_nil)) (pg_name (i := 4) sc__law_tree.nd rfl (Or.inl rfl)) (pss_cons (ps_set (i := 5) sc__law_tree.nd rfl (Or.inl rfl) (pe_op op_fdiv (pe_ix ix_list (pv 0) (pe_op op_mod (pe_dget hu (pv 1) pe_str (fun _ _ => rfl)) (pe_callB call_len_seq (by rfl) T.z_len PySem.boot_len (pa_cons (pv 0) pa_nil))) (fun _ _ => rfl)) pe_int)) (pss_cons (ps_dput hu (pv 1) pe_str (pe_op op_add (pe_dget hu (pv 1) pe_str (fun _ _ => rfl)) pe_int) rfl) (pss_cons (ps_if (pt_cmpR op_gt (pe_dget hu (pv 1) pe_str (fun _ _ => rfl)) (pe_dget hu (pv 1) pe_str (fun _ _ => rfl)) (nomark _)) (pss_one ps_break) pss_nil) (pss_cons (ps_set (i := 6) sc__law_tree.nd rfl (Or.inl rfl) (pe_op op_mod (pe_callTy call_int1 (by rfl) T.z_int (by decide +kernel) (pa_cons (pv 5) pa_nil)) pe_int)) (pss_one (ps_if (pt_cmpR op_le (pv 6) pe_int (nomark _)) (pss_one (ps_expr (pe_bm PySem.F.plainAttrs_list PySem.F.slot_list_append PySem.F.type_list_append mt_append (pv 3) (pa_cons (pe_tup (pa_cons pe_str (pa_cons (pe_c G_law_text hr (by omega) (by rfl) (pa_cons (pe_op op_fdiv (pv 5) pe_int) pa_nil)) pa_nil))) pa_nil)))) (pss_one (ps_if (PW.pt (pw_or (pt_cmpR op_le (pv 6) pe_int (nomark _)) (pw_or1 (pt_cmpR op_ge (pv 2) pe_int (nomark _))))) (pss_cons (ps_set (i := 7) sc__law_tree.nd rfl (Or.inl rfl) (pe_lst pa_nil)) (pss_cons (ps_for PassesOwn.never rfl (pi_range1 (by rfl) T.z_range (pa_cons (pe_op op_mod (pe_callTy call_int1 (by rfl) T.z_int (by decide +kernel) (pa_cons (pe_op op_fdiv (pv 5) pe_int) pa_nil)) pe_int) pa_nil)) (pg_name (i := 8) sc__law_tree.nd rfl (Or.inl rfl)) (pss_cons (ps_set (i := 9) sc__law_tree.nd rfl (Or.inl rfl) (pe_ix ix_list (pe_lst (pa_cons pe_str (pa_cons pe_str (pa_cons pe_str pa_nil)))) (pe_op op_mod (pe_op op_add (pe_callTy call_int1 (by rfl) T.z_int (by decide +kernel) (pa_cons (pe_op op_fdiv (pv 5) pe_int) pa_nil)) (pv 8)) pe_int) (fun _ _ => rfl))) (pss_one (ps_expr (pe_bm PySem.F.plainAttrs_list PySem.F.slot_list_append PySem.F.type_list_append mt_append (pv 7) (pa_cons (pe_tup (pa_cons (pv 9) (pa_cons (pe_c G_law_text hr (by omega) (by rfl) (pa_cons (pe_op op_fdiv (pv 5) (pe_op op_add pe_int (pe_op op_mul pe_int (pv 8)))) pa_nil)) pa_nil))) pa_nil)))))) (pss_cons (ps_set (i := 10) sc__law_tree.nd rfl (Or.inl rfl) (pe_lst pa_nil)) (C8.pss_cut (ps_if (pt_cmpR op_lt (pv 2) pe_int (nomark _)) (pss_one (ps_set (i := 10) sc__law_tree.nd rfl (Or.inl rfl) (pe_c G_law_tree hr (Nat.le_refl _) (by rfl) (pa_cons (pv 0) (pa_cons (pv 1) (pa_cons (pe_op op_add (pv 2) pe_int) pa_nil)))))) pss_nil) (pss_one (ps_expr (pe_bm PySem.F.plainAttrs_list PySem.F.slot_list_append PySem.F.type_list_append mt_append (pv 3) (pa_cons (pe_tup (pa_cons pe_str (pa_cons (pe_c G_law_word hr (by omega) (by rfl) (pa_cons (pe_op op_fdiv (pv 5) pe_int) pa_nil)) (pa_cons (pv 7) (pa_cons (pv 10) pa_nil))))) pa_nil)))))))) (pss_cons (ps_set (i := 11) sc__law_tree.nd rfl (Or.inl rfl) pe_non) (C8.pss_cut (ps_if (pt_cmpR op_eq (pv 6) pe_int (nomark _)) (pss_cons (ps_dput hu (pv 1) pe_str (pe_op op_add (pe_op op_add (pe_dget hu (pv 1) pe_str (fun _ _ => rfl)) pe_int) (pe_op op_mod (pe_callTy call_int1 (by rfl) T.z_int (by decide +kernel) (pa_cons (pe_op op_fdiv (pv 5) pe_int) pa_nil)) pe_int)) rfl) (pss_one (ps_set (i := 11) sc__law_tree.nd rfl (Or.inl rfl) (pe_dget hu (pv 1) pe_str (fun _ _ => rfl))))) pss_nil) (pss_one (ps_expr (pe_bm PySem.F.plainAttrs_list PySem.F.slot_list_append PySem.F.type_list_append mt_append (pv 3) (pa_cons (pe_tup (pa_cons pe_str (pa_cons (pv 11) (pa_cons (pe_c G_law_tree hr (Nat.le_refl _) (by rfl) (pa_cons (pv 0) (pa_cons (pv 1) (pa_cons (pe_op op_add (pv 2) pe_int) pa_nil)))) pa_nil)))) pa_nil))))))))))))))) (pss_one (ps_ret (pv 3))))), ?_⟩
    refine ⟨by show 0 ≤ sizeLine; decide, fun p hp => ?_⟩
    have S1 := S.add (o := .lst []) hp
    have hrl1 := S1.s _ _ hrl
    refine ⟨_, rfl, _, rfl, wd, _, rfl, dg_at S1.hd2, _, rfl, rl, _, rfl, .inl (SqL.of hrl1), _, _, rfl, rfl, L0, rl, _, _, _, rfl, rfl, SqL.of hrl1, hz0, .inl ⟨_, rfl, _, _, rfl, rfl, (by show (0 : Int) < 4; decide), _, rfl, by omega, by omega, ?_⟩⟩
    have fin : ∀ (G1 H1 : Hp) (ks : List Nd) (xs : List V) (a1 c1 : Int), Sb G1 H1 ((p, .lst xs) :: (wd, .dK (wK a1 b c1)) :: M) → Same G G1 → DqAll G1 xs (encS ks) → GoodL n ks → Nums a1 b c1 → Q (.ref p) H1 := by
      intro G1 H1 ks xs a1 c1 S1 g1 dk gk nu
      obtain ⟨S2, g2⟩ := S1.drop
      exact q p ks _ H1 a1 c1 S2 (Same.trans g1 g2) (.lst upd_same (dk.same g2)) gk nu
    refine for_it (walk_range (lo := 0) (n := (z0 % 4).toNat)) (fun i σ H' => ∃ (G1 : Hp) (ks : List Nd) (xs : List V) (a1 c1 : Int) (y4 y5 y6 y7 y8 y9 y10 y11 : Option V), Sb G1 H' ((p, .lst xs) :: (wd, .dK (wK a1 b c1)) :: M) ∧ Same G G1 ∧ DqAll G1 xs (encS ks) ∧ (∀ d ∈ ks, GoodNd n d) ∧ ks.length ≤ i ∧ Nums a1 b c1 ∧
      σ = [some (.ref rl), some (.ref wd), some (.int d), some (.ref p), y4, y5, y6, y7, y8, y9, y10, y11]) ⟨G, [], [], a, c, none, none, none, none, none, none, none, none, S1, Same.refl _, .nil, (fun _ h => nomatch h), Nat.le_refl _, hN, rfl⟩ (fun _ _ _ _ _ => trivial) ?_ ?_
    · rintro i x σ H1 H2 hi ⟨G1, ks, xs, a1, c1, y4, y5, y6, y7, y8, y9, y10, y11, S2, g1, dk, gk, kl, ⟨n1, n2, n3, n4, n5⟩, rfl⟩ ⟨rfl, rfl⟩
      obtain ⟨z, hz⟩ := draw a1
      have hrl2 := S2.s _ _ (g1 _ _ hrl)
      have S3 := S2.put2 (u := .dK (wK (a1 + 1) b c1))
      refine ⟨_, rfl, _, rfl, wd, _, rfl, dg_at S2.hd2, _, rfl, rl, _, rfl, .inl (SqL.of hrl2), _, _, rfl, rfl, L0, rl, _, _, _, rfl, rfl, SqL.of hrl2, hz, _, _, rfl, rfl, ⟨by decide, by decide⟩, ?_⟩
      refine ⟨_, rfl, wd, _, rfl, dg_at S2.hd2, _, _, rfl, rfl, _, rfl, wd, _, rfl, DPut.k (k := .inr "at") S2.hd2 (by show 3 < _; decide), ?_⟩
      show _
      refine ⟨_, rfl, wd, _, rfl, dg_at S3.hd2, _, rfl, wd, _, rfl, dg_most S3.hd2, _, _, rfl, rfl, _, rfl, ite2 (fun cb => ?_) (fun cb => ?_)⟩
      · exact ⟨_, rfl, fin G1 _ ks xs (a1 + 1) c1 S3 g1 dk ⟨gk, by omega⟩ ⟨by omega, n2, by omega, n4, n5⟩⟩
      have cb' : a1 + 1 ≤ b := by
        have : ¬ (a1 + 1 > b) := fun z => cb (decide_eq_true z)
        omega
      have step : ∀ (d' : Nd) (v : V) (G3 H3 : Hp) (a3 c3 : Int) (y4 y5 y6 y7 y8 y9 y10 y11 : Option V), Sb G3 H3 ((p, .lst xs) :: (wd, .dK (wK a3 b c3)) :: M) → Same G1 G3 → Dq G3 v (encN d') → GoodNd n d' → Nums a3 b c3 →
          ∃ l xs' v', V.ref p = .ref l ∧ [v] = [v'] ∧ H3 l = some (.lst xs') ∧ xs'.length < sizeLine ∧ (∃ (G1 : Hp) (ks : List Nd) (xs : List V) (a1 c1 : Int) (z4 z5 z6 z7 z8 z9 z10 z11 : Option V), Sb G1 (upd H3 l (.lst (xs' ++ [v']))) ((p, .lst xs) :: (wd, .dK (wK a1 b c1)) :: M) ∧ Same G G1 ∧ DqAll G1 xs (encS ks) ∧ (∀ d ∈ ks, GoodNd n d) ∧ ks.length ≤ i + 1 ∧ Nums a1 b c1 ∧
      [some (V.ref rl), some (.ref wd), some (.int d), some (.ref p), y4, y5, y6, y7, y8, y9, y10, y11] = [some (.ref rl), some (.ref wd), some (.int d), some (.ref p), z4, z5, z6, z7, z8, z9, z10, z11]) := by
        intro d' v G3 H3 a3 c3 y4 y5 y6 y7 y8 y9 y10 y11 S3 g3 dv gd nu
        have xl := dk.len
        rw [encS_len] at xl
        refine ⟨p, xs, v, rfl, rfl, S3.hd, by omega, G3, ks ++ [d'], xs ++ [v], a3, c3, y4, y5, y6, y7, y8, y9, y10, y11, S3.put, Same.trans g1 g3, ?_, ?_, ?_, nu, rfl⟩
        · rw [encS_app]
          exact dqAll_ap (dk.same g3) (by simp only [encS]; exact .cons dv .nil)
        · intro e he
          rcases List.mem_append.mp he with he | he
          · exact gk e he
          · rw [List.mem_singleton.mp he]; exact gd
        · rw [List.length_append, List.length_singleton]
          omega
      refine ⟨_, rfl, .inl ⟨_, rfl, _, _, rfl, rfl, (by show (0 : Int) < 6; decide), ?_⟩⟩
      refine ⟨_, rfl, _, _, rfl, rfl, _, rfl, ite2 (fun k1 => ?_) (fun k1 => ?_)⟩
      · refine ⟨_, rfl, .inl ⟨rfl, _, SqL.of S3.hd⟩, _, rfl, _, _, rfl, rfl, ⟨by decide, by decide⟩, _, rfl, fun l H4 hl s4 => ⟨by show 2 ≤ sizeLine; decide, fun t ht => ?_⟩⟩
        obtain ⟨G4, S4, g4⟩ := S3.more s4
        have S5 := S4.alloc (o := .tup [.str "text", .str (TX l)]) ht
        exact step (.tx l) (.ref t) _ _ (a1 + 1) c1 _ _ _ _ _ _ _ _ S5 (Same.trans g4 (S4.grow ht)) (by simp only [encN]; exact .tup upd_same (.cons (.str _) (.cons (.str _) .nil))) (good_tx hl) ⟨by omega, n2, by omega, n4, n5⟩
      · refine ⟨_, rfl, _, _, rfl, rfl, _, rfl, ite2 (fun k2 => iteT ?A) (fun k2 => ⟨_, rfl, _, _, rfl, rfl, _, rfl, ite2 (fun k3 => ?A2) (fun k3 => ?B)⟩)⟩
        case B =>
          have d6 : d < 6 := by
            have : ¬ (6 ≤ d) := fun z => k3 (decide_eq_true z)
            omega
          obtain ⟨m, rfl⟩ : ∃ m, n = m + 1 := ⟨n - 1, by omega⟩
          have e := hsp m rfl
          subst e
          refine ⟨fun σ' H' => ∃ (num : Option Int) (c4 : Int), Sb G1 H' ((p, .lst xs) :: (wd, .dK (wK (a1 + 1) b c4)) :: M) ∧ Nums (a1 + 1) b c4 ∧ (∀ i, num = some i → 0 ≤ i ∧ i < 10 ^ 30) ∧
            σ' = [some (.ref rl), some (.ref wd), some (.int d), some (.ref p), some (.int (0 + (i : Int))), some (.int (z / 4)), some (.int (z / 4 % 6)), y7, y8, y9, y10, some (nVV num)], ?_, ?_⟩
          · refine ⟨_, rfl, rfl, _, rfl, ite2 (fun k4 => ?_) (fun k4 => ⟨none, c1, S3, ⟨by omega, n2, by omega, n4, n5⟩, (fun _ h => nomatch h), rfl⟩)⟩
            have q0 : 0 ≤ z / 4 / 6 % 3 := Int.emod_nonneg _ (by decide)
            have q1 : z / 4 / 6 % 3 < 3 := Int.emod_lt_of_pos _ (by decide)
            have S4 := S3.put2 (u := .dK (wK (a1 + 1) b (c1 + 1 + z / 4 / 6 % 3)))
            refine ⟨_, rfl, wd, _, rfl, dg_num S3.hd2, _, _, rfl, rfl, _, rfl, _, _, rfl, rfl, ⟨by decide, by decide⟩, .inl ⟨_, rfl, _, _, rfl, rfl, (by show (0 : Int) < 3; decide), _, _, rfl, rfl, _, rfl, wd, _, rfl, DPut.k (k := .inr "number") S3.hd2 (by show 3 < _; decide), ?_⟩⟩
            refine ⟨_, rfl, wd, _, rfl, dg_num S4.hd2, some (c1 + 1 + z / 4 / 6 % 3), _, S4, ⟨by omega, by omega, by omega, by omega, n5⟩, fun j hj => ?_, rfl⟩
            cases hj
            exact ⟨by omega, by omega⟩
          · rintro σ' H4 ⟨num, c4, S4, ⟨u1, u2, u3, u4, u5⟩, hnum, rfl⟩
            refine ⟨_, rfl, .inl ⟨rfl, _, SqL.of S4.hd⟩, _, rfl, _, rfl, _, rfl, _, rfl, _, _, rfl, rfl, rl, wd, d + 1, zs, G1, (p, .lst xs) :: M, a1 + 1, b, c4, rfl, by omega, S4.swap, g1 _ _ hrl, zl, ⟨u1, u2, u3, u4, u5⟩, fun pk kk G5 H5 a5 c5 S5 g5 tk gk5 nu5 => ⟨by show 3 ≤ sizeLine; decide, fun t ht => ?_⟩⟩
            have S6 := S5.swap.alloc (o := .tup [.str "await", nVV num, .ref pk]) ht
            have g6 := S5.swap.grow (o := .tup [.str "await", nVV num, .ref pk]) ht
            refine step (.aw num kk) (.ref t) _ _ a5 c5 _ _ _ _ _ _ _ _ S6 (Same.trans g5 g6) ?_ (good_aw hnum gk5) nu5
            simp only [encN]
            refine .tup upd_same (.cons (.str _) (.cons ?_ (.cons (tk.same g6) .nil)))
            cases num with
            | none => exact .non
            | some j => exact .int j
        all_goals
          refine ⟨by show 0 ≤ sizeLine; decide, fun pa hpa => ?_⟩
          have S4 := S3.add (o := .lst []) hpa
          have q0 : 0 ≤ z / 4 / 6 % 3 := Int.emod_nonneg _ (by decide)
          have q1 : z / 4 / 6 % 3 < 3 := Int.emod_lt_of_pos _ (by decide)
          refine ⟨_, rfl, _, _, rfl, rfl, ⟨by decide, by decide⟩, .inl ⟨_, rfl, _, _, rfl, rfl, (by show (0 : Int) < 3; decide), _, rfl, by omega, by omega, ?_⟩⟩
          refine for_it (walk_range (lo := 0) (n := (z / 4 / 6 % 3).toNat)) (fun j σ H' => ∃ (G2 : Hp) (as : List (List Nat × List Nat)) (ax : List V) (y8 y9 : Option V), Sb G2 H' ((pa, .lst ax) :: (p, .lst xs) :: (wd, .dK (wK (a1 + 1) b c1)) :: M) ∧ Same G1 G2 ∧ DqAll G2 ax (as.map pairD) ∧ (∀ x ∈ as, okL 5 x.1 ∧ okL 5 x.2) ∧ as.length ≤ j ∧
            σ = [some (.ref rl), some (.ref wd), some (.int d), some (.ref p), some (.int (0 + (i : Int))), some (.int (z / 4)), some (.int (z / 4 % 6)), some (.ref pa), y8, y9, y10, y11]) ⟨G1, [], [], _, _, S4, Same.refl _, .nil, (fun _ h => nomatch h), Nat.le_refl _, rfl⟩ (fun _ _ _ _ _ => trivial) ?_ ?_
          · rintro j x σ H5 H6 hj ⟨G2, as, ax, y8, y9, S5, g2, da, ga, al, rfl⟩ ⟨rfl, rfl⟩
            have hj3 : (j : Int) < 3 := by omega
            have axl := da.len
            rw [List.length_map] at axl
            obtain ⟨nm, hnm, hnmm⟩ := atI_mem (xs := [V.str "n", .str "v-2", .str "data"]) (k := (z / 4 / 18 + (0 + (j : Int))) % 3) (Int.emod_nonneg _ (by decide)) (Int.emod_lt_of_pos _ (by decide))
            obtain ⟨ln, rfl, hln⟩ := names_ok hnmm
            refine ⟨by show 3 ≤ sizeLine; decide, fun u hu => ⟨_, rfl, _, _, rfl, rfl, ⟨by decide, by decide⟩, .inl ⟨_, rfl, _, rfl, _, _, rfl, rfl, _, _, rfl, rfl, (by show (0 : Int) < 3; decide), u, _, _, _, rfl, rfl, SqL.of upd_same, hnm, ?_⟩⟩⟩
            obtain ⟨G3, S6, g3⟩ := S5.more (Sm.new (o := .lst [V.str "n", .str "v-2", .str "data"]) hu)
            refine ⟨_, rfl, .inl ⟨rfl, _, SqL.of S6.hd⟩, _, rfl, _, rfl, _, rfl, _, _, rfl, rfl, .inl ⟨by decide, by decide⟩, _, _, rfl, rfl, _, _, rfl, rfl, ⟨by omega, by omega⟩, _, rfl, fun l H7 hl s7 => ⟨by show 2 ≤ sizeLine; decide, fun t ht => ?_⟩⟩
            obtain ⟨G4, S7, g4⟩ := S6.more s7
            have S8 := S7.alloc (o := .tup [.str (TX ln), .str (TX l)]) ht
            have g8 := S7.grow (o := .tup [.str (TX ln), .str (TX l)]) ht
            refine ⟨pa, _, _, rfl, rfl, S8.hd, by omega, _, as ++ [(ln, l)], ax ++ [.ref t], _, _, S8.put, Same.trans g2 (Same.trans g3 (Same.trans g4 g8)), ?_, fun x hx => ?_, by rw [List.length_append, List.length_singleton]; omega, rfl⟩
            · rw [List.map_append]
              exact dqAll_ap (da.same (Same.trans g3 (Same.trans g4 g8))) (.cons (.tup upd_same (.cons (.str _) (.cons (.str _) .nil))) .nil)
            · rcases List.mem_append.mp hx with hx | hx
              · exact ga x hx
              · rw [List.mem_singleton.mp hx]; exact ⟨hln, hl⟩
          · rintro σ H5 ⟨G2, as, ax, y8, y9, S5, g2, da, ga, al, rfl⟩
            obtain ⟨S6, g6⟩ := S5.drop
            have da6 : Dq (upd G2 pa (.lst ax)) (.ref pa) (.list (as.map pairD)) := .lst upd_same (da.same g6)
            have gas : GoodAs as := ⟨ga, by omega⟩
            refine ⟨by show 0 ≤ sizeLine; decide, fun pk hpk => ?_⟩
            have S7 := S6.alloc (o := .lst []) hpk
            have g7 := S6.grow (o := .lst []) hpk
            have g17 := Same.trans g2 (Same.trans g6 g7)
            have da7 := da6.same g7
            have tk7 : TreeA (upd (upd G2 pa (.lst ax)) pk (.lst [])) pk [] := .lst upd_same (by simp only [encS]; exact .nil)
            generalize upd (upd G2 pa (.lst ax)) pk (.lst []) = G7 at S7 g17 da7 tk7
            refine ⟨fun σ' H' => ∃ (G8 : Hp) (kk : List Nd) (pk' : Addr) (a8 c8 : Int), Sb G8 H' ((p, .lst xs) :: (wd, .dK (wK a8 b c8)) :: M) ∧ Same G7 G8 ∧ TreeA G8 pk' kk ∧ (∀ t as, okL 5 t → GoodAs as → GoodNd n (.el t as kk)) ∧ Nums a8 b c8 ∧
              σ' = [some (.ref rl), some (.ref wd), some (.int d), some (.ref p), some (.int (0 + (i : Int))), some (.int (z / 4)), some (.int (z / 4 % 6)), some (.ref pa), y8, y9, some (.ref pk'), y11], ?_, ?_⟩
            · refine ⟨_, rfl, _, _, rfl, rfl, _, rfl, ite2 (fun k4 => ?_) (fun k4 => ⟨G7, [], pk, _, _, S7, Same.refl _, tk7, fun t as h1 h2 => good_el0 h1 h2, ⟨by omega, n2, by omega, n4, n5⟩, rfl⟩)⟩
              have d6 : d < 6 := of_decide_eq_true k4
              obtain ⟨m, rfl⟩ : ∃ m, n = m + 1 := ⟨n - 1, by omega⟩
              have e := hsp m rfl
              subst e
              refine ⟨_, rfl, _, rfl, _, rfl, _, _, rfl, rfl, rl, wd, d + 1, zs, G7, (p, .lst xs) :: M, a1 + 1, b, c1, rfl, by omega, S7.swap, g17 _ _ (g1 _ _ hrl), zl, ⟨by omega, n2, by omega, n4, n5⟩, fun pk' kk G8 H8 a8 c8 S8 g8 tk8 gk8 nu8 => ?_⟩
              exact ⟨G8, kk, pk', a8, c8, S8.swap, g8, tk8, fun t as h1 h2 => good_el h1 h2 gk8, nu8, rfl⟩
            · rintro σ' H8 ⟨G8, kk, pk', a8, c8, S8, g8, tk8, gel, nu8, rfl⟩
              refine ⟨_, rfl, .inl ⟨rfl, _, SqL.of S8.hd⟩, _, rfl, _, _, rfl, rfl, ⟨by decide, by decide⟩, _, rfl, fun l H9 hl s9 => ⟨_, rfl, _, rfl, by show 4 ≤ sizeLine; decide, fun t ht => ?_⟩⟩
              obtain ⟨G9, S9, g9⟩ := S8.more s9
              have S10 := S9.alloc (o := .tup [.str "element", .str (TX l), .ref pa, .ref pk']) ht
              have g10 := S9.grow (o := .tup [.str "element", .str (TX l), .ref pa, .ref pk']) ht
              refine step (.el l as kk) (.ref t) _ _ a8 c8 _ _ _ _ _ _ _ _ S10 (Same.trans g17 (Same.trans g8 (Same.trans g9 g10))) ?_ (gel l as hl gas) nu8
              simp only [encN]
              exact .tup upd_same (.cons (.str _) (.cons (.str _) (.cons (((da7.same g8).same g9).same g10) (.cons ((tk8.same g9).same g10) .nil))))
    · rintro σ H1 ⟨G1, ks, xs, a1, c1, y4, y5, y6, y7, y8, y9, y10, y11, S2, g1, dk, gk, kl, nu, rfl⟩
      exact ⟨_, rfl, fin G1 H1 ks xs a1 c1 S2 g1 dk ⟨gk, by omega⟩ nu⟩
theorem tree_N (T : Txt K w mg C) : ∀ n : Nat, Cal P w K mg base (n + 3) "_law_tree" (spTree n)
  | 0 => tree_S T (n := 0) (sp := spFalse) (fun m h => by omega) (tree_0 T)
  | n + 1 => tree_S T (n := n + 1) (sp := spTree n) (fun m h => by rw [Nat.succ.inj h]) (tree_N T n)
end
end VL

set_option Elab.async false
set_option linter.all false
set_option pp.maxSteps 700
set_option maxRecDepth 100000
set_option maxHeartbeats 4000000
namespace VL
open PySem PySem.Spec PyProof.Rows L2
def spFlat (n : Nat) : Sp := fun vs H Q _ => ∃ (a : Addr) (ks : List Nd) (G : Hp) (M : List (Addr × HO)), vs = [.ref a] ∧ Sb G H M ∧ TreeA G a ks ∧ dpS ks ≤ n ∧ wS ks ≤ 8000000 ∧ ∀ p G' H', Sb G' H' M → Same G G' → TreeA G' p (flS ks) → Q (.ref p) H'
def spJoin (n : Nat) : Sp := fun vs H Q _ => ∃ (a : Addr) (ks : List Nd) (G : Hp) (M : List (Addr × HO)), vs = [.ref a] ∧ Sb G H M ∧ TreeA G a ks ∧ dpS ks ≤ n ∧ wS ks ≤ 8000000 ∧ ∀ p G' H', Sb G' H' M → Same G G' → TreeA G' p (jn (flS ks)) → Q (.ref p) H'
theorem len_fl (ks : List Nd) : 20 * (flS ks).length ≤ wS ks := Nat.le_trans (len_wS _) (wS_flS _)
section
variable {P : Program} {w : World} {K : PySem.W.Frag} {mg : Str → Option Value} {base : Heap} {C : Ad}
theorem sc__law_flat : FnScope ["nodes", "flat", "node"] ["nodes"] (defScope s__law_flat) := ⟨rfl, rfl, rfl, by decide +kernel, rfl, by decide +kernel, by decide +kernel⟩
theorem flat_0 (T : Txt K w mg C) {k : Nat} : Cal P w K mg base (k + 1) "_law_flat" spFalse := cal_of T.d__law_flat sc__law_flat (fun vs H Q E h => h.elim) (fun f cdv A outer s H vs Q E hr h => h.elim)
theorem flat_S (T : Txt K w mg C) {n k kf kj : Nat} {sp sj : Sp} (hsp : ∀ m, m + 1 = n → sp = spFlat m ∧ sj = spJoin m) (hkf : kf ≤ k) (hkj : kj ≤ k) (G_law_flat : Cal P w K mg base kf "_law_flat" sp) (G_law_joined : Cal P w K mg base kj "_law_joined" sj) : Cal P w K mg base (k + 1) "_law_flat" (spFlat n) := by
  refine cal_of T.d__law_flat sc__law_flat (fun vs H Q E h => ?_) (fun f cdv A outer s H vs Q E hr h => ?_)
  · obtain ⟨a, ks, G, M, rfl, _⟩ := h
    rfl
  · obtain ⟨a, ks, G0, M, rfl, S00, ht, hn, hw, q⟩ := h
    obtain ⟨xs, ha, hl, hd⟩ := tree_at ht
    have big : 10000000 < sizeLine := by decide
    have lw := len_wS ks
    refine ⟨_, (pss_cons (ps_set (i := 1) sc__law_flat.nd rfl (Or.inl rfl) (pe_lst pa_nil)) (pss_cons (ps_for PassesOwn.never rfl (pi_list (pv 0)) (pg_name (i := 2) sc__law_flat.nd rfl (Or.inl rfl)) (pss_one (ps_if (pt_cmpR op_eq (pe_ix ix_tup (pv 2) pe_int (fun _ _ => rfl)) pe_str (nomark _)) (pss_one (ps_set (i := 1) sc__law_flat.nd rfl (Or.inl rfl) (pe_op op_cat (pv 1) (pe_c G_law_flat hr (by omega) (by rfl) (pa_cons (pe_ix ix_tup (pv 2) pe_int (fun _ _ => rfl)) pa_nil))))) (pss_one (ps_if (pt_cmpR op_eq (pe_ix ix_tup (pv 2) pe_int (fun _ _ => rfl)) pe_str (nomark _)) (pss_one (ps_expr (pe_bm PySem.F.plainAttrs_list PySem.F.slot_list_append PySem.F.type_list_append mt_append (pv 1) (pa_cons (pe_tup (pa_cons pe_str (pa_cons (pe_ix ix_tup (pv 2) pe_int (fun _ _ => rfl)) (pa_cons (pe_ix ix_tup (pv 2) pe_int (fun _ _ => rfl)) (pa_cons (pe_c G_law_joined hr (by omega) (by rfl) (pa_cons (pe_ix ix_tup (pv 2) pe_int (fun _ _ => rfl)) pa_nil)) pa_nil))))) pa_nil)))) (pss_one (ps_if (pt_cmpR op_ne (pe_ix ix_tup (pv 2) pe_int (fun _ _ => rfl)) pe_str (nomark _)) (pss_one (ps_expr (pe_bm PySem.F.plainAttrs_list PySem.F.slot_list_append PySem.F.type_list_append mt_append (pv 1) (pa_cons (pv 2) pa_nil)))) pss_nil))))))) (pss_one (ps_ret (pv 1))))), ?_⟩
    refine ⟨by show 0 ≤ sizeLine; decide, fun p0 hp0 => ?_⟩
    have S0 := S00.add (o := .lst []) hp0
    refine ⟨_, rfl, a, rfl, ⟨_, SqL.of (S0.s _ _ ha)⟩, ?_⟩
    refine for_it (walk_list (K := K) (a := a) (xs := xs)) (fun i σ H' => ∃ (G : Hp) (p : Addr) (fs : List V) (y : Option V), Sb G H' ((p, .lst fs) :: M) ∧ Same G0 G ∧ DqAll G fs (encS (flS (ks.take i))) ∧ σ = [some (.ref a), some (.ref p), y]) ⟨G0, p0, [], none, S0, Same.refl _, (by simp only [List.take_zero, flS, encS]; exact .nil), rfl⟩ (fun i σ H' _ ⟨G, _, _, _, S, g, _⟩ => SqL.of (S.s _ _ (g _ _ ha))) ?_ ?_
    · rintro i x σ H1 H2 hi ⟨G, p, fs, y, S, g, df, rfl⟩ ⟨rfl, hx⟩
      obtain ⟨d, hdi, dd⟩ := node_at hd hx
      have dm := dp_mem (List.mem_of_getElem? hdi)
      have wm := w_mem (List.mem_of_getElem? hdi)
      have il : i < ks.length := (List.getElem?_eq_some_iff.mp hdi).1
      have tk : ks.take (i + 1) = ks.take i ++ [d] := by rw [List.take_add_one, hdi]; rfl
      have fk : flS (ks.take (i + 1)) = flS (ks.take i) ++ flN d := by rw [tk, flS_app]; simp [flS]
      have fl1 := df.len
      rw [encS_len] at fl1
      have flw : 20 * (flS (ks.take (i + 1))).length ≤ wS ks := by
        have h1 := len_fl (ks.take (i + 1))
        have h2 : wS ks = wS (ks.take (i + 1)) + wS (ks.drop (i + 1)) := by rw [← wS_app, List.take_append_drop]
        omega
      rw [fk, List.length_append] at flw
      have ddg := dd.same g
      have sg := S.s
      cases d with
      | tx x =>
        obtain ⟨qq, rfl, hq⟩ := n_tx ddg
        have hq1 := sg _ _ hq
        refine ⟨_, rfl, qq, _, _, _, rfl, rfl, SqT.of hq1, rfl, rfl, _, rfl, ite2 (fun c => absurd c (sne (by decide +kernel))) (fun _ => ?_)⟩
        refine ⟨_, rfl, qq, _, _, _, rfl, rfl, SqT.of hq1, rfl, rfl, _, rfl, ite2 (fun c => absurd c (sne (by decide +kernel))) (fun _ => ?_)⟩
        refine ⟨_, rfl, qq, _, _, _, rfl, rfl, SqT.of hq1, rfl, rfl, _, rfl, ite2 (fun c => ?_) (fun c => ?_)⟩
        · have hx0 : x ≠ [] := fun z => by subst z; exact absurd c (by rw [k_00, vstr_TX]; simp)
          refine ⟨_, rfl, .inl ⟨rfl, _, SqL.of S.hd⟩, _, rfl, p, _, _, rfl, rfl, S.hd, by simp only [flN, if_neg hx0, List.length_singleton] at flw; omega, G, p, _, _, S.put, g, ?_, rfl⟩
          rw [fk, encS_app]
          refine dqAll_ap df ?_
          simp only [flN, if_neg hx0, encS]
          exact .cons ddg .nil
        · have hx0 : x = [] := by
            rw [k_00, vstr_TX] at c
            by_cases z : x = []
            · exact z
            · exact absurd (by simp [z]) c
          refine ⟨G, p, fs, _, S, g, ?_, rfl⟩
          rw [fk]
          simp only [flN, if_pos hx0, List.append_nil]
          exact df
      | el t as kk =>
        obtain ⟨qq, qa, qk, rfl, hq, hqa, hqk⟩ := n_el ddg
        have hq1 := sg _ _ hq
        simp only [wN] at wm
        simp only [dpN] at dm
        obtain ⟨m, rfl⟩ : ∃ m, n = m + 1 := ⟨n - 1, by omega⟩
        obtain ⟨rfl, rfl⟩ := hsp m rfl
        refine ⟨_, rfl, qq, _, _, _, rfl, rfl, SqT.of hq1, rfl, rfl, _, rfl, ite2 (fun c => absurd c (sne (by decide +kernel))) (fun _ => ?_)⟩
        refine ⟨_, rfl, qq, _, _, _, rfl, rfl, SqT.of hq1, rfl, rfl, _, rfl, ite2 (fun _ => ?_) (fun c => absurd (by simp) c)⟩
        refine ⟨_, rfl, .inl ⟨rfl, _, SqL.of S.hd⟩, _, rfl, qq, _, _, _, rfl, rfl, SqT.of hq1, rfl, _, rfl, qq, _, _, _, rfl, rfl, SqT.of hq1, rfl, _, rfl, qq, _, _, _, rfl, rfl, SqT.of hq1, rfl, qk, kk, G, (p, .lst fs) :: M, rfl, S, hqk, by omega, by omega, fun j G3 H3 S3 g3 tj => ⟨by show 4 ≤ sizeLine; decide, fun u hu => ?_⟩⟩
        have S4 := S3.alloc (o := .tup [.str "element", .str (TX t), .ref qa, .ref j]) hu
        have g4 := S3.grow (o := .tup [.str "element", .str (TX t), .ref qa, .ref j]) hu
        refine ⟨p, _, _, rfl, rfl, S4.hd, by simp only [flN, List.length_singleton] at flw; omega, _, p, fs ++ [.ref u], _, S4.put, Same.trans g (Same.trans g3 g4), ?_, rfl⟩
        rw [fk, encS_app]
        refine dqAll_ap (df.same (Same.trans g3 g4)) ?_
        simp only [flN, encS, encN]
        exact .cons (.tup upd_same (.cons (.str _) (.cons (.str _) (.cons (hqa.same (Same.trans g3 g4)) (.cons (tj.same g4) .nil))))) .nil
      | aw nn kk =>
        obtain ⟨qq, qk, rfl, hq, hqk⟩ := n_aw ddg
        have hq1 := sg _ _ hq
        simp only [wN] at wm
        simp only [dpN] at dm
        obtain ⟨m, rfl⟩ : ∃ m, n = m + 1 := ⟨n - 1, by omega⟩
        obtain ⟨rfl, rfl⟩ := hsp m rfl
        refine ⟨_, rfl, qq, _, _, _, rfl, rfl, SqT.of hq1, rfl, rfl, _, rfl, ite2 (fun _ => ?_) (fun c => absurd (by simp) c)⟩
        refine ⟨_, rfl, _, rfl, qq, _, _, _, rfl, rfl, SqT.of hq1, rfl, qk, kk, G, (p, .lst fs) :: M, rfl, S, hqk, by omega, by omega, fun j G3 H3 S3 g3 tj => ?_⟩
        obtain ⟨ys, hj, yl, dj⟩ := tree_at tj
        refine ⟨_, _, _, _, rfl, rfl, S3.hd, S3.s _ _ hj, ?_, fun p2 hp2 => ?_⟩
        · simp only [flN] at flw
          omega
        obtain ⟨S4, g4⟩ := S3.drop
        have S5 := S4.add (o := .lst (fs ++ ys)) hp2
        refine ⟨_, p2, fs ++ ys, _, S5, Same.trans g (Same.trans g3 g4), ?_, rfl⟩
        rw [fk, encS_app]
        simp only [flN]
        exact dqAll_ap (df.same (Same.trans g3 g4)) (dj.same g4)
    · rintro σ H1 ⟨G, p, fs, y, S, g, df, rfl⟩
      rw [hl, List.take_length] at df
      obtain ⟨S2, g2⟩ := S.drop
      exact ⟨_, rfl, q p _ H1 S2 (Same.trans g g2) (.lst upd_same (df.same g2))⟩
theorem sc__law_joined : FnScope ["nodes", "joined", "node"] ["nodes"] (defScope s__law_joined) := ⟨rfl, rfl, rfl, by decide +kernel, rfl, by decide +kernel, by decide +kernel⟩
theorem wS_memb {d : Nd} {ks : List Nd} (h : d ∈ ks) : wN d ≤ wS ks := w_mem h
theorem join_S (T : Txt K w mg C) {n k : Nat} (G_law_flat : Cal P w K mg base k "_law_flat" (spFlat n)) : Cal P w K mg base (k + 1) "_law_joined" (spJoin n) := by
  refine cal_of T.d__law_joined sc__law_joined (fun vs H Q E h => ?_) (fun f cdv A outer s H vs Q E hr h => ?_)
  · obtain ⟨a, ks, G, M, rfl, _⟩ := h
    rfl
  · obtain ⟨a, ks, G0, M, rfl, S00, ht, hn, hw, q⟩ := h
    have big : 10000000 < sizeLine := by decide
    refine ⟨_, (pss_cons (ps_set (i := 1) sc__law_joined.nd rfl (Or.inl rfl) (pe_lst pa_nil)) (pss_cons (ps_for PassesOwn.never rfl (pi_list (pe_c G_law_flat hr (by omega) (by rfl) (pa_cons (pv 0) pa_nil))) (pg_name (i := 2) sc__law_joined.nd rfl (Or.inl rfl)) (pss_one (ps_if (PW.pt (pw_and (pt_cmpR op_eq (pe_ix ix_tup (pv 2) pe_int (fun _ _ => rfl)) pe_str (nomark _)) (pw_and (pt_cmpR op_gt (pe_callB call_len_seq (by rfl) T.z_len PySem.boot_len (pa_cons (pv 1) pa_nil)) pe_int (nomark _)) (pw_and1 (pt_cmpR op_eq (pe_ix ix_tup (pe_ix ix_list (pv 1) (pe_op op_sub (pe_callB call_len_seq (by rfl) T.z_len PySem.boot_len (pa_cons (pv 1) pa_nil)) pe_int) (fun _ _ => rfl)) pe_int (fun _ _ => rfl)) pe_str (nomark _)))))) (pss_one (ps_asg (pe_tup (pa_cons pe_str (pa_cons (pe_op op_add_str (pe_ix ix_tup (pe_ix ix_list (pv 1) (pe_op op_sub (pe_callB call_len_seq (by rfl) T.z_len PySem.boot_len (pa_cons (pv 1) pa_nil)) pe_int) (fun _ _ => rfl)) pe_int (fun _ _ => rfl)) (pe_ix ix_tup (pv 2) pe_int (fun _ _ => rfl))) pa_nil))) (pg_sub (pv 1) (pe_op op_sub (pe_callB call_len_seq (by rfl) T.z_len PySem.boot_len (pa_cons (pv 1) pa_nil)) pe_int) set_list))) (pss_one (ps_expr (pe_bm PySem.F.plainAttrs_list PySem.F.slot_list_append PySem.F.type_list_append mt_append (pv 1) (pa_cons (pv 2) pa_nil))))))) (pss_one (ps_ret (pv 1))))), ?_⟩
    refine ⟨by show 0 ≤ sizeLine; decide, fun p hp0 => ?_⟩
    have S0 := S00.add (o := .lst []) hp0
    refine ⟨_, rfl, a, ks, G0, (p, .lst []) :: M, rfl, S0, ht, hn, hw, fun fa G1 H1 S1 g1 tf => ?_⟩
    obtain ⟨xs, ha, hl, hd⟩ := tree_at tf
    have lf := len_fl ks
    have wf := wS_flS ks
    refine ⟨fa, rfl, ⟨_, SqL.of (S1.s _ _ ha)⟩, ?_⟩
    refine for_it (walk_list (K := K) (a := fa) (xs := xs)) (fun i σ H' => ∃ (G : Hp) (js : List V) (y : Option V), Sb G H' ((p, .lst js) :: M) ∧ Same G1 G ∧ DqAll G js (encS (jn ((flS ks).take i))) ∧ σ = [some (.ref a), some (.ref p), y]) ⟨G1, [], none, S1, Same.refl _, (by simp only [List.take_zero, jn, List.foldl_nil, encS]; exact .nil), rfl⟩ (fun i σ H' _ ⟨G, _, _, S, g, _⟩ => SqL.of (S.s _ _ (g _ _ ha))) ?_ ?_
    · rintro i x σ H2 H3 hi ⟨G, js, y, S, g, dj, rfl⟩ ⟨rfl, hx⟩
      obtain ⟨d, hdi, dd⟩ := node_at hd hx
      have il : i < (flS ks).length := (List.getElem?_eq_some_iff.mp hdi).1
      have wm := w_mem (List.mem_of_getElem? hdi)
      have tk : (flS ks).take (i + 1) = (flS ks).take i ++ [d] := by rw [List.take_add_one, hdi]; rfl
      have fk : jn ((flS ks).take (i + 1)) = jnS (jn ((flS ks).take i)) d := by rw [tk, jn_snoc]
      have jl := dj.len
      rw [encS_len] at jl
      have jb : (jn ((flS ks).take i)).length ≤ i := by
        have := len_fold ((flS ks).take i) []
        rw [List.length_take] at this
        unfold jn
        simp only [List.length_nil] at this
        omega
      have jw : wS (jn ((flS ks).take i)) ≤ 8000000 := by
        have h1 := wS_jn ((flS ks).take i)
        have h2 : wS (flS ks) = wS ((flS ks).take i) + wS ((flS ks).drop i) := by rw [← wS_app, List.take_append_drop]
        omega
      generalize jn ((flS ks).take i) = acc at dj fk jl jb jw
      have ddg := dd.same g
      have sg := S.s
      have app : ∀ (v : V), Dq G v (encN d) → jnS acc d = acc ++ [d] → ∃ l xs' v', V.ref p = .ref l ∧ [v] = [v'] ∧ H3 l = some (.lst xs') ∧ xs'.length < sizeLine ∧ (∃ (G' : Hp) (js' : List V) (y : Option V), Sb G' (upd H3 l (.lst (xs' ++ [v']))) ((p, .lst js') :: M) ∧ Same G1 G' ∧ DqAll G' js' (encS (jn ((flS ks).take (i + 1)))) ∧ [some (V.ref a), some (.ref p), some v] = [some (.ref a), some (.ref p), y]) := by
        intro v dv e
        refine ⟨p, _, _, rfl, rfl, S.hd, by omega, G, js ++ [v], _, S.put, g, ?_, rfl⟩
        rw [fk, e, encS_app]
        refine dqAll_ap dj ?_
        simp only [encS]
        exact .cons dv .nil
      cases d with
      | tx yy =>
        obtain ⟨qq, rfl, hq⟩ := n_tx ddg
        have hq1 := sg _ _ hq
        simp only [wN] at wm
        refine ⟨_, rfl, qq, _, _, _, rfl, rfl, SqT.of hq1, rfl, rfl, _, rfl, ite2 (fun _ => ?_) (fun c => absurd (by simp) c)⟩
        rcases snoc_cases acc with rfl | ⟨b, e, rfl⟩
        · have js0 : js = [] := by simpa using jl
          subst js0
          refine ⟨_, rfl, p, _, rfl, .inl (SqL.of S.hd), _, _, rfl, rfl, _, rfl, ite2 (fun c => absurd c (by decide)) (fun _ => ?_)⟩
          refine iteF ?_
          exact ⟨_, rfl, .inl ⟨rfl, _, SqL.of S.hd⟩, _, rfl, app _ ddg (jnS_nil _)⟩
        · rw [encS_app] at dj
          simp only [encS] at dj
          obtain ⟨js1, v1, rfl, dj1, dv1⟩ : ∃ js1 v1, js = js1 ++ [v1] ∧ DqAll G js1 (encS b) ∧ Dq G v1 (encN e) := by
            rw [List.length_append, List.length_singleton] at jl
            rcases List.eq_nil_or_concat js with h | ⟨js1, v1, h⟩
            · subst h; simp at jl
            · have h : js = js1 ++ [v1] := by simpa using h
              subst h
              have hb1 : js1.length = (encS b).length := by rw [encS_len]; simp at jl; omega
              have key : ∀ (l1 : List V) (m1 : List PyData), l1.length = m1.length → DqAll G (l1 ++ [v1]) (m1 ++ [encN e]) → DqAll G l1 m1 ∧ Dq G v1 (encN e) := by
                intro l1
                induction l1 with
                | nil => intro m1 hl h; cases m1 with
                  | nil => cases h with | cons h1 h2 => exact ⟨.nil, h1⟩
                  | cons _ _ => simp at hl
                | cons z l1 ih => intro m1 hl h; cases m1 with
                  | nil => simp at hl
                  | cons m m1 => cases h with
                    | cons h1 h2 =>
                      obtain ⟨h3, h4⟩ := ih m1 (by simpa using hl) h2
                      exact ⟨.cons h1 h3, h4⟩
              obtain ⟨h3, h4⟩ := key js1 _ hb1 dj
              exact ⟨js1, v1, rfl, h3, h4⟩
          have ln1 : ((js1 ++ [v1]).length : Int) - 1 = (js1.length : Int) := by rw [List.length_append, List.length_singleton]; omega
          have at1 : atI (js1 ++ [v1]) (((js1 ++ [v1]).length : Int) - 1) = some v1 := by
            rw [ln1]
            unfold atI ixN
            rw [if_pos (by omega), if_pos (by rw [List.length_append, List.length_singleton]; omega)]
            show (js1 ++ [v1])[(js1.length : Int).toNat]? = _
            rw [Int.toNat_natCast]
            simp
          refine ⟨_, rfl, p, _, rfl, .inl (SqL.of S.hd), _, _, rfl, rfl, _, rfl, ite2 (fun _ => ?_) (fun c => absurd (by simp) c)⟩
          have we : wN e ≤ 8000000 := by
            have := w_mem (ks := b ++ [e]) (d := e) (by simp)
            omega
          cases e with
          | tx xx =>
            obtain ⟨q2, rfl, hq2⟩ := n_tx dv1
            have hq3 := sg _ _ hq2
            simp only [wN] at we
            refine ⟨_, rfl, _, rfl, p, _, rfl, .inl (SqL.of S.hd), _, _, rfl, rfl, p, _, _, _, rfl, rfl, SqL.of S.hd, at1, q2, _, _, _, rfl, rfl, SqT.of hq3, rfl, rfl, _, rfl, ite2 (fun _ => ?_) (fun c => absurd (by simp) c)⟩
            refine ⟨_, rfl, _, rfl, p, _, rfl, .inl (SqL.of S.hd), _, _, rfl, rfl, p, _, _, _, rfl, rfl, SqL.of S.hd, at1, q2, _, _, _, rfl, rfl, SqT.of hq3, rfl, _, rfl, qq, _, _, _, rfl, rfl, SqT.of hq1, rfl, _, _, rfl, rfl, ?_, by show 2 ≤ sizeLine; decide, fun u hu => ?_⟩
            · rw [TX_len, TX_len]
              omega
            rw [TX_cat]
            have S4 := S.alloc (o := .tup [.str "text", .str (TX (xx ++ yy))]) hu
            have g4 := S.grow (o := .tup [.str "text", .str (TX (xx ++ yy))]) hu
            refine ⟨_, rfl, _, rfl, p, _, rfl, .inl (SqL.of S4.hd), _, _, rfl, rfl, p, _, _, js1.length, rfl, rfl, S4.hd, ?_, ?_⟩
            · rw [ln1]
              unfold ixN
              rw [if_pos (by omega), if_pos (by rw [List.length_append, List.length_singleton]; omega)]
              simp
            have st : (js1 ++ [V.ref q2]).set js1.length (.ref u) = js1 ++ [.ref u] := by
              rw [List.set_append_right _ _ (Nat.le_refl _)]
              simp
            rw [st]
            refine ⟨_, js1 ++ [.ref u], _, S4.put, Same.trans g g4, ?_, rfl⟩
            rw [fk, jnS_sn]
            show DqAll _ _ (encS (b ++ [.tx (xx ++ yy)]))
            rw [encS_app]
            refine dqAll_ap (dj1.same g4) ?_
            simp only [encS, encN]
            exact .cons (.tup upd_same (.cons (.str _) (.cons (.str _) .nil))) .nil
          | el t as kk =>
            obtain ⟨q2, _, _, rfl, hq2, _, _⟩ := n_el dv1
            have hq3 := sg _ _ hq2
            refine ⟨_, rfl, _, rfl, p, _, rfl, .inl (SqL.of S.hd), _, _, rfl, rfl, p, _, _, _, rfl, rfl, SqL.of S.hd, at1, q2, _, _, _, rfl, rfl, SqT.of hq3, rfl, rfl, _, rfl, ite2 (fun c => absurd c (sne (by decide +kernel))) (fun _ => ?_)⟩
            exact ⟨_, rfl, .inl ⟨rfl, _, SqL.of S.hd⟩, _, rfl, app _ ddg (by rw [jnS_sn])⟩
          | aw nn kk =>
            obtain ⟨q2, _, rfl, hq2, _⟩ := n_aw dv1
            have hq3 := sg _ _ hq2
            refine ⟨_, rfl, _, rfl, p, _, rfl, .inl (SqL.of S.hd), _, _, rfl, rfl, p, _, _, _, rfl, rfl, SqL.of S.hd, at1, q2, _, _, _, rfl, rfl, SqT.of hq3, rfl, rfl, _, rfl, ite2 (fun c => absurd c (sne (by decide +kernel))) (fun _ => ?_)⟩
            exact ⟨_, rfl, .inl ⟨rfl, _, SqL.of S.hd⟩, _, rfl, app _ ddg (by rw [jnS_sn])⟩
      | el t as kk =>
        obtain ⟨qq, qa, qk, rfl, hq, hqa, hqk⟩ := n_el ddg
        have hq1 := sg _ _ hq
        refine ⟨_, rfl, qq, _, _, _, rfl, rfl, SqT.of hq1, rfl, rfl, _, rfl, ite2 (fun c => absurd c (sne (by decide +kernel))) (fun _ => ?_)⟩
        refine iteF ?_
        exact ⟨_, rfl, .inl ⟨rfl, _, SqL.of S.hd⟩, _, rfl, app _ ddg (jnS_nt (fun _ h => nomatch h))⟩
      | aw nn kk =>
        obtain ⟨qq, qk, rfl, hq, hqk⟩ := n_aw ddg
        have hq1 := sg _ _ hq
        refine ⟨_, rfl, qq, _, _, _, rfl, rfl, SqT.of hq1, rfl, rfl, _, rfl, ite2 (fun c => absurd c (sne (by decide +kernel))) (fun _ => ?_)⟩
        refine iteF ?_
        exact ⟨_, rfl, .inl ⟨rfl, _, SqL.of S.hd⟩, _, rfl, app _ ddg (jnS_nt (fun _ h => nomatch h))⟩
    · rintro σ H2 ⟨G, js, y, S, g, dj, rfl⟩
      rw [hl, List.take_length] at dj
      obtain ⟨S2, g2⟩ := S.drop
      exact ⟨_, rfl, q p _ H2 S2 (Same.trans g1 (Same.trans g g2)) (.lst upd_same (dj.same g2))⟩
theorem fj_N (T : Txt K w mg C) : ∀ n : Nat, Cal P w K mg base (2 * n + 2) "_law_flat" (spFlat n) ∧ Cal P w K mg base (2 * n + 3) "_law_joined" (spJoin n)
  | 0 => by
    have h0 : Cal P w K mg base 1 "_law_joined" spFalse := cal_of T.d__law_joined sc__law_joined (fun vs H Q E h => h.elim) (fun f cdv A outer s H vs Q E hr h => h.elim)
    have hf := flat_S T (n := 0) (k := 1) (fun m h => by omega) (Nat.le_refl _) (Nat.le_refl _) (flat_0 T (k := 0)) h0
    exact ⟨hf, join_S T hf⟩
  | n + 1 => by
    obtain ⟨h1, h2⟩ := fj_N T n
    have hf := flat_S T (n := n + 1) (k := 2 * n + 3) (fun m h => by rw [Nat.succ.inj h]; exact ⟨rfl, rfl⟩) (by omega) (by omega) h1 h2
    exact ⟨hf, join_S T hf⟩
end
end VL

set_option Elab.async false
set_option linter.all false
set_option pp.maxSteps 700
set_option maxRecDepth 100000
set_option maxHeartbeats 4000000
namespace VL
open PySem PySem.Spec PyProof.Rows L2
def spDrawn : Sp := fun vs H Q _ => ∃ (rl : Addr) (zs : List Int) (a m : Int), vs = [.ref rl, .int a, .int m] ∧ H rl = some (.lst (zs.map V.int)) ∧ zs.length = 60 ∧ 0 ≤ a ∧ 0 ≤ m ∧ a + m ≤ 100 ∧ ∀ p ks H', Same H H' → TreeA H' p ks → GoodL 6 ks → Q (.ref p) H'
def spLaw (K : PySem.W.Frag) : Sp := fun vs H Q _ => ∃ (a : Addr) (ns : List Int), vs = [.ref a] ∧ SqL K H a (ns.map V.int) ∧ ns.length ≤ 63 ∧ ∀ H', Q (.bl true) H'
section
variable {P : Program} {w : World} {K : PySem.W.Frag} {mg : Str → Option Value} {base : Heap} {C : Ad}
theorem sc__law_drawn : FnScope ["rows", "at", "most"] ["rows", "at", "most"] (defScope s__law_drawn) := ⟨rfl, rfl, rfl, by decide +kernel, rfl, by decide +kernel, by decide +kernel⟩
theorem ok_drawn (T : Txt K w mg C) : Cal P w K mg base 10 "_law_drawn" spDrawn := by
  have G_law_tree := tree_N (P := P) (base := base) T 6
  refine cal_of T.d__law_drawn sc__law_drawn (fun vs H Q E h => ?_) (fun f cdv A outer s H vs Q E hr h => ?_)
  · obtain ⟨rl, zs, a, m, rfl, _⟩ := h
    rfl
  · obtain ⟨rl, zs, a, m, rfl, hrl, zl, a0, m0, am, q⟩ := h
    have hu := hu_of hr
    refine ⟨_, (pss_one (ps_ret (pe_c G_law_tree hr (by decide) (by rfl) (pa_cons (pv 0) (pa_cons (pe_disp (pps_cons pe_str (pv 1) (pps_cons pe_str (pe_op op_add (pv 1) (pv 2)) (pps_cons pe_str pe_int pps_nil))) (by rfl) (by rfl) (fun z => by cases z) (by decide)) (pa_cons pe_int pa_nil)))))), ?_⟩
    refine ⟨_, rfl, fun d hd => ?_⟩
    refine ⟨_, rfl, _, rfl, _, rfl, _, _, rfl, rfl, upd_same, [(.inr "at", .int a), (.inr "most", .int (a + m)), (.inr "number", .int 0)], rfl, (by show 3 ≤ 15; decide), ?_⟩
    have e : mergeK [] [(.inr "at", .int a), (.inr "most", .int (a + m)), (.inr "number", .int 0)] = wK a (a + m) 0 := rfl
    rw [e]
    have S := (Sb.nil (H := H)).add (o := .dK (wK a (a + m) 0)) hd
    have eu : upd (upd H d (.dK [])) d (.dK (wK a (a + m) 0)) = upd H d (.dK (wK a (a + m) 0)) := by
      funext b
      by_cases z : b = d
      · subst z; rw [upd_same, upd_same]
      · rw [upd_ne z, upd_ne z, upd_ne z]
    rw [eu]
    exact ⟨rl, d, 0, zs, H, [], a, a + m, 0, rfl, by decide, S, hrl, zl, ⟨a0, by omega, by omega, by omega, am⟩, fun p ks G' H' a' c' S' g' t' gk' _ => q p ks H' (Same.trans g' S'.s) (t'.same S'.s) gk'⟩
theorem sc_law : FnScope ["script", "rows", "k", "tree", "kept", "told"] ["script"] (defScope s_law) := ⟨rfl, rfl, rfl, by decide +kernel, rfl, by decide +kernel, by decide +kernel⟩
theorem ok_law {f : Addr} {fd : FuncData} (F : Fun K "law" "law" s_law f fd) (T : Txt K w mg C) : FnG P w K mg base 18 f fd ["script"] (spLaw K) := by
  have G_law_rows := ok_rows (P := P) (base := base) T
  have G_law_drawn := ok_drawn (P := P) (base := base) T
  have Gplain_text := plain_N (P := P) (base := base) T 7
  have Gwrite_tree := write_N (P := P) (base := base) T 7
  have G_law_joined := (fj_N (P := P) (base := base) T 7).2
  refine fnG_of F sc_law (fun vs H Q E h => ?_) (fun cdv A outer s H vs Q E gd hr h => ?_)
  · obtain ⟨a, ns, rfl, _⟩ := h
    rfl
  · obtain ⟨sa, ns, rfl, hS, hlen, k⟩ := h
    have big : 10000000 < sizeLine := by decide
    refine ⟨_, (pss_cons (ps_set (i := 1) sc_law.nd rfl (Or.inl rfl) (pe_c G_law_rows hr (by decide) (by rfl) (pa_cons (pv 0) (pa_cons pe_int pa_nil)))) (pss_cons (ps_for PassesOwn.never rfl (pi_range1 (by rfl) T.z_range (pa_cons pe_int pa_nil)) (pg_name (i := 2) sc_law.nd rfl (Or.inl rfl)) (pss_cons (ps_set (i := 3) sc_law.nd rfl (Or.inl rfl) (pe_c G_law_drawn hr (by decide) (by rfl) (pa_cons (pv 1) (pa_cons (pe_op op_mul pe_int (pv 2)) (pa_cons pe_int pa_nil))))) (pss_cons (ps_set (i := 4) sc_law.nd rfl (Or.inl rfl) (pe_callB (call_repQ gd hr.units) (by rfl) T.z_repr (by decide +kernel) (pa_cons (pv 3) pa_nil))) (pss_cons (ps_set (i := 5) sc_law.nd rfl (Or.inl rfl) (pe_c Gplain_text hr (by decide) (by rfl) (pa_cons (pv 3) pa_nil))) (pss_cons (ps_if (PW.pt (pw_or (pt_not (pt_val (pe_callB call_isi (by rfl) T.z_isinstance (by decide +kernel) (pa_cons (pv 5) (pa_cons (pe_bltn (v := .ty "str") (by rfl) T.z_str (by decide +kernel) rfl) pa_nil))))) (pw_or (pt_cmpR op_ne (pv 5) (pe_c Gwrite_tree hr (by decide) (by rfl) (pa_cons (pe_c G_law_joined hr (by decide) (by rfl) (pa_cons (pv 3) pa_nil)) pa_nil)) (nomark _)) (pw_or1 (pt_cmpR op_ne (pe_callB (call_repQ gd hr.units) (by rfl) T.z_repr (by decide +kernel) (pa_cons (pv 3) pa_nil)) (pv 4) (nomark _)))))) (pss_one (ps_ret pe_bl)) pss_nil) (pss_one (ps_if (pt_cmpR op_ne (pe_c Gplain_text hr (by decide) (by rfl) (pa_cons (pv 3) pa_nil)) (pv 5) (nomark _)) (pss_one (ps_ret pe_bl)) pss_nil))))))) (pss_one (ps_ret pe_bl)))), ?_⟩
    refine ⟨_, rfl, sa, ns, 60, rfl, hS, hlen, by decide, fun rl zs H1 s1 hrl hr1 zl => ?_⟩
    refine ⟨_, rfl, by decide, by decide, ?_⟩
    refine for_it (walk_range (lo := 0) (n := (3 : Int).toNat)) (fun i σ H' => Same H1 H' ∧ ∃ y2 y3 y4 y5 : Option V, σ = [some (.ref sa), some (.ref rl), y2, y3, y4, y5]) ⟨Same.refl _, _, _, _, _, rfl⟩ (fun _ _ _ _ _ => trivial) ?_ ?_
    · rintro i x σ H2 H3 hi ⟨s2, y2, y3, y4, y5, rfl⟩ ⟨rfl, rfl⟩
      have hi3 : i < 3 := hi
      refine ⟨_, rfl, _, rfl, _, _, rfl, rfl, .inl ⟨by decide, by decide⟩, rl, zs, _, _, rfl, s2 _ _ hr1, zl, by omega, by decide, by omega, fun p ks H4 s4 tk gk => ?_⟩
      have dp := GoodL.dp gk.g
      have wt : wS ks ≤ 8000000 := Nat.le_trans gk.wt3 (by decide)
      have sm := gk.sm
      have dp40 : PyData.depth (.list (encS ks)) ≤ 40 := Nat.le_trans sm.dp (by decide)
      have ln : (PyData.shown (.list (encS ks))).length ≤ sizeLine := Nat.le_trans sm.ln (by decide)
      obtain ⟨R, hR⟩ : ∃ t, t = PyData.shown (.list (encS ks)) := ⟨_, rfl⟩
      refine ⟨_, rfl, p, _, rfl, tk, sm.sh, dp40, ln, ?_⟩
      rw [← hR]
      refine ⟨_, rfl, p, ks, rfl, tk, dp, wt, fun H5 s5 => ?_⟩
      refine ⟨_, rfl, .str _, .ty "str", _, _, true, rfl, .ty _, .base (.str _), kit_ty (by decide +kernel), true, rfl, ite2 (fun c => nomatch c) (fun _ => ?_)⟩
      refine ⟨_, rfl, _, rfl, p, ks, H5, [], rfl, Sb.nil, tk.same s5, dp, wt, fun j G6 H6 S6 g6 tj => ?_⟩
      refine ⟨j, jn (flS ks), rfl, tj.same S6.s, Nat.le_trans (dpS_jn _) (Nat.le_trans (dpS_flS _) dp), Nat.le_trans (wS_jn _) (Nat.le_trans (wS_flS _) wt), nt_nuS false _ (nt_jn (nt_flS ks)), fun H7 s7 => ?_⟩
      rw [law68]
      refine ⟨rfl, _, rfl, ite2 (fun c => absurd c (by simp)) (fun _ => ?_)⟩
      have s57 : Same H4 H7 := Same.trans s5 (Same.trans g6 (Same.trans S6.s s7))
      refine ⟨_, rfl, p, _, rfl, tk.same s57, sm.sh, dp40, ln, ?_⟩
      rw [← hR]
      refine ⟨_, rfl, rfl, _, rfl, ite2 (fun c => absurd c (by simp)) (fun _ => ?_)⟩
      refine ⟨_, rfl, p, ks, rfl, tk.same s57, dp, wt, fun H8 s8 => ?_⟩
      refine ⟨_, rfl, rfl, _, rfl, ite2 (fun c => absurd c (by simp)) (fun _ => ?_)⟩
      exact ⟨Same.trans s2 (Same.trans s4 (Same.trans s57 s8)), _, _, _, _, rfl⟩
    · rintro σ H2 ⟨s2, y2, y3, y4, y5, rfl⟩
      exact k _
end
end VL

set_option Elab.async false
set_option linter.all false
set_option maxRecDepth 100000
set_option maxHeartbeats 4000000
namespace VL
open PySem PySem.Spec PyProof.Rows L2
theorem all_mk {l : PySem.W.OpenLaw} {w : World} {K : PySem.W.Frag} {h : Heap} {mg : Str → Option Value} {fa f1 f2 f3 f4 f5 f6 f7 f8 f9 f10 f11 f12 f13 : Addr} (X : K.In h) (G : h.Ns mainGlobals mg) (hfa : mg "law" = some (.ref fa))
    {od1 an1 od2 an2 od3 an3 od4 an4 od5 an5 od6 an6 od7 an7 od8 an8 od9 an9 od10 an10 od11 an11 od12 an12 od13 an13 : Option Addr} {sl1 sl2 sl3 sl4 sl5 sl6 sl7 sl8 sl9 sl10 sl11 sl12 sl13 : Array (Option Value)} {v_EMPTY_TEXT v_BETWEEN_TEXTS v_AWAIT_END oc1 kV1 dc1 pm1 cd1 ct1 oc2 kV2 dc2 pm2 cd2 ct2 oc3 kV3 dc3 pm3 cd3 ct3 oc4 kV4 dc4 pm4 cd4 ct4 oc5 kV5 dc5 pm5 cd5 ct5 oc6 kV6 dc6 pm6 cd6 ct6 oc7 kV7 dc7 pm7 cd7 ct7 oc8 kV8 dc8 pm8 cd8 ct8 oc9 kV9 dc9 pm9 cd9 ct9 oc10 kV10 dc10 pm10 cd10 ct10 oc11 kV11 dc11 pm11 cd11 ct11 oc12 kV12 dc12 pm12 cd12 ct12 oc13 kV13 dc13 pm13 cd13 ct13 : Value} 
    (z_int : PySem.W.nsIn K mainGlobals "int" = some none)
    (z_isinstance : PySem.W.nsIn K mainGlobals "isinstance" = some none)
    (z_len : PySem.W.nsIn K mainGlobals "len" = some none)
    (z_range : PySem.W.nsIn K mainGlobals "range" = some none)
    (z_repr : PySem.W.nsIn K mainGlobals "repr" = some none)
    (z_str : PySem.W.nsIn K mainGlobals "str" = some none)
    (g_EMPTY_TEXT : PySem.W.nsIn K mainGlobals "EMPTY_TEXT" = some (some v_EMPTY_TEXT))
    (r_EMPTY_TEXT : RelV (V.str "<!--e-->") v_EMPTY_TEXT)
    (g_BETWEEN_TEXTS : PySem.W.nsIn K mainGlobals "BETWEEN_TEXTS" = some (some v_BETWEEN_TEXTS))
    (r_BETWEEN_TEXTS : RelV (V.str "<!--t-->") v_BETWEEN_TEXTS)
    (g_AWAIT_END : PySem.W.nsIn K mainGlobals "AWAIT_END" = some (some v_AWAIT_END))
    (r_AWAIT_END : RelV (V.str "<!--]-->") v_AWAIT_END)
    (a1 : PySem.W.nsIn K mainGlobals "write_tree" = some (some (.ref f1)))
    (l1 : K.lookup f1 = some ⟨oc1, od1, .func (PySem.W.fnOf "write_tree" "write_tree" (defArgs s_write_tree) (defBody s_write_tree) (defScope s_write_tree) .none kV1 dc1 pm1 an1 cd1 ct1), sl1⟩)
    (c1 : PySem.W.codeIn K cd1 "write_tree" = true)
    (k1 : PySem.W.keepIn K (.ref f1) = true)
    (a2 : PySem.W.nsIn K mainGlobals "plain_text" = some (some (.ref f2)))
    (l2 : K.lookup f2 = some ⟨oc2, od2, .func (PySem.W.fnOf "plain_text" "plain_text" (defArgs s_plain_text) (defBody s_plain_text) (defScope s_plain_text) .none kV2 dc2 pm2 an2 cd2 ct2), sl2⟩)
    (c2 : PySem.W.codeIn K cd2 "plain_text" = true)
    (k2 : PySem.W.keepIn K (.ref f2) = true)
    (a3 : PySem.W.nsIn K mainGlobals "written_text" = some (some (.ref f3)))
    (l3 : K.lookup f3 = some ⟨oc3, od3, .func (PySem.W.fnOf "written_text" "written_text" (defArgs s_written_text) (defBody s_written_text) (defScope s_written_text) .none kV3 dc3 pm3 an3 cd3 ct3), sl3⟩)
    (c3 : PySem.W.codeIn K cd3 "written_text" = true)
    (k3 : PySem.W.keepIn K (.ref f3) = true)
    (a4 : PySem.W.nsIn K mainGlobals "written_value" = some (some (.ref f4)))
    (l4 : K.lookup f4 = some ⟨oc4, od4, .func (PySem.W.fnOf "written_value" "written_value" (defArgs s_written_value) (defBody s_written_value) (defScope s_written_value) .none kV4 dc4 pm4 an4 cd4 ct4), sl4⟩)
    (c4 : PySem.W.codeIn K cd4 "written_value" = true)
    (k4 : PySem.W.keepIn K (.ref f4) = true)
    (a5 : PySem.W.nsIn K mainGlobals "written_element" = some (some (.ref f5)))
    (l5 : K.lookup f5 = some ⟨oc5, od5, .func (PySem.W.fnOf "written_element" "written_element" (defArgs s_written_element) (defBody s_written_element) (defScope s_written_element) .none kV5 dc5 pm5 an5 cd5 ct5), sl5⟩)
    (c5 : PySem.W.codeIn K cd5 "written_element" = true)
    (k5 : PySem.W.keepIn K (.ref f5) = true)
    (a6 : PySem.W.nsIn K mainGlobals "_law_rows" = some (some (.ref f6)))
    (l6 : K.lookup f6 = some ⟨oc6, od6, .func (PySem.W.fnOf "_law_rows" "_law_rows" (defArgs s__law_rows) (defBody s__law_rows) (defScope s__law_rows) .none kV6 dc6 pm6 an6 cd6 ct6), sl6⟩)
    (c6 : PySem.W.codeIn K cd6 "_law_rows" = true)
    (k6 : PySem.W.keepIn K (.ref f6) = true)
    (a7 : PySem.W.nsIn K mainGlobals "_law_text" = some (some (.ref f7)))
    (l7 : K.lookup f7 = some ⟨oc7, od7, .func (PySem.W.fnOf "_law_text" "_law_text" (defArgs s__law_text) (defBody s__law_text) (defScope s__law_text) .none kV7 dc7 pm7 an7 cd7 ct7), sl7⟩)
    (c7 : PySem.W.codeIn K cd7 "_law_text" = true)
    (k7 : PySem.W.keepIn K (.ref f7) = true)
    (a8 : PySem.W.nsIn K mainGlobals "_law_word" = some (some (.ref f8)))
    (l8 : K.lookup f8 = some ⟨oc8, od8, .func (PySem.W.fnOf "_law_word" "_law_word" (defArgs s__law_word) (defBody s__law_word) (defScope s__law_word) .none kV8 dc8 pm8 an8 cd8 ct8), sl8⟩)
    (c8 : PySem.W.codeIn K cd8 "_law_word" = true)
    (k8 : PySem.W.keepIn K (.ref f8) = true)
    (a9 : PySem.W.nsIn K mainGlobals "_law_tree" = some (some (.ref f9)))
    (l9 : K.lookup f9 = some ⟨oc9, od9, .func (PySem.W.fnOf "_law_tree" "_law_tree" (defArgs s__law_tree) (defBody s__law_tree) (defScope s__law_tree) .none kV9 dc9 pm9 an9 cd9 ct9), sl9⟩)
    (c9 : PySem.W.codeIn K cd9 "_law_tree" = true)
    (k9 : PySem.W.keepIn K (.ref f9) = true)
    (a10 : PySem.W.nsIn K mainGlobals "_law_drawn" = some (some (.ref f10)))
    (l10 : K.lookup f10 = some ⟨oc10, od10, .func (PySem.W.fnOf "_law_drawn" "_law_drawn" (defArgs s__law_drawn) (defBody s__law_drawn) (defScope s__law_drawn) .none kV10 dc10 pm10 an10 cd10 ct10), sl10⟩)
    (c10 : PySem.W.codeIn K cd10 "_law_drawn" = true)
    (k10 : PySem.W.keepIn K (.ref f10) = true)
    (a11 : PySem.W.nsIn K mainGlobals "_law_flat" = some (some (.ref f11)))
    (l11 : K.lookup f11 = some ⟨oc11, od11, .func (PySem.W.fnOf "_law_flat" "_law_flat" (defArgs s__law_flat) (defBody s__law_flat) (defScope s__law_flat) .none kV11 dc11 pm11 an11 cd11 ct11), sl11⟩)
    (c11 : PySem.W.codeIn K cd11 "_law_flat" = true)
    (k11 : PySem.W.keepIn K (.ref f11) = true)
    (a12 : PySem.W.nsIn K mainGlobals "_law_joined" = some (some (.ref f12)))
    (l12 : K.lookup f12 = some ⟨oc12, od12, .func (PySem.W.fnOf "_law_joined" "_law_joined" (defArgs s__law_joined) (defBody s__law_joined) (defScope s__law_joined) .none kV12 dc12 pm12 an12 cd12 ct12), sl12⟩)
    (c12 : PySem.W.codeIn K cd12 "_law_joined" = true)
    (k12 : PySem.W.keepIn K (.ref f12) = true)
    (a13 : PySem.W.nsIn K mainGlobals "law" = some (some (.ref f13)))
    (l13 : K.lookup f13 = some ⟨oc13, od13, .func (PySem.W.fnOf "law" "law" (defArgs s_law) (defBody s_law) (defScope s_law) .none kV13 dc13 pm13 an13 cd13 ct13), sl13⟩)
    (c13 : PySem.W.codeIn K cd13 "law" = true)
    (k13 : PySem.W.keepIn K (.ref f13) = true)
    : ∃ fd : FuncData, (∀ (s : Shared) (v : Value), BindsTo s fd ⟨[v], []⟩ [("script", v)]) ∧ ∀ base : Heap, K.In base → base.Ns mainGlobals mg → FnG l.prog w K mg base 18 fa fd ["script"] (spLaw K) := by
  have e := hfa.symm.trans (PySem.W.mg_of X G a13)
  cases e
  have F1 := fun_mk (st := s_write_tree) l1 c1 k1
  have b1 := F1.binds (ps := ["nodes"]) fun _ _ _ _ _ _ us hl => match us, hl with | [_], _ => rfl
  have F2 := fun_mk (st := s_plain_text) l2 c2 k2
  have b2 := F2.binds (ps := ["nodes"]) fun _ _ _ _ _ _ us hl => match us, hl with | [_], _ => rfl
  have F3 := fun_mk (st := s_written_text) l3 c3 k3
  have b3 := F3.binds (ps := ["text"]) fun _ _ _ _ _ _ us hl => match us, hl with | [_], _ => rfl
  have F4 := fun_mk (st := s_written_value) l4 c4 k4
  have b4 := F4.binds (ps := ["text"]) fun _ _ _ _ _ _ us hl => match us, hl with | [_], _ => rfl
  have F5 := fun_mk (st := s_written_element) l5 c5 k5
  have b5 := F5.binds (ps := ["node", "inner"]) fun _ _ _ _ _ _ us hl => match us, hl with | [_, _], _ => rfl
  have F6 := fun_mk (st := s__law_rows) l6 c6 k6
  have b6 := F6.binds (ps := ["script", "count"]) fun _ _ _ _ _ _ us hl => match us, hl with | [_, _], _ => rfl
  have F7 := fun_mk (st := s__law_text) l7 c7 k7
  have b7 := F7.binds (ps := ["row"]) fun _ _ _ _ _ _ us hl => match us, hl with | [_], _ => rfl
  have F8 := fun_mk (st := s__law_word) l8 c8 k8
  have b8 := F8.binds (ps := ["row"]) fun _ _ _ _ _ _ us hl => match us, hl with | [_], _ => rfl
  have F9 := fun_mk (st := s__law_tree) l9 c9 k9
  have b9 := F9.binds (ps := ["rows", "world", "depth"]) fun _ _ _ _ _ _ us hl => match us, hl with | [_, _, _], _ => rfl
  have F10 := fun_mk (st := s__law_drawn) l10 c10 k10
  have b10 := F10.binds (ps := ["rows", "at", "most"]) fun _ _ _ _ _ _ us hl => match us, hl with | [_, _, _], _ => rfl
  have F11 := fun_mk (st := s__law_flat) l11 c11 k11
  have b11 := F11.binds (ps := ["nodes"]) fun _ _ _ _ _ _ us hl => match us, hl with | [_], _ => rfl
  have F12 := fun_mk (st := s__law_joined) l12 c12 k12
  have b12 := F12.binds (ps := ["nodes"]) fun _ _ _ _ _ _ us hl => match us, hl with | [_], _ => rfl
  have T : Txt K w mg ⟨()⟩ := {
    z_int := PySem.W.mg_none_of X G z_int,
    z_isinstance := PySem.W.mg_none_of X G z_isinstance,
    z_len := PySem.W.mg_none_of X G z_len,
    z_range := PySem.W.mg_none_of X G z_range,
    z_repr := PySem.W.mg_none_of X G z_repr,
    z_str := PySem.W.mg_none_of X G z_str,
    g_EMPTY_TEXT := ⟨_, PySem.W.mg_of X G g_EMPTY_TEXT, r_EMPTY_TEXT⟩,
    g_BETWEEN_TEXTS := ⟨_, PySem.W.mg_of X G g_BETWEEN_TEXTS, r_BETWEEN_TEXTS⟩,
    g_AWAIT_END := ⟨_, PySem.W.mg_of X G g_AWAIT_END, r_AWAIT_END⟩,
    d_write_tree := ⟨_, _, F1, PySem.W.mg_of X G a1, b1⟩,
    d_plain_text := ⟨_, _, F2, PySem.W.mg_of X G a2, b2⟩,
    d_written_text := ⟨_, _, F3, PySem.W.mg_of X G a3, b3⟩,
    d_written_value := ⟨_, _, F4, PySem.W.mg_of X G a4, b4⟩,
    d_written_element := ⟨_, _, F5, PySem.W.mg_of X G a5, b5⟩,
    d__law_rows := ⟨_, _, F6, PySem.W.mg_of X G a6, b6⟩,
    d__law_text := ⟨_, _, F7, PySem.W.mg_of X G a7, b7⟩,
    d__law_word := ⟨_, _, F8, PySem.W.mg_of X G a8, b8⟩,
    d__law_tree := ⟨_, _, F9, PySem.W.mg_of X G a9, b9⟩,
    d__law_drawn := ⟨_, _, F10, PySem.W.mg_of X G a10, b10⟩,
    d__law_flat := ⟨_, _, F11, PySem.W.mg_of X G a11, b11⟩,
    d__law_joined := ⟨_, _, F12, PySem.W.mg_of X G a12, b12⟩ }
  exact ⟨_, fun s v => .of_eq rfl, fun base _ _ => ok_law (fun_mk (st := s_law) l13 c13 k13) T⟩
theorem walk {l : PySem.W.OpenLaw} {q : Program} {loose : List Str} {XP : (Str → Option Value) → Heap → Prop} {YP : World → Heap → Prop} {d : DefRec} {K : Params → PySem.W.Frag} (hn : l.most = some 63) (hdf : d.params.defaults = [])
    (hY : ∀ (w : World) (h : Heap), YP w h → (K w.params).In h)
    (F : ∀ (w : World) (mg : Str → Option Value) (fa : Addr) (h : Heap), (K w.params).In h → h.Ns mainGlobals mg → mg d.name = some (.ref fa) →
      ∃ fd : FuncData, (∀ (s : Shared) (u : Value), BindsTo s fd ⟨[u], []⟩ [("script", u)]) ∧ ∀ base : Heap, (K w.params).In base → base.Ns mainGlobals mg → FnG l.prog w (K w.params) mg base 18 fa fd ["script"] (spLaw (K w.params))) :
    PySem.W.WalkO q loose XP YP l.row.toRowW d [] (fun f vs => PySem.call f vs) :=
  walk_ofG (n := 63) (k := 18) (x := "script") (sp := fun w => spLaw (K w.params)) hn (by decide) hdf ⟨rfl, by decide, by decide⟩ hY F (fun _ _ a ns hl _ hS => ⟨a, ns, rfl, hS, hl, fun _ => rfl⟩)
end VL

open PySem PySem.W PyProof.Rows in
set_option maxRecDepth 100000 in
set_option maxHeartbeats 0 in
set_option pp.maxSteps 60 in
theorem PySem.Challenge.cw_viewloom_k68_plain_texts_holds : PySem.Challenge.rw_viewloom_k68_plain_texts.Holds := by
  w_on; o_law; k_head; (case hw => w_witness2)
  k_fill
  refine VL.walk (l := PySem.Challenge.rw_viewloom_k68_plain_texts) rfl rfl (fun w h Y => PySem.W.kIn_of Y) ?F
  case F =>
    intro w mg fa h KX G hmg
    refine' VL.all_mk KX G hmg ?z_int ?z_isinstance ?z_len ?z_range ?z_repr ?z_str ?g_EMPTY_TEXT ?r_EMPTY_TEXT ?g_BETWEEN_TEXTS ?r_BETWEEN_TEXTS ?g_AWAIT_END ?r_AWAIT_END ?a1 ?l1 ?c1 ?k1 ?a2 ?l2 ?c2 ?k2 ?a3 ?l3 ?c3 ?k3 ?a4 ?l4 ?c4 ?k4 ?a5 ?l5 ?c5 ?k5 ?a6 ?l6 ?c6 ?k6 ?a7 ?l7 ?c7 ?k7 ?a8 ?l8 ?c8 ?k8 ?a9 ?l9 ?c9 ?k9 ?a10 ?l10 ?c10 ?k10 ?a11 ?l11 ?c11 ?k11 ?a12 ?l12 ?c12 ?k12 ?a13 ?l13 ?c13 ?k13
    (case z_int => k_is)
    (case z_isinstance => k_is)
    (case z_len => k_is)
    (case z_range => k_is)
    (case z_repr => k_is)
    (case z_str => k_is)
    (case g_EMPTY_TEXT => k_is)
    (case r_EMPTY_TEXT => exact ⟨_, rfl⟩)
    (case g_BETWEEN_TEXTS => k_is)
    (case r_BETWEEN_TEXTS => exact ⟨_, rfl⟩)
    (case g_AWAIT_END => k_is)
    (case r_AWAIT_END => exact ⟨_, rfl⟩)
    (case a1 => k_is)
    (case l1 => k_is)
    (case c1 => k_is)
    (case k1 => k_is)
    (case a2 => k_is)
    (case l2 => k_is)
    (case c2 => k_is)
    (case k2 => k_is)
    (case a3 => k_is)
    (case l3 => k_is)
    (case c3 => k_is)
    (case k3 => k_is)
    (case a4 => k_is)
    (case l4 => k_is)
    (case c4 => k_is)
    (case k4 => k_is)
    (case a5 => k_is)
    (case l5 => k_is)
    (case c5 => k_is)
    (case k5 => k_is)
    (case a6 => k_is)
    (case l6 => k_is)
    (case c6 => k_is)
    (case k6 => k_is)
    (case a7 => k_is)
    (case l7 => k_is)
    (case c7 => k_is)
    (case k7 => k_is)
    (case a8 => k_is)
    (case l8 => k_is)
    (case c8 => k_is)
    (case k8 => k_is)
    (case a9 => k_is)
    (case l9 => k_is)
    (case c9 => k_is)
    (case k9 => k_is)
    (case a10 => k_is)
    (case l10 => k_is)
    (case c10 => k_is)
    (case k10 => k_is)
    (case a11 => k_is)
    (case l11 => k_is)
    (case c11 => k_is)
    (case k11 => k_is)
    (case a12 => k_is)
    (case l12 => k_is)
    (case c12 => k_is)
    (case k12 => k_is)
    (case a13 => k_is)
    (case l13 => k_is)
    (case c13 => k_is)
    (case k13 => k_is)
#print axioms PySem.Challenge.cw_viewloom_k68_plain_texts_holds
