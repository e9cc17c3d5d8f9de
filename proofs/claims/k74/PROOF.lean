import PyProof.Rows.All
import Wide.All
import OpenK.AllK
import Wide.FinOn
import HandS.ForMost
import HandS.More
import HandS.Codes
import HandS.StrMore
import HandS.ReplaceDef
import HandS.ReplaceLit
import HandS.ReplaceList
import HandS.FStr
import HandS.Ends
import PyProof.ReprRoads
import PyProof.ReprReads
import PyProof.RowDictHeap
import HandS.DictComp
import HandS.Walk
import KE.DataEq
import HandS.Defaults
import HandS.Property
import HandS.ClsMeth
import HandS.ExcIs
import HandS.RaiseMore
import HandS.ForExc
import HandS.IsInst
import HandS.DeepEq
import HandS.Deep
import HandS.Nested
import HandS.ExcInit
import KE.KSuper
import KE.KExcSuper
import HandS.ExcField
import KE.KExcIs
import HandS.ExcOwn
import HandS.IterVal
import HandS.Star
import HandS.HotCalls
import KE.IntTextText
import HandS.Steps
import HandS.Style
import HandS.TupLe
import HandS.FStrTup
import HandS.TryOnly
import HandS.Conv
import KE.RegKIsAll
import KE.RegKSuper
import PySem.Challenge.RW_viewloom_k74_recordings_are_read
set_option Elab.async false
set_option linter.all false
set_option maxRecDepth 100000
set_option maxHeartbeats 4000000
namespace VL
open PySem PySem.Spec PyProof.Rows L2

/-! ### defs, methods, classes, as callers see them -/
structure Cal (P : Program) (w : World) (K : PySem.W.Frag) (mg : Str → Option Value) (base : Heap) (k : Nat) (x : Str) (sp : Sp) : Prop where
  ex : ∃ (f : Addr) (fd : FuncData) (ps : List Str), FnOk P w K mg base CX0 k f fd ps sp ∧ mg x = some (.ref f) ∧ PySem.W.keepIn K (.ref f) = true ∧ Binds K fd ps []
structure Met (P : Program) (w : World) (K : PySem.W.Frag) (mg : Str → Option Value) (base : Heap) (k : Nat) (C : Addr) (m : Str) (sp : Sp) : Prop where
  ex : ∃ (f : Addr) (fd : FuncData) (ps : List Str), Cls K C ∧ Meth K C m f ∧ FnOk P w K mg base CX0 k f fd ps sp ∧ Binds K fd ps []
structure Mak (P : Program) (w : World) (K : PySem.W.Frag) (mg : Str → Option Value) (base : Heap) (k : Nat) (x : Str) (C : Addr) (sp : Sp) : Prop where
  ex : ∃ (f : Addr) (fd : FuncData) (ps : List Str), Mk K C f ∧ FnOk P w K mg base CX0 k f fd ps sp ∧ mg x = some (.ref C) ∧ Binds K fd ps []
section
variable {X : Cx} {k j : Nat} {C : Addr} {x m : Str} {sp : Sp} {p pos apos : Pos} {e o : Expr} {es : List Expr} {ta : TE} {t : TA}
theorem pe_c (c : Cal X.prog X.w X.K X.mg X.base k x sp) (hr : Room j X.A) (hk : k ≤ j) (hg : Gl X x) (ha : PA X (e :: es) t)
    (hdb : (x == ("__debug__" : Str)) = false := by decide) (he : starEach (e :: es) X.env = (false, eval e X.env) :: starEach es X.env := by rfl) (hpl : (backTo pos (starEach es X.env)).any (·.1) = false := by rfl) :
    PE X (.Call (.Name x p) (e :: es) [] pos) (tCall sp [] E0 t) := by
  obtain ⟨f, fd, ps, F, hm, kp, b⟩ := c.ex
  exact pe_call F (hr.mono hk) hg hm kp b .nil pass0 ha hdb he hpl
theorem pe_mk (c : Mak X.prog X.w X.K X.mg X.base k x C sp) (hr : Room j X.A) (hk : k + 1 ≤ j) (hg : Gl X x) (ha : PA X (e :: es) t)
    (hdb : (x == ("__debug__" : Str)) = false := by decide) (he : starEach (e :: es) X.env = (false, eval e X.env) :: starEach es X.env := by rfl) (hpl : (backTo pos (starEach es X.env)).any (·.1) = false := by rfl) :
    PE X (.Call (.Name x p) (e :: es) [] pos) (tMake C sp [] E0 t) := by
  obtain ⟨f, fd, ps, M, F, hm, b⟩ := c.ex
  exact pe_make M F (hr.mono hk) hg hm b .nil pass0 ha hdb he hpl
theorem pe_mk0 (c : Mak X.prog X.w X.K X.mg X.base k x C sp) (hr : Room j X.A) (hk : k + 1 ≤ j) (hg : Gl X x) (hdb : (x == ("__debug__" : Str)) = false := by decide) :
    PE X (.Call (.Name x p) [] [] pos) (tMake C sp [] E0 tNil) := by
  obtain ⟨f, fd, ps, M, F, hm, b⟩ := c.ex
  exact pe_make0 M F (hr.mono hk) hg hm b .nil pass0 hdb
theorem pe_mt {pl : Sem Bool} (c : Met X.prog X.w X.K X.mg X.base k C m sp) (hr : Room j X.A) (hk : k ≤ j) (he : PE X o ta) (ha : PA X (e :: es) t)
    (hst : starEach (e :: es) X.env = (false, eval e X.env) :: starEach es X.env := by rfl) (hpl : (backTo pos (starEach es X.env)).any (·.1) = false := by rfl)
    (ht : eval (.Call (.Attribute o m apos) (e :: es) [] pos) X.env = (do
      let ov ← eval o X.env
      standAt apos.atName
      let (f, first) ← holding [ov] (getMethod ov m pl)
      callWith pos f first (backTo pos (starEach (e :: es) X.env)) (backToKw pos (keywordEach [] X.env))) := by rfl) :
    PE X (.Call (.Attribute o m apos) (e :: es) [] pos) (tMeth C m sp [] E0 ta t) := by
  obtain ⟨f, fd, ps, hc, hm, F, b⟩ := c.ex
  exact pe_meth (pl := pl) he hc hm F (hr.mono hk) b .nil pass0 ha hst hpl ht
theorem pe_mt0 {pl : Sem Bool} (c : Met X.prog X.w X.K X.mg X.base k C m sp) (hr : Room j X.A) (hk : k ≤ j) (he : PE X o ta)
    (ht : eval (.Call (.Attribute o m apos) [] [] pos) X.env = (do
      let ov ← eval o X.env
      standAt apos.atName
      let (f, first) ← holding [ov] (getMethod ov m pl)
      callWith pos f first (backTo pos (starEach [] X.env)) (backToKw pos (keywordEach [] X.env))) := by rfl) :
    PE X (.Call (.Attribute o m apos) [] [] pos) (tMeth C m sp [] E0 ta tNil) := by
  obtain ⟨f, fd, ps, hc, hm, F, b⟩ := c.ex
  exact pe_meth0 (pl := pl) he hc hm F (hr.mono hk) b .nil pass0 ht
end

/-! ### what the text has -/
def DefE (K : PySem.W.Frag) (mg : Str → Option Value) (x : Str) (st : Stmt) (ps : List Str) : Prop := ∃ (f : Addr) (fd : FuncData), Fun K x x st f fd ∧ mg x = some (.ref f) ∧ Binds K fd ps []
def MethE (K : PySem.W.Frag) (C : Addr) (x qual : Str) (st : Stmt) (ps : List Str) : Prop := ∃ (f : Addr) (fd : FuncData), Fun K x qual st f fd ∧ Meth K C x f ∧ Binds K fd ps []
def InitE (K : PySem.W.Frag) (mg : Str → Option Value) (cn : Str) (C : Addr) (qual : Str) (st : Stmt) (ps : List Str) : Prop := ∃ (f : Addr) (fd : FuncData), Fun K "__init__" qual st f fd ∧ Mk K C f ∧ mg cn = some (.ref C) ∧ Binds K fd ps []
/-- a global name of the module has the value v -/
abbrev GV (mg : Str → Option Value) (x : Str) (v : V) : Prop := ∃ u, mg x = some u ∧ RelV v u
section
variable {P : Program} {w : World} {K : PySem.W.Frag} {mg : Str → Option Value} {base : Heap}
theorem cal_of {x : Str} {st : Stmt} {ps N : List Str} {k : Nat} {sp : Sp} (D : DefE K mg x st ps) (S : FnScope N ps (defScope st)) (len : ∀ vs H Q E, sp vs H Q E → vs.length = ps.length)
    (hbody : ∀ (f : Addr) (cdv : Value) (A : Around) (outer : List Env) (s : Shared) (H : Hp) (vs : List V) (Q : VK) (E : XK), Room k (A.deeper (envOfC x (defScope st) s.heap.objs.size f cdv)) → sp vs H Q E →
      ∃ t, PSs (cxOf CX0 P w K mg base N x (defScope st) f cdv A outer s H E).nox (defBody st) t ∧ t { nx := fun _ H' => Q .non H', rt := Q } (start N vs) H) : Cal P w K mg base (k + 1) x sp := by
  obtain ⟨f, fd, F, hm, b⟩ := D
  exact ⟨f, fd, ps, F.ok S len (hbody f), hm, F.kp, b⟩
theorem met_of {C : Addr} {x qual : Str} {st : Stmt} {ps N : List Str} {k : Nat} {sp : Sp} (D : MethE K C x qual st ps) (c : Cls K C) (S : FnScope N ps (defScope st)) (len : ∀ vs H Q E, sp vs H Q E → vs.length = ps.length)
    (hbody : ∀ (f : Addr) (cdv : Value) (A : Around) (outer : List Env) (s : Shared) (H : Hp) (vs : List V) (Q : VK) (E : XK), Room k (A.deeper (envOfC qual (defScope st) s.heap.objs.size f cdv)) → sp vs H Q E →
      ∃ t, PSs (cxOf CX0 P w K mg base N qual (defScope st) f cdv A outer s H E).nox (defBody st) t ∧ t { nx := fun _ H' => Q .non H', rt := Q } (start N vs) H) : Met P w K mg base (k + 1) C x sp := by
  obtain ⟨f, fd, F, hm, b⟩ := D
  exact ⟨f, fd, ps, c, hm, F.ok S len (hbody f), b⟩
theorem mak_of {C : Addr} {cn qual : Str} {st : Stmt} {ps N : List Str} {k : Nat} {sp : Sp} (D : InitE K mg cn C qual st ps) (S : FnScope N ps (defScope st)) (len : ∀ vs H Q E, sp vs H Q E → vs.length = ps.length)
    (hbody : ∀ (f : Addr) (cdv : Value) (A : Around) (outer : List Env) (s : Shared) (H : Hp) (vs : List V) (Q : VK) (E : XK), Room k (A.deeper (envOfC qual (defScope st) s.heap.objs.size f cdv)) → sp vs H Q E →
      ∃ t, PSs (cxOf CX0 P w K mg base N qual (defScope st) f cdv A outer s H E).nox (defBody st) t ∧ t { nx := fun _ H' => Q .non H', rt := Q } (start N vs) H) : Mak P w K mg base (k + 1) cn C sp := by
  obtain ⟨f, fd, F, M, hm, b⟩ := D
  exact ⟨f, fd, ps, M, F.ok S len (hbody f), hm, b⟩
end
theorem ps_str_loc : True := trivial
end VL

set_option Elab.async false
set_option linter.all false
set_option maxRecDepth 100000
set_option maxHeartbeats 4000000
namespace VL
open PySem PySem.Spec PyProof.Rows L2

/-! ### texts as lists of signs -/
abbrev TX (l : List Nat) : Str := ⟨l.toArray⟩
theorem TX_tl (l : List Nat) : (TX l).cps.toList = l := by simp
theorem TX_len (l : List Nat) : (TX l).length = l.length := by simp [Str.length]
theorem TX_cat (a b : List Nat) : TX a ++ TX b = TX (a ++ b) := SX.S_cat a b
theorem TX_inj {a b : List Nat} (h : TX a = TX b) : a = b := SX.S_inj h
theorem vstr_TX {a b : List Nat} : decide (V.str (TX a) = V.str (TX b)) = decide (a = b) := by
  by_cases e : a = b
  · subst e; simp
  · have : ¬ V.str (TX a) = V.str (TX b) := fun q => e (TX_inj (V.str.inj q))
    rw [decide_eq_false this, decide_eq_false e]
theorem one_eq {c d : Nat} : decide (V.str (TX [c]) = V.str (TX [d])) = decide (c = d) := by
  rw [vstr_TX]
  by_cases e : c = d
  · subst e; simp
  · simp [e]
/-- the sign at a place -/
theorem at_mid {pre r : List Nat} {c : Nat} {i : Int} (hi : i = (pre.length : Int)) : atI (TX (pre ++ c :: r)).cps.toList i = some c := by
  subst hi
  rw [TX_tl]
  unfold atI ixN
  rw [if_pos (by omega), if_pos (by simp; omega)]
  show (pre ++ c :: r)[(pre.length : Int).toNat]? = _
  rw [Int.toNat_natCast]
  simp
theorem getD_TX (l : List Nat) (v : Nat) : (TX l).cps.getD v 0 = l.getD v 0 := by
  simp only [Array.getD, List.getD_eq_getElem?_getD]
  by_cases h : v < l.length
  · rw [dif_pos (by simpa using h)]
    simp [h]
  · rw [dif_neg (by simpa using h), List.getElem?_eq_none (by omega)]
    rfl
theorem lt_one {c d : Nat} : ([c] < [d]) ↔ c < d := by
  constructor
  · intro h
    cases h with
    | rel h => exact h
    | cons h => cases h
  · intro h
    exact .rel h
/-- s.startswith(y, i) -/
theorem starts_at {pre R y : List Nat} {i : Int} (hi : i = (pre.length : Int)) : Txt.startswith3 (TX (pre ++ R)) (TX y) i = (R.take y.length == y) := by
  subst hi
  have e : fromIndex (TX (pre ++ R)).length (pre.length : Int) = pre.length := by
    unfold fromIndex
    rw [if_neg (by omega)]
    omega
  unfold Txt.startswith3
  rw [e, StrLaws.subAt_eq]
  have h1 : (TX (pre ++ R)).cps.toList.drop pre.length = R := by simp
  rw [h1, TX_len, TX_len]
  show (decide (pre.length + y.length ≤ (pre ++ R).length) && (R.take y.length == (TX y).cps.toList)) = _
  rw [TX_tl, List.length_append]
  by_cases h : y.length ≤ R.length
  · rw [decide_eq_true (by omega)]
    rfl
  · rw [decide_eq_false (by omega)]
    have : (R.take y.length == y) = false := by
      refine beq_eq_false_iff_ne.mpr fun q => h ?_
      have := congrArg List.length q
      rw [List.length_take] at this
      omega
    rw [this]
    rfl
/-- s.find("\n", i) -/
theorem find_nl {pre c r : List Nat} {d : Nat} {i : Int} (hi : i = (pre.length : Int)) (hc : d ∉ c) : Txt.find3 (TX (pre ++ (c ++ d :: r))) (TX [d]) i = ((pre.length + c.length : Nat) : Int) := by
  subst hi
  have e : fromIndex (TX (pre ++ (c ++ d :: r))).length (pre.length : Int) = pre.length := by
    unfold fromIndex
    rw [if_neg (by omega)]
    omega
  have hg : ∀ v, v < (pre ++ (c ++ d :: r)).length → (TX (pre ++ (c ++ d :: r))).cps.getD v 0 = (pre ++ (c ++ d :: r)).getD v 0 := fun v _ => getD_TX _ v
  have hat : (pre ++ (c ++ d :: r)).getD (pre.length + c.length) 0 = d := by simp [List.getD_eq_getElem?_getD]
  have hlt : pre.length + c.length < (pre ++ (c ++ d :: r)).length := by rw [List.length_append, List.length_append, List.length_cons]; omega
  rcases StrLaws.find3_spec (TX (pre ++ (c ++ d :: r))) d (pre.length : Int) with ⟨_, h2⟩ | ⟨k, h1, h2, h3, h4, h5⟩
  · rw [e, TX_len] at h2
    exact absurd (by rw [hg _ hlt]; exact hat) (h2 (pre.length + c.length) (by omega) hlt)
  · rw [e] at h2 h5
    rw [TX_len] at h3
    rw [h1]
    have hk : k = pre.length + c.length := by
      rcases Nat.lt_trichotomy k (pre.length + c.length) with q | q | q
      · exfalso
        rw [hg k h3] at h4
        have e3 : (pre ++ (c ++ d :: r)).getD k 0 = c.getD (k - pre.length) 0 := by
          rw [List.getD_eq_getElem?_getD, List.getD_eq_getElem?_getD, List.getElem?_append_right h2, List.getElem?_append_left (by omega)]
        rw [e3] at h4
        apply hc
        have hlt2 : k - pre.length < c.length := by omega
        rw [List.getD_eq_getElem?_getD, List.getElem?_eq_getElem hlt2] at h4
        have h4 : c[k - pre.length] = d := h4
        rw [← h4]
        exact List.getElem_mem hlt2
      · exact q
      · exfalso
        exact h5 (pre.length + c.length) (by omega) q (by rw [hg _ hlt]; exact hat)
    rw [hk]
/-- s[i:j] -/
theorem cut_mid {pre m r : List Nat} {i j : Int} (hi : i = (pre.length : Int)) (hj : j = ((pre.length + m.length : Nat) : Int)) : cutS (TX (pre ++ (m ++ r))) (some i) (some j) = TX m := by
  subst hi hj
  unfold cutS
  rw [TX_len, HT.sIx_nat, HT.sIx_nat, TX_tl]
  have e1 : min pre.length (pre ++ (m ++ r)).length = pre.length := by simp
  have e2 : min (pre.length + m.length) (pre ++ (m ++ r)).length = pre.length + m.length := by simp
  rw [e1, e2]
  refine congrArg TX ?_
  rw [List.drop_left, Nat.add_sub_cancel_left, List.take_left]

/-! ### rows -/
def rws : List Nat → List Nat → List (List Nat)
  | acc, [] => [acc]
  | acc, c :: r => if c = 10 then acc :: rws [] r else rws (acc ++ [c]) r
theorem spl_rws : ∀ (l acc : List Nat), TL.spl [10] 0 acc l = rws acc l
  | [], acc => by rw [TL.spl_nil]; rfl
  | c :: r, acc => by
    unfold rws
    by_cases h : c = 10
    · subst h
      rw [if_pos rfl, TL.spl_hit (by rfl)]
      exact congrArg (acc :: ·) (spl_rws r [])
    · rw [if_neg h, TL.spl_miss (by
        show TL.pre [10] (c :: r) = false
        unfold TL.pre
        simp [h])]
      exact spl_rws r _
theorem rws_ne : ∀ (l acc : List Nat), rws acc l ≠ []
  | [], acc => by unfold rws; simp
  | c :: r, acc => by
    unfold rws
    split
    · simp
    · exact rws_ne r _
def lnOf (l : List Nat) : Nat := (rws [] l).length
def clOf (l : List Nat) : Nat := ((rws [] l).getLast (rws_ne _ _)).length
theorem rws_plain : ∀ (l acc m : List Nat), 10 ∉ m → ∃ fr la, rws acc l = fr ++ [la] ∧ rws acc (l ++ m) = fr ++ [la ++ m]
  | [], acc, m, h => by
    refine ⟨[], acc, rfl, ?_⟩
    show rws acc m = [acc ++ m]
    induction m generalizing acc with
    | nil => rw [List.append_nil]; rfl
    | cons c m ih =>
      have hc : c ≠ 10 := fun e => h (by rw [e]; exact List.mem_cons_self)
      unfold rws
      rw [if_neg hc, ih _ fun e => h (List.mem_cons_of_mem _ e), List.append_assoc]
      rfl
  | c :: r, acc, m, h => by
    rw [List.cons_append]
    unfold rws
    by_cases hc : c = 10
    · rw [if_pos hc, if_pos hc]
      obtain ⟨fr, la, e1, e2⟩ := rws_plain r [] m h
      exact ⟨acc :: fr, la, by rw [e1]; rfl, by rw [e2]; rfl⟩
    · rw [if_neg hc, if_neg hc]
      exact rws_plain r _ m h
theorem rws_nl : ∀ (l acc : List Nat), rws acc (l ++ [10]) = rws acc l ++ [[]]
  | [], acc => by
    show rws acc [10] = [acc] ++ [[]]
    unfold rws
    rw [if_pos rfl]
    rfl
  | c :: r, acc => by
    rw [List.cons_append]
    unfold rws
    split
    · rw [rws_nl r []]; rfl
    · exact rws_nl r _
theorem getLast_of {α : Type} {l fr : List α} {la : α} (h : l ≠ []) (e : l = fr ++ [la]) : l.getLast h = la := by
  subst e
  simp
theorem ln_plain (l m : List Nat) (h : 10 ∉ m) : lnOf (l ++ m) = lnOf l := by
  obtain ⟨fr, la, e1, e2⟩ := rws_plain l [] m h
  unfold lnOf
  rw [e1, e2]
  simp
theorem cl_plain (l m : List Nat) (h : 10 ∉ m) : clOf (l ++ m) = clOf l + m.length := by
  obtain ⟨fr, la, e1, e2⟩ := rws_plain l [] m h
  unfold clOf
  rw [getLast_of _ e1, getLast_of _ e2, List.length_append]
theorem ln_nl (l : List Nat) : lnOf (l ++ [10]) = lnOf l + 1 := by
  unfold lnOf
  rw [rws_nl]
  simp
theorem cl_nl (l : List Nat) : clOf (l ++ [10]) = 0 := by
  unfold clOf
  rw [getLast_of _ (rws_nl l [])]
  rfl
theorem cl_le : ∀ l : List Nat, clOf l ≤ l.length := by
  intro l
  have : ∀ (l acc : List Nat), ((rws acc l).getLast (rws_ne _ _)).length ≤ acc.length + l.length := by
    intro l
    induction l with
    | nil => intro acc; simp [rws]
    | cons c r ih =>
      intro acc
      by_cases hc : c = 10
      · have e : rws acc (c :: r) = acc :: rws [] r := by
          show (if c = 10 then _ else _) = _
          rw [if_pos hc]
        have e2 : (rws acc (c :: r)).getLast (rws_ne _ _) = (rws [] r).getLast (rws_ne _ _) := by
          simp only [e]
          exact List.getLast_cons (rws_ne _ _)
        rw [e2]
        have := ih []
        simp at this ⊢
        omega
      · have e : rws acc (c :: r) = rws (acc ++ [c]) r := by
          show (if c = 10 then _ else _) = _
          rw [if_neg hc]
        have e2 : (rws acc (c :: r)).getLast (rws_ne _ _) = (rws (acc ++ [c]) r).getLast (rws_ne _ _) := by simp only [e]
        rw [e2]
        have := ih (acc ++ [c])
        simp at this ⊢
        omega
  have := this l []
  simpa [clOf] using this
/-- row = source.split("\n"): how many, and the last one's length -/
theorem split_rows (l : List Nat) : Txt.split (TX l) (TX [10]) = (rws [] l).map TX := by
  have := SX.split_S (a := l) (b := [10]) (by simp) (by decide)
  rw [spl_rws] at this
  exact this
theorem rows_last (l : List Nat) : ∃ la : List Nat, atI ((rws [] l).map fun r => V.str (TX r)) (-1) = some (.str (TX la)) ∧ la.length = clOf l := by
  refine ⟨(rws [] l).getLast (rws_ne _ _), ?_, rfl⟩
  have hp : 0 < (rws [] l).length := List.length_pos_iff.mpr (rws_ne _ _)
  unfold atI ixN
  rw [if_neg (by decide), if_pos (by rw [List.length_map]; omega)]
  show ((rws [] l).map fun r => V.str (TX r))[_]? = _
  have e : (-1 + (((rws [] l).map fun r => V.str (TX r)).length : Int)).toNat = (rws [] l).length - 1 := by rw [List.length_map]; omega
  rw [e, List.getElem?_map, List.getElem?_eq_getElem (by omega), List.getLast_eq_getElem]
  rfl

/-! ### signs -/
def isLet (c : Nat) : Bool := (decide (97 ≤ c) && decide (c ≤ 122)) || (decide (65 ≤ c) && decide (c ≤ 90))
def isDig (c : Nat) : Bool := decide (48 ≤ c) && decide (c ≤ 57)
def isWs (c : Nat) : Bool := isLet c || isDig c || decide (c = 95)
end VL

set_option Elab.async false
set_option linter.all false
set_option maxRecDepth 100000
set_option maxHeartbeats 4000000
namespace VL
open PySem PySem.Spec PyProof.Rows L2

/-! ### defs whose first deed is s.replace(..) of written texts: a parameter's token is out -/
section
variable {P : Program} {w : World} {K : PySem.W.Frag} {mg : Str → Option Value} {base : Heap}
theorem cal_ofT {x : Str} {st : Stmt} {ps N : List Str} {k : Nat} {sp : Sp} (D : DefE K mg x st ps) (S : FnScope N ps (defScope st)) (hnc : ∀ y ∈ (defScope st).names, y.2 ≠ .cell) (hps : 1 ≤ ps.length) (len : ∀ vs H Q E, sp vs H Q E → vs.length = ps.length)
    (hbody : ∀ (f : Addr) (cdv : Value) (A : Around) (outer : List Env) (s : Shared) (H : Hp) (vs : List V) (Q : VK) (E : XK), Room k (A.deeper (envOfC x (defScope st) s.heap.objs.size f cdv)) → sp vs H Q E →
      ∃ t, PSsT (cxOf CX0 P w K mg base N x (defScope st) f cdv A outer s H E) (defBody st) t ∧ t { nx := fun _ H' => Q .non H', rt := Q } (start N vs) H) : Cal P w K mg base (k + 1) x sp := by
  obtain ⟨f, fd, F, hm, b⟩ := D
  have kp := F.kp
  obtain ⟨oc, od, kV, doc, pm, an, cdv, ct, osl, rfl, lk, hcd⟩ := F.ex
  exact ⟨f, _, ps, fn_ofT lk hcd S hnc hps len (fun A outer s H vs Q E hr h => hbody f cdv A outer s H vs Q E hr h), hm, kp, b⟩
end
/-- x = e, e with s.replace(..) in it -/
theorem pst_set {X : Cx} {i : Nat} {x : Str} {e : Expr} {te : TE} {pos' pos : Pos} (hN : X.N.Nodup) (hi : X.N[i]? = some x) (hx : Loc X.env.scope x) (he : PET X e te)
    (hs : swapsWith e (some (.Name x pos')) pos.line X.env = pure false := by rfl) (hf : X.fn x = true ∨ X.env.scope.names.lookup x = some .local := by first | exact .inl rfl | exact .inr rfl | assumption) :
    PST X (.Assign [.Name x pos'] e pos) (tAsg te (gName i)) := by
  intro pins s σ H D h0 I h
  refine wpAny_Assign_Name (thn (he pins s σ H _ h0 I h) fun v s1 z => ?_) hs
  obtain ⟨y, H1, I1, r1, q1⟩ := z
  exact store_ok I1 hN hi hx r1 (fun s2 I2 => ⟨_, H1, I2, q1⟩) hf
/-- an f-string, its reading by name (for comprehensions) -/
def tJoined (ts : List TE) : TE := fun σ H Q => tJs ts Str.empty σ H fun out H1 => Q (.str out) H1
theorem pe_joinedT {X : Cx} {v1 v2 : Expr} {rest : List Expr} {ts : List TE} {pos : Pos} (h : PJ X (v1 :: v2 :: rest) ts) : PE X (.JoinedStr (v1 :: v2 :: rest) pos) (tJoined ts) := pe_joined h
/-- each sign c of a text becomes z -/
def rep1 (c : Nat) (z l : List Nat) : List Nat := l.flatMap fun d => if d = c then z else [d]
theorem replL_one (c : Nat) (z : List Nat) : ∀ l : List Nat, StrLaws.replL [c] z l = rep1 c z l
  | [] => by rw [StrLaws.replL_nil]; rfl
  | d :: l => by
    by_cases h : d = c
    · subst h
      rw [StrLaws.replL_hit (by simp) (by simp)]
      show z ++ StrLaws.replL [d] z l = _
      rw [replL_one d z l]
      simp [rep1]
    · rw [StrLaws.replL_miss (by simpa using h), replL_one c z l]
      simp [rep1, h]
theorem replace_TX {l z : List Nat} {c : Nat} : Txt.replace (TX l) (TX [c]) (TX z) = TX (rep1 c z l) := by
  have h := StrLaws.replace_list (x := TX l) (y := TX [c]) (z := TX z) (by rw [TX_len]; exact Nat.le_refl _)
  rw [TX_tl, TX_tl, TX_tl, replL_one] at h
  calc Txt.replace (TX l) (TX [c]) (TX z) = TX (Txt.replace (TX l) (TX [c]) (TX z)).cps.toList := by simp
    _ = _ := by rw [h]
theorem join_TX : ∀ ls : List (List Nat), Txt.join (TX []) (ls.map TX) = TX ls.flatten := by
  intro ls
  rw [TL.join_eq]
  induction ls with
  | nil => rfl
  | cons a r ih =>
    cases r with
    | nil =>
      show TX a = _
      simp
    | cons b r =>
      show TX a ++ TX [] ++ Str.join (TX []) ((b :: r).map TX) = _
      rw [ih, TX_cat, TX_cat]
      simp
theorem sum_TX (ls : List (List Nat)) : ((ls.map TX).map (·.length)).sum = ls.flatten.length := by
  induction ls with
  | nil => rfl
  | cons a r ih => simp only [List.map_cons, List.sum_cons, List.flatten_cons, List.length_append, ih, TX_len]
end VL

set_option Elab.async false
set_option linter.all false
set_option maxRecDepth 100000
set_option maxHeartbeats 4000000
namespace VL
open PySem PySem.Spec PyProof.Rows L2

/-! ### a def that is called where nothing is being shown: the law's own; repr of nested data there -/
structure FnG (P : Program) (w : World) (K : PySem.W.Frag) (mg : Str → Option Value) (base : Heap) (k : Nat) (f : Addr) (fd : FuncData) (ps : List Str) (sp : Sp) : Prop where
  run : ∀ (A : Around) (outer : List Env) (s : Shared) (H : Hp) (args : Args) (us : List Value) (vs : List V) (Q : VK) (E : XK), A.guards = some [] → Room k A → Env0 P w K mg base A outer s H → BindsTo s fd args (ps.zip us) → Vals vs us → sp vs H Q E →
    codeAny (model P w) A (.call (.ref f) args) (CR CX0 outer P w H s Q E) s
theorem fnG_of {P : Program} {w : World} {K : PySem.W.Frag} {mg : Str → Option Value} {base : Heap} {x qual : Str} {st : Stmt} {f : Addr} {fd : FuncData} {N ps : List Str} {k : Nat} {sp : Sp} (F : Fun K x qual st f fd) (S : FnScope N ps (defScope st)) (len : ∀ vs H Q E, sp vs H Q E → vs.length = ps.length)
    (hb0 : ∀ (cdv : Value) (A : Around) (outer : List Env) (s : Shared) (H : Hp) (vs : List V) (Q : VK) (E : XK), A.guards = some [] → Room k (A.deeper (envOfC qual (defScope st) s.heap.objs.size f cdv)) → sp vs H Q E →
      ∃ t, PSs (cxOf CX0 P w K mg base N qual (defScope st) f cdv A outer s H E).nox (defBody st) t ∧ t { nx := fun _ H' => Q .non H', rt := Q } (start N vs) H) : FnG P w K mg base (k + 1) f fd ps sp := by
  obtain ⟨oc, od, kV, doc, pm, an, cdv, ct, osl, rfl, lk, hcd⟩ := F.ex
  refine ⟨fun A outer s H args us vs Q E gd hr en hb rv hsp => ?_⟩
  have hlen := len _ _ _ _ hsp
  have kin : K.In s.heap := en.mod.kin.keeps fun b o e => (en.bs b o e).1
  have nl : s.heap.NoLimit := en.mod.nolimit.keeps fun b o e => (en.bs b o e).1
  have kinds : ∀ y ∈ ps.zip us, (defScope st).names.lookup y.1 = some .local ∨ ((defScope st).names.lookup y.1 = some .cell ∧ ((cellsFrom (s.heap.objs.size + 1) (defScope st).names []).lookup y.1).isSome = true) := fun ⟨n, v⟩ hy => by
    rcases S.par n (List.of_mem_zip hy).1 with c | c
    · exact .inl c
    · exact .inr ⟨c, PySem.W.cellsFrom_some _ _ _ (.inl c)⟩
  refine codeAny_call_function hr.depth (kin _ _ lk) rfl S.co S.gen rfl (PySem.W.codeRec_of kin hcd) (hb _ _ _ _ ?_)
  refine wpAny_newFunctionEnv_cells S.kind kinds fun env he s1 ic => ?_
  subst he
  refine ⟨nl.keeps ic.toInCall.keep, codeAny_func ?_⟩
  obtain ⟨t, hd, hq⟩ := hb0 cdv A outer s H vs Q E gd (hr.deeper _) hsp
  have J0 : Inv (cxOf CX0 P w K mg base N qual (defScope st) f cdv A outer s H E) [] (start N vs) H s1 := inv_start S hr.hd en hlen rv ic
  refine wpAny_mono (hd.nox.run [] s1 (start N vs) H _ J0 hq) (fun fl s2 hs => ?_) fun e s2 hs => hs
  have done : ∀ {σ2 : L2.St} {H2 : Hp} {v : V} {u : Value}, Inv (cxOf CX0 P w K mg base N qual (defScope st) f cdv A outer s H E) [] σ2 H2 s2 → RelV v u → Q v H2 → CE outer P w H s Q u s2 :=
    fun {σ2 H2 v u} J rw q => ⟨v, H2, J.os, J.bare, J.base, J.hok, rw, q⟩
  cases fl with
  | ret u =>
    obtain ⟨v, σ2, H2, J, rw, q⟩ := hs
    exact done J rw q
  | next =>
    obtain ⟨σ2, H2, J, q⟩ := hs
    exact done (v := V.non) (u := Value.none) J rfl q
  | brk => exact hs.elim fun _ z => z.elim fun _ z => z.2.elim
  | cont => exact hs.elim fun _ z => z.elim fun _ z => z.2.elim
/-- the law's call, where nothing is being shown -/
theorem law_callG {P : Program} {w : World} {K : PySem.W.Frag} {mg mb : Str → Option Value} {k : Nat} {fa a : Addr} {fd : FuncData} {x : Str} {sp : Sp} {s₁ : Shared} {vs : List Value} {ns : List Int}
    (kin : K.In s₁.heap) (ng : s₁.heap.Ns mainGlobals mg) (nb : s₁.heap.Ns builtinsNs mb) (bb : ∀ x : Str, x ≠ "__name__" → mb x = bootBuiltins x) (nl : s₁.heap.NoLimit) (hgen : s₁.gens = #[])
    (ea : s₁.heap.get? a = some { cls := .type "list", data := .seq vs.toArray }) (hi : IntsAre vs ns) (hz : ns.length ≤ sizeLine) (hr : Room k callerA)
    (F : ∀ base : Heap, K.In base → base.Ns mainGlobals mg → FnG P w K mg base k fa fd [x] sp) (hbind : ∀ (s : Shared) (u : Value), BindsTo s fd ⟨[u], []⟩ [(x, u)])
    (hsp : ∀ H : Hp, Only H → SqL K H a (ns.map V.int) → sp [.ref a] H (fun v _ => v = .bl true) fun _ _ _ => False) :
    codeAny (model P w) callerA (.call (.ref fa) ⟨[.ref a], []⟩) (fun r s2 => r = .ok (.ret (.bool true)) ∧ OldK s₁.heap s2.heap ∧ s2.os = s₁.os ∧ AllBare s2.gens) s₁ := by
  have rel := vals_ints hi
  have lv := hi.length
  have go : ∀ H : Hp, Only H → SqL K H a (ns.map V.int) → HOk P w H s₁.heap → (∀ b, H b ≠ none → b = a) → (H a ≠ none → K.lookup a = none) →
      codeAny (model P w) callerA (.call (.ref fa) ⟨[.ref a], []⟩) (fun r s2 => r = .ok (.ret (.bool true)) ∧ OldK s₁.heap s2.heap ∧ s2.os = s₁.os ∧ AllBare s2.gens) s₁ := by
    intro H ho hq ok only out
    have low : ∀ {b : Addr} {o : Obj}, s₁.heap.get? b = some o → H b = none → (hidT s₁.heap H).get? b = some o := fun e n => hidT_get e n
    have nod : ∀ {b : Addr} {o : Obj} {es : Array DictEntry} {ep : Nat}, s₁.heap.get? b = some o → o.data = .dict es ep → H b = none := fun {b o es ep} e d => by
      cases c : H b with
      | none => rfl
      | some u =>
        obtain rfl : b = a := only b (by rw [c]; simp)
        rw [ea] at e
        cases e
        exact nomatch (show Data.seq vs.toArray _ = Data.dict es ep from d)
    have nsl : ∀ {b : Addr} {m : Str → Option Value}, s₁.heap.Ns b m → (hidT s₁.heap H).Ns b m := fun {b m} ⟨o, es, ep, e, d, r⟩ => ⟨o, es, ep, low e (nod e d), d, r⟩
    have kl : K.In (hidT s₁.heap H) := fun b o e => low (kin b o e) (by
      cases c : H b with
      | none => rfl
      | some u =>
        obtain rfl : b = a := only b (by rw [c]; simp)
        rw [out (by rw [c]; simp)] at e
        exact nomatch e)
    have md : Mod K mg (hidT s₁.heap H) := ⟨kl, nsl ng, ⟨mb, nsl nb, bb⟩, let ⟨mc, h1, h2⟩ := nl; ⟨mc, nsl h1, h2⟩⟩
    have en : Env0 P w K mg (hidT s₁.heap H) callerA [] s₁ H := ⟨rfl, md, fun b o e => of_hidT e, Nat.le_of_eq (hidT_size _ _), trivial, fun b hb => absurd (show b ∈ ([] : List Addr) from hb) (by simp), ok, .of_eq hgen⟩
    refine codeAny_mono ((F _ kl (nsl ng)).run callerA [] s₁ H ⟨[.ref a], []⟩ [.ref a] [.ref a] _ _ rfl hr en (hbind s₁ (.ref a)) (.cons rfl .nil) (hsp H ho hq)) fun r s2 h => ?_
    cases r with
    | error e => exact False.elim h
    | ok fl =>
      cases fl with
      | next => exact h.elim
      | brk => exact h.elim
      | cont => exact h.elim
      | ret u =>
        obtain ⟨v, H2, os, bare, un, ok2, r2, q⟩ := h
        obtain rfl : v = .bl true := q
        obtain rfl : u = Value.bool true := r2
        refine ⟨rfl, OldK.of_keep fun b o e => ?_, os, bare⟩
        cases c : H b with
        | none => exact un.keep b o e c (by intro z; exact absurd (show b ∈ ([] : List Addr) from z) (by simp)) (by simp)
        | some u =>
          rcases ho b with z | ⟨ob, xs, z⟩
          · exact nomatch c.symm.trans z
          · obtain ⟨e1, _⟩ := ok b _ z
            obtain ⟨e2, _⟩ := ok2 b _ (un.frzs b ob _ z)
            rw [e] at e1
            cases e1
            exact e2
  cases hk : K.lookup a with
  | some o =>
    have e := kin a o hk
    rw [ea] at e
    cases e
    exact go (fun _ => none) (fun _ => .inl rfl) (.inr ⟨_, vs.toArray, _, hk, rfl, rfl, rfl, by rw [List.size_toArray, lv]; exact hz, by simpa using rel⟩) (fun b u z => nomatch (show (none : Option HO) = some u from z)) (fun b z => absurd rfl z) fun z => absurd rfl z
  | none =>
    refine go (fun b => if b = a then some (.frz { cls := .type "list", data := .seq vs.toArray } (.lst (ns.map V.int))) else none) (fun b => ?_) (.inl (.inr ⟨{ cls := .type "list", data := .seq vs.toArray }, if_pos rfl⟩)) (fun b u z => ?_) (fun b z => ?_) fun _ => hk
    · by_cases hb : b = a
      · exact Or.inr ⟨_, _, if_pos hb⟩
      · exact Or.inl (if_neg hb)
    · by_cases hb : b = a
      · cases (if_pos hb).symm.trans z
        subst hb
        exact ⟨ea, by rw [List.length_map]; exact hz, vs, _, rel, ea⟩
      · exact nomatch (if_neg hb).symm.trans z
    · by_cases hb : b = a
      · exact hb
      · exact absurd (if_neg hb) z
theorem walk_ofG {l : PySem.W.OpenLaw} {n k : Nat} {q : Program} {loose : List Str} {XP : (Str → Option Value) → Heap → Prop} {YP : World → Heap → Prop} {d : DefRec} {K : Params → PySem.W.Frag} {sp : World → Sp} {x : Str}
    (hn : l.most = some n) (hn2 : n ≤ sizeLine) (hdf : d.params.defaults = []) (hr : Room k callerA) (hY : ∀ (w : World) (h : Heap), YP w h → (K w.params).In h)
    (F : ∀ (w : World) (mg : Str → Option Value) (fa : Addr) (h : Heap), (K w.params).In h → h.Ns mainGlobals mg → mg d.name = some (.ref fa) →
      ∃ fd : FuncData, (∀ (s : Shared) (u : Value), BindsTo s fd ⟨[u], []⟩ [(x, u)]) ∧ ∀ base : Heap, (K w.params).In base → base.Ns mainGlobals mg → FnG l.prog w (K w.params) mg base k fa fd [x] (sp w))
    (hsp : ∀ (w : World) (H : Hp) (a : Addr) (ns : List Int), ns.length ≤ n → Only H → SqL (K w.params) H a (ns.map V.int) → sp w [.ref a] H (fun v _ => v = .bl true) fun _ _ _ => False) :
    PySem.W.WalkO q loose XP YP l.row.toRowW d [] (fun f vs => PySem.call f vs) := by
  refine Att.attach_call hn hdf fun w s₀ s₁ mg mb fa o pm cd doc a vs ns G Y ho hd hcd hmg hobj hints hlen hgen => ?_
  have kin := hY w _ Y
  obtain ⟨fd, hb, hF⟩ := F w mg fa _ kin G.T.g hmg
  exact law_callG kin G.T.g G.T.b G.T.builtins G.T.nolimit hgen hobj hints (Nat.le_trans hlen hn2) hr hF hb fun H ho hq => hsp w H a ns hlen ho hq
end VL

set_option Elab.async false
set_option linter.all false
set_option maxRecDepth 100000
set_option maxHeartbeats 4000000
namespace VL
open PySem PySem.Spec PyProof.Rows L2 PyProof.V

/-! ### repr of a dict of nested data, where nothing is being shown -/
def enK : Key → PyData
  | .inl i => .int i
  | .inr x => .str x
def zipK : List (Key × V) → List PyData → List (PyData × PyData)
  | p :: ks, d :: ds => (enK p.1, d) :: zipK ks ds
  | _, _ => []
theorem zipK_vals : ∀ {ks : List (Key × V)} {ds : List PyData}, ks.length = ds.length → (zipK ks ds).map (·.2) = ds
  | [], [], _ => rfl
  | p :: ks, d :: ds, h => by
    show d :: (zipK ks ds).map (·.2) = d :: ds
    rw [zipK_vals (Nat.succ.inj h)]
theorem dpAll_len {K : PySem.W.Frag} {H : Hp} : ∀ {vs : List V} {ds : List PyData}, DpAll K H vs ds → vs.length = ds.length
  | _, _, .nil => rfl
  | _, _, .cons _ h => by simp [dpAll_len h]
section
variable {X : Cx} {pins : List (Addr × Obj)} {σ : L2.St} {H : Hp} {s : Shared}
theorem enK_reads {h : Heap} {P : Program} {w : World} (k : Key) (key : Value) (e : (mixKind P w).is k key = true) : Reads h key (enK k) [] := by
  rcases keyIs_shape (show keyIs k key = true from e) with ⟨i, t, rfl, rfl⟩ | ⟨x, t, rfl, rfl⟩
  · exact Reads.int i t
  · exact Reads.str x t
theorem pairs_read (I : Inv X pins σ H s) : ∀ {ks : List (Key × V)} {vs : List (Key × Value)} {ds : List PyData}, KV ks vs → DpAll X.K H (ks.map (·.2)) ds → ∃ bs, PairsRead s.heap enK vs (zipK ks ds) bs
  | [], _, _, r, h => by
    cases r
    exact ⟨[], by unfold zipK; exact .nil⟩
  | p :: ks, _, _, r, h => by
    cases r with
    | @cons _ q _ qs h1 h2 =>
      cases h with
      | @cons _ _ d ds g1 g2 =>
        obtain ⟨k, v⟩ := q
        obtain ⟨kp, vp⟩ := p
        obtain ⟨rfl, rv⟩ := h1
        obtain ⟨as, r1⟩ := Dp.reads I d _ _ g1 rv
        obtain ⟨bs, r2⟩ := pairs_read I h2 g2
        exact ⟨as ++ bs, .cons r1 r2⟩
def rRepD (K : PySem.W.Frag) : List V → Hp → VK → Prop := fun xs H Q => ∃ (a : Addr) (ks : List (Key × V)) (ds : List PyData), xs = [.ref a] ∧ H a = some (.dK ks) ∧ DpAll K H (ks.map (·.2)) ds ∧ PyData.showableKv (zipK ks ds) = true ∧ PyData.hasDictAll ds = false ∧
  PyData.depthKv (zipK ks ds) ≤ 40 ∧ (dictText (PyData.shownKv (zipK ks ds))).length ≤ sizeLine ∧ Q (.str (dictText (PyData.shownKv (zipK ks ds)))) H
theorem call_repD (gd : X.A.guards = some []) (hu : X.A.units + 64 < cLine) : CallR X (.builtin "repr") (rRepD X.K) := by
  intro pins s σ H xs us Q I r h
  obtain ⟨a, ks, ds, rfl, ha, hd, sh, nd, dep, len, q⟩ := h
  obtain ⟨u, rfl, ru⟩ := vals1 r
  cases (show u = Value.ref a from ru)
  obtain ⟨_, hsys, vs, rk, dic⟩ := (show ObjOk X.prog X.w H s.heap a (.dK ks) from I.hok a _ ha)
  obtain ⟨bs, pr⟩ := pairs_read I rk hd
  have rd := reads_dictOf (fun k key e => enK_reads k key e) dic pr
  obtain ⟨o, es, ep, ho, hx, hdat, _, hp, _⟩ := dic
  obtain ⟨rk1, rk2⟩ := readsAll_of_pairs (fun k key e => enK_reads k key e) hp pr
  obtain ⟨sh1, sh2⟩ := PyData.showableKv_split _ sh
  have vv : (zipK ks ds).map (·.2) = ds := zipK_vals (by have := dpAll_len hd; rw [List.length_map] at this; exact this)
  obtain ⟨b1, hb1, k1⟩ := ReprAllK.of_readsAll (prog := X.prog) (w := X.w) rk1 sh1 (fun _ z => nomatch z) (fun t ht => let ⟨p, hp, hl⟩ := PyData.shownKv_key_le _ t ht; Nat.le_trans hl (Nat.le_trans (dictText_mem_le hp) len))
  obtain ⟨b2, hb2, k2⟩ := ReprAllK.of_readsAll (prog := X.prog) (w := X.w) rk2 sh2 (fun z => by rw [vv, nd] at z; exact nomatch z) (fun t ht => let ⟨p, hp, hl⟩ := PyData.shownKv_val_le _ t ht; Nat.le_trans hl (Nat.le_trans (dictText_mem_le hp) len))
  have rm : ReadAtMost s.heap (PyData.depthKv (zipK ks ds)) (b1 ++ b2) := (hb1.mono (PyData.depthAll_keys_le _)).append (hb2.mono (PyData.depthAll_vals_le _))
  have na : a ∉ b1 ++ b2 := not_mem_of_deeper rd (by simp only [PyData.depth]; omega) rm
  have EK := ReprEntriesK.of_two es.toList _ _ (k1.more_le (fun b z => List.mem_append_left b2 z) (PyData.depthAll_keys_le (zipK ks ds))) (k2.more_le (fun b z => List.mem_append_right b1 z) (PyData.depthAll_vals_le (zipK ks ds)))
  rw [← PyData.shownKv_eq] at EK
  refine call_repr_slot (T := "dict") (idr := "dict.__repr__") (by omega) ⟨o, ho, hx.1⟩ F.slot_dict_repr (call_dict_reprK (h₀ := s.heap) ho hx.1 hdat hsys na EK gd (fun b _ => Clear.nil b) (by show X.A.units + 1 + (PyData.depthKv (zipK ks ds) + 1) < cLine; omega) (fun _ _ e => e) (fun h2 u tk hk => ?_) len)
  exact ⟨_, _, rfl, .str _, H, I.kept hk, ⟨u, rfl⟩, q⟩
end
theorem strApp (x y : Str) : (x ++ y).length = x.length + y.length := strLen_append x y
theorem textFrom_le : ∀ (ts : List Str) (k : Nat) (acc : Str), (textFrom k acc ts).length ≤ acc.length + piled ts
  | [], k, acc => by show acc.length ≤ _; omega
  | t :: ts, k, acc => by
    have ih := textFrom_le ts (k + 1) (acc ++ (if k > 0 then ", " else "" : String) ++ t)
    have e : (acc ++ (if k > 0 then ", " else "" : String) ++ t).length ≤ acc.length + 2 + t.length := by
      rw [strApp, strApp]
      split
      · exact Nat.le_of_eq rfl
      · show acc.length + 0 + t.length ≤ _
        omega
    show (textFrom (k + 1) (acc ++ (if k > 0 then ", " else "" : String) ++ t) ts).length ≤ _
    have : piled (t :: ts) = t.length + 2 + piled ts := by simp [piled]
    omega
theorem listText_le (ts : List Str) : (listText ts).length ≤ 2 + piled ts := by
  have := textFrom_le ts 0 "["
  have e1 : (("[" : String) : Str).length = 1 := rfl
  have e2 : (("]" : String) : Str).length = 1 := rfl
  unfold listText
  rw [strApp, e2]
  omega
theorem dictText_le (ts : List Str) : (dictText ts).length ≤ 2 + piled ts := by
  have e1 : (("{" : String) : Str).length = 1 := rfl
  have e2 : (("}" : String) : Str).length = 1 := rfl
  unfold dictText
  rw [strApp, strApp, e1, e2]
  by_cases h : ts = []
  · subst h
    show 1 + 0 + 1 ≤ _
    omega
  · have := join_length_add ts h
    omega
theorem piled_le {c : Nat} : ∀ {ts : List Str}, (∀ t ∈ ts, t.length ≤ c) → piled ts ≤ ts.length * (c + 2)
  | [], _ => by simp [piled]
  | t :: ts, h => by
    have ih := piled_le (ts := ts) fun x hx => h x (List.mem_cons_of_mem _ hx)
    have := h t List.mem_cons_self
    have e : piled (t :: ts) = t.length + 2 + piled ts := by simp [piled]
    have e2 : (t :: ts).length * (c + 2) = ts.length * (c + 2) + (c + 2) := by rw [List.length_cons, Nat.succ_mul]
    omega
end VL

set_option Elab.async false
set_option linter.all false
set_option maxRecDepth 100000
set_option maxHeartbeats 4000000
namespace VL
open PySem PySem.Spec PyProof.Rows L2 PyProof.V

/-! ### nested data with dicts: what stands there; repr of it, where nothing is being shown -/
mutual
inductive Dq (H : Hp) : V → PyData → Prop
  | non : Dq H .non .none
  | bl (b : Bool) : Dq H (.bl b) (.bool b)
  | int (i : Int) : Dq H (.int i) (.int i)
  | str (x : Str) : Dq H (.str x) (.str x)
  | lst {a : Addr} {xs : List V} {ds : List PyData} : H a = some (.lst xs) → DqAll H xs ds → Dq H (.ref a) (.list ds)
  | tup {a : Addr} {xs : List V} {ds : List PyData} : H a = some (.tup xs) → DqAll H xs ds → Dq H (.ref a) (.tuple ds)
  | dic {a : Addr} {ks : List (Key × V)} {ds : List PyData} : H a = some (.dK ks) → (ks.map (·.1)).Nodup → DqAll H (ks.map (·.2)) ds → Dq H (.ref a) (.dict (zipK ks ds))
inductive DqAll (H : Hp) : List V → List PyData → Prop
  | nil : DqAll H [] []
  | cons {v : V} {vs : List V} {d : PyData} {ds : List PyData} : Dq H v d → DqAll H vs ds → DqAll H (v :: vs) (d :: ds)
end
theorem DqAll.len {H : Hp} : ∀ {vs : List V} {ds : List PyData}, DqAll H vs ds → vs.length = ds.length
  | _, _, .nil => rfl
  | _, _, .cons _ h => by simp [DqAll.len h]
theorem DqAll.of_each {H : Hp} {P : V → PyData → Prop} : ∀ {vs : List V} {ds : List PyData}, DqAll H vs ds → (∀ v d, Dq H v d → P v d) → Paired P vs ds
  | _, _, .nil, _ => .nil
  | _, _, .cons a b, f => .cons (f _ _ a) (DqAll.of_each b f)
theorem DqAll.paired {H : Hp} : ∀ {vs : List V} {ds : List PyData}, DqAll H vs ds → Paired (Dq H) vs ds
  | _, _, .nil => .nil
  | _, _, .cons a b => .cons a (DqAll.paired b)
theorem DqAll.of_paired {H : Hp} : ∀ {vs : List V} {ds : List PyData}, Paired (Dq H) vs ds → DqAll H vs ds
  | _, _, .nil => .nil
  | _, _, .cons a b => .cons a (DqAll.of_paired b)
theorem dKv_le : ∀ (ks : List (Key × V)) (ds : List PyData), ks.length = ds.length → PyData.depthAll ds ≤ PyData.depthKv (zipK ks ds)
  | [], [], _ => Nat.le_refl _
  | p :: ks, d :: ds, h => by
    have ih := dKv_le ks ds (Nat.succ.inj h)
    show max (PyData.depth d) (PyData.depthAll ds) ≤ max (max (PyData.depth (enK p.1)) (PyData.depth d)) (PyData.depthKv (zipK ks ds))
    omega
theorem dq_mono_n {H H' : Hp} (s : Same H H') : ∀ (n : Nat) (d : PyData) (v : V), PyData.depth d ≤ n → Dq H v d → Dq H' v d := by
  intro n
  induction n with
  | zero =>
    intro d v hn h
    cases h with
    | non => exact .non
    | bl b => exact .bl b
    | int i => exact .int i
    | str x => exact .str x
    | lst _ _ => exact absurd hn (by simp [PyData.depth])
    | tup _ _ => exact absurd hn (by simp [PyData.depth])
    | dic _ _ _ => exact absurd hn (by simp [PyData.depth])
  | succ n ih =>
    have all : ∀ {vs : List V} {ds : List PyData}, DqAll H vs ds → PyData.depthAll ds ≤ n → DqAll H' vs ds := by
      intro vs
      induction vs with
      | nil => intro ds h _; cases h; exact .nil
      | cons v vs iv =>
        intro ds h hd
        cases h with
        | @cons _ _ d ds a b =>
          have hd' : max (PyData.depth d) (PyData.depthAll ds) ≤ n := hd
          exact .cons (ih d v (by omega) a) (iv b (by omega))
    intro d v hn h
    cases h with
    | non => exact .non
    | bl b => exact .bl b
    | int i => exact .int i
    | str x => exact .str x
    | lst h1 h2 => exact .lst (s _ _ h1) (all h2 (by simp only [PyData.depth] at hn; omega))
    | tup h1 h2 => exact .tup (s _ _ h1) (all h2 (by simp only [PyData.depth] at hn; omega))
    | @dic a ks ds h1 nd h2 =>
      have := dKv_le ks ds (by have := h2.len; rwa [List.length_map] at this)
      exact .dic (s _ _ h1) nd (all h2 (by simp only [PyData.depth] at hn; omega))
theorem Dq.same {H H' : Hp} {v : V} {d : PyData} (h : Dq H v d) (s : Same H H') : Dq H' v d := dq_mono_n s _ d v (Nat.le_refl _) h
theorem DqAll.same {H H' : Hp} (s : Same H H') : ∀ {vs : List V} {ds : List PyData}, DqAll H vs ds → DqAll H' vs ds
  | _, _, .nil => .nil
  | _, _, .cons a b => .cons (a.same s) (DqAll.same s b)
section
variable {X : Cx} {pins : List (Addr × Obj)} {σ : L2.St} {H : Hp} {s : Shared}
/-- what repr asks of a value that reads as d -/
def RpOk (X : Cx) (s : Shared) (u : Value) (d : PyData) : Prop := ∃ as bs, Reads s.heap u d as ∧ ReadAtMost s.heap (PyData.depth d) bs ∧ ReprK X.prog X.w bs s.heap (PyData.depth d) u (PyData.shown d)
def RpAll (X : Cx) (s : Shared) (us : List Value) (ds : List PyData) : Prop := ∃ as bs, ReadsAll s.heap us ds as ∧ ReadAtMost s.heap (PyData.depthAll ds) bs ∧ ReprAllK X.prog X.w bs s.heap (PyData.depthAll ds) us (PyData.shownAll ds)
theorem rp_all {n : Nat} (ih : ∀ (d : PyData) (v : V) (u : Value), PyData.depth d ≤ n → Dq H v d → RelV v u → PyData.showable d = true → (PyData.shown d).length ≤ sizeLine → RpOk X s u d) :
    ∀ {vs : List V} {us : List Value} {ds : List PyData}, DqAll H vs ds → PyData.depthAll ds ≤ n → Vals vs us → PyData.showableAll ds = true → (∀ t ∈ PyData.shownAll ds, t.length ≤ sizeLine) → RpAll X s us ds
  | [], us, ds, h, _, r, _, _ => by
    cases h
    cases r
    exact ⟨[], [], .nil, (fun _ h => nomatch h), .nil⟩
  | v :: vs, us, ds, h, hd, r, hs, hz => by
    cases h with
    | @cons _ _ d ds a b =>
      cases r with
      | @cons _ u _ us r1 r2 =>
        have hd' : max (PyData.depth d) (PyData.depthAll ds) ≤ n := hd
        have hs' : PyData.showable d = true ∧ PyData.showableAll ds = true := by simpa [PyData.showableAll] using hs
        obtain ⟨as1, bs1, x1, y1, z1⟩ := ih d v u (by omega) a r1 hs'.1 (hz _ (by simp only [PyData.shownAll]; exact List.mem_cons_self))
        obtain ⟨as2, bs2, x2, y2, z2⟩ := rp_all ih b (by omega) r2 hs'.2 (fun t ht => hz t (by simp only [PyData.shownAll]; exact List.mem_cons_of_mem _ ht))
        refine ⟨as1 ++ as2, bs1 ++ bs2, .cons x1 x2, fun b hm => ?_, ?_⟩
        · show ∃ d' as', Reads s.heap (.ref b) d' as' ∧ PyData.depth d' ≤ max (PyData.depth d) (PyData.depthAll ds)
          rcases List.mem_append.mp hm with hm | hm
          · obtain ⟨d', as', r', hd'⟩ := y1 b hm
            exact ⟨d', as', r', by omega⟩
          · obtain ⟨d', as', r', hd'⟩ := y2 b hm
            exact ⟨d', as', r', by omega⟩
        · simp only [PyData.depthAll, PyData.shownAll]
          exact .cons ((z1.more fun b hb => List.mem_append_left bs2 hb).level_le (Nat.le_max_left _ _)) (z2.more_le (fun b hb => List.mem_append_right bs1 hb) (Nat.le_max_right _ _))
theorem pairs_vals {P : Program} {w : World} : ∀ {es : List DictEntry} {kvs : List (Key × Value)}, Pairs (mixKind P w) es kvs → es.map (·.val) = kvs.map (·.2)
  | _, _, .nil => rfl
  | _, _, .cons _ hv hp => by rw [List.map_cons, List.map_cons, hv, pairs_vals hp]
theorem pairs_keys {h : Heap} {P : Program} {w : World} : ∀ {es : List DictEntry} {vs : List (Key × Value)} {ks : List (Key × V)} {ds : List PyData}, Pairs (mixKind P w) es vs → KV ks vs → ks.length = ds.length → ReadsAll h (es.map (·.key)) ((zipK ks ds).map (·.1)) []
  | _, _, [], [], .nil, _, _ => .nil
  | _, _, p :: ks, d :: ds, .cons (kv := q) hk hv hp, r, hl => by
    cases r with
    | cons r1 r2 =>
      have hk' := hk
      rw [← r1.1] at hk'
      exact ReadsAll.cons (enK_reads _ _ hk') (pairs_keys hp r2 (Nat.succ.inj hl))
  | _, _, p :: ks, d :: ds, .nil, r, hl => by cases r
  | _, _, [], [], .cons _ _ _, r, _ => by cases r
  | _, _, [], d :: ds, _, _, hl => nomatch hl
  | _, _, p :: ks, [], _, _, hl => nomatch hl
theorem kv_vals : ∀ {ks : List (Key × V)} {vs : List (Key × Value)}, KV ks vs → Vals (ks.map (·.2)) (vs.map (·.2))
  | _, _, .nil => .nil
  | _, _, .cons r rs => .cons r.2 (kv_vals rs)
theorem dq_rp (I : Inv X pins σ H s) : ∀ (n : Nat) (d : PyData) (v : V) (u : Value), PyData.depth d ≤ n → Dq H v d → RelV v u → PyData.showable d = true → (PyData.shown d).length ≤ sizeLine → RpOk X s u d := by
  intro n
  induction n with
  | zero =>
    intro d v u hn h r hs hz
    cases h with
    | non => cases r; exact ⟨_, [], .none, (fun _ h => nomatch h), by simp only [PyData.shown]; exact .of_is ReprIs.none _ _ _⟩
    | bl b => cases r; exact ⟨_, [], .bool b, (fun _ h => nomatch h), by simp only [PyData.shown]; exact .of_is (ReprIs.bool b) _ _ _⟩
    | int i =>
      obtain ⟨t, rfl⟩ := r
      exact ⟨_, [], .int i t, (fun _ h => nomatch h), by simp only [PyData.shown]; exact .of_is (ReprIs.int t (by simpa [PyData.showable] using hs)) _ _ _⟩
    | str x =>
      obtain ⟨t, rfl⟩ := r
      exact ⟨_, [], .str x t, (fun _ h => nomatch h), by simp only [PyData.shown]; exact .of_is (ReprIs.str x t (by simpa only [PyData.shown] using hz)) _ _ _⟩
    | lst _ _ => exact absurd hn (by simp [PyData.depth])
    | tup _ _ => exact absurd hn (by simp [PyData.depth])
    | dic _ _ _ => exact absurd hn (by simp [PyData.depth])
  | succ n ih =>
    intro d v u hn h r hs hz
    cases h with
    | non => exact ih _ _ _ (Nat.zero_le _) .non r hs hz
    | bl b => exact ih _ _ _ (Nat.zero_le _) (.bl b) r hs hz
    | int i => exact ih _ _ _ (Nat.zero_le _) (.int i) r hs hz
    | str x => exact ih _ _ _ (Nat.zero_le _) (.str x) r hs hz
    | @lst a xs ds h1 h2 =>
      cases (show u = Value.ref a from r)
      obtain ⟨_, its, m, rv, ho⟩ := (show ObjOk X.prog X.w H s.heap a (.lst xs) from I.hok a _ h1)
      have zz : (listText (PyData.shownAll ds)).length ≤ sizeLine := by simpa only [PyData.shown] using hz
      obtain ⟨as, bs, ra, rm, rk⟩ := rp_all ih h2 (by simp only [PyData.depth] at hn; omega) rv (by simpa [PyData.showable] using hs) (fun t ht => Nat.le_trans (listText_mem_le ht) zz)
      have rd : Reads s.heap (.ref a) (.list ds) (a :: as) := .list ho rfl rfl ra
      have na : a ∉ bs := not_mem_of_deeper rd (by simp only [PyData.depth]; omega) rm
      refine ⟨_, a :: bs, rd, ReadAtMost.cons rd (by simp only [PyData.depth]; omega) rm, ?_⟩
      simp only [PyData.depth, PyData.shown]
      cases its with
      | nil =>
        cases ra
        simp only [PyData.shownAll, listText_nil]
        exact ReprK.listEmpty ho rfl rfl
      | cons x l => exact ReprK.list ho rfl rfl na (by simpa using rk.length_eq) (fun i y e => rk.item i y (by simpa using e))
    | @tup a xs ds h1 h2 =>
      cases (show u = Value.ref a from r)
      obtain ⟨_, its, rv, o, ho, oc, m, od⟩ := (show ObjOk X.prog X.w H s.heap a (.tup xs) from I.hok a _ h1)
      have zz : (tupleText (PyData.shownAll ds)).length ≤ sizeLine := by simpa only [PyData.shown] using hz
      obtain ⟨as, bs, ra, rm, rk⟩ := rp_all ih h2 (by simp only [PyData.depth] at hn; omega) rv (by simpa [PyData.showable] using hs) (fun t ht => Nat.le_trans (tupleText_mem_le ht) zz)
      have rd : Reads s.heap (.ref a) (.tuple ds) as := .tuple ho oc od ra
      have na : a ∉ bs := not_mem_of_deeper rd (by simp only [PyData.depth]; omega) rm
      refine ⟨_, a :: bs, rd, ReadAtMost.cons rd (by simp only [PyData.depth]; omega) rm, ?_⟩
      simp only [PyData.depth, PyData.shown]
      exact ReprK.tuple ho oc od na rk
    | @dic a ks ds h1 nd h2 =>
      cases (show u = Value.ref a from r)
      obtain ⟨_, hsys, vs, rkv, dof⟩ := (show ObjOk X.prog X.w H s.heap a (.dK ks) from I.hok a _ h1)
      have kl : ks.length = ds.length := by have := h2.len; rwa [List.length_map] at this
      have zz : (dictText (PyData.shownKv (zipK ks ds))).length ≤ sizeLine := by simpa only [PyData.shown] using hz
      obtain ⟨o, es, ep, ho, hx, hdat, _, hp, _⟩ := dof
      have vv : (zipK ks ds).map (·.2) = ds := zipK_vals kl
      obtain ⟨sh1, sh2⟩ := PyData.showableKv_split _ (show PyData.showableKv (zipK ks ds) = true by simpa [PyData.showable] using hs)
      rw [vv] at sh2
      have rk1 : ReadsAll s.heap (es.toList.map (·.key)) ((zipK ks ds).map (·.1)) [] := pairs_keys hp rkv kl
      have dle := dKv_le ks ds kl
      obtain ⟨as2, b2, ra2, hb2, k2⟩ := rp_all ih h2 (by simp only [PyData.depth] at hn; omega) (kv_vals rkv) sh2 (fun t ht => by
        rw [← vv] at ht
        obtain ⟨p, hp, hl⟩ := PyData.shownKv_val_le _ t ht
        exact Nat.le_trans hl (Nat.le_trans (dictText_mem_le hp) zz))
      obtain ⟨b1, hb1, k1⟩ := ReprAllK.of_readsAll (prog := X.prog) (w := X.w) rk1 sh1 (fun _ z => nomatch z) (fun t ht => let ⟨p, hp, hl⟩ := PyData.shownKv_key_le _ t ht; Nat.le_trans hl (Nat.le_trans (dictText_mem_le hp) zz))
      have ev : es.toList.map (·.val) = vs.map (·.2) := pairs_vals hp
      rw [← ev] at ra2 k2
      have ra2' : ReadsAll s.heap (es.toList.map (·.val)) ((zipK ks ds).map (·.2)) as2 := by rw [vv]; exact ra2
      have rd : Reads s.heap (.ref a) (.dict (zipK ks ds)) (a :: [] ++ as2) := .dict ho hx.1 hdat rk1 ra2'
      have rm : ReadAtMost s.heap (PyData.depthKv (zipK ks ds)) (b1 ++ b2) := (hb1.mono (PyData.depthAll_keys_le _)).append (hb2.mono dle)
      have na : a ∉ b1 ++ b2 := not_mem_of_deeper rd (by simp only [PyData.depth]; omega) rm
      refine ⟨_, a :: (b1 ++ b2), rd, ReadAtMost.cons rd (by simp only [PyData.depth]; omega) rm, ?_⟩
      have EK := ReprEntriesK.of_two es.toList _ _ (k1.more_le (fun b z => List.mem_append_left b2 z) (PyData.depthAll_keys_le (zipK ks ds))) (k2.more_le (fun b z => List.mem_append_right b1 z) dle)
      rw [show PyData.shownAll ds = PyData.shownAll ((zipK ks ds).map (·.2)) by rw [vv], ← PyData.shownKv_eq] at EK
      simp only [PyData.depth, PyData.shown]
      exact ReprK.dict ho hx.1 hdat hsys na EK
theorem rp_list (I : Inv X pins σ H s) {vs : List V} {us : List Value} {ds : List PyData} (h : DqAll H vs ds) (r : Vals vs us) (hs : PyData.showableAll ds = true) (hz : ∀ t ∈ PyData.shownAll ds, t.length ≤ sizeLine) : RpAll X s us ds :=
  rp_all (fun d v u hn => dq_rp I _ d v u hn) h (Nat.le_refl _) r hs hz
def rRepQ : List V → Hp → VK → Prop := fun xs H Q => ∃ (a : Addr) (d : PyData), xs = [.ref a] ∧ Dq H (.ref a) d ∧ PyData.showable d = true ∧ PyData.depth d ≤ 40 ∧ (PyData.shown d).length ≤ sizeLine ∧ Q (.str (PyData.shown d)) H
theorem call_repQ (gd : X.A.guards = some []) (hu : X.A.units + 64 < cLine) : CallR X (.builtin "repr") rRepQ := by
  intro pins s σ H xs us Q I r h
  obtain ⟨a, d, rfl, hd, hs, dep, hz, q⟩ := h
  obtain ⟨u, rfl, ru⟩ := vals1 r
  cases (show u = Value.ref a from ru)
  have fin : ∀ (h' : Heap) (v : Tok) (tk : Nat), (∀ b o, s.heap.get? b = some o → h'.get? b = some o) → EP X pins σ Q (.str (PyData.shown d) v) { s with heap := h', toks := tk } := fun h' v tk hk => ⟨.str _, H, I.kept hk, ⟨v, rfl⟩, q⟩
  cases hd with
  | @lst _ xs ds h1 h2 =>
    obtain ⟨_, its, m, rv, ho⟩ := (show ObjOk X.prog X.w H s.heap a (.lst xs) from I.hok a _ h1)
    have zz : (listText (PyData.shownAll ds)).length ≤ sizeLine := by simpa only [PyData.shown] using hz
    obtain ⟨as, bs, ra, rm, rk⟩ := rp_list I h2 rv (by simpa [PyData.showable] using hs) (fun t ht => Nat.le_trans (listText_mem_le ht) zz)
    have rd : Reads s.heap (.ref a) (.list ds) (a :: as) := .list ho rfl rfl ra
    have na : a ∉ bs := not_mem_of_deeper rd (by simp only [PyData.depth]; omega) rm
    simp only [PyData.depth] at dep
    simp only [PyData.shown] at fin
    cases its with
    | nil =>
      cases ra
      simp only [PyData.shownAll, listText_nil] at fin
      exact call_repr_slot (T := "list") (by omega) ⟨_, ho, rfl⟩ F.slot_list_repr.toG (call_list_repr_empty ⟨_, ho, rfl⟩ ho rfl ⟨_, _, rfl, fin s.heap _ _ fun _ _ e => e⟩)
    | cons x l =>
      exact call_repr_slot (T := "list") (by omega) ⟨_, ho, rfl⟩ F.slot_list_repr.toG (call_list_reprK (h₀ := s.heap) ho rfl rfl na (by simpa using rk.length_eq) (fun i y e => rk.item i y (by simpa using e)) gd (fun b _ => Clear.nil b) (by show X.A.units + 1 + _ < cLine; omega) (fun _ _ e => e) (fun h' v tk hk => ⟨_, _, rfl, fin h' v tk hk⟩) zz)
  | @tup _ xs ds h1 h2 =>
    obtain ⟨_, its, rv, o, ho, oc, m, od⟩ := (show ObjOk X.prog X.w H s.heap a (.tup xs) from I.hok a _ h1)
    have zz : (tupleText (PyData.shownAll ds)).length ≤ sizeLine := by simpa only [PyData.shown] using hz
    obtain ⟨as, bs, ra, rm, rk⟩ := rp_list I h2 rv (by simpa [PyData.showable] using hs) (fun t ht => Nat.le_trans (tupleText_mem_le ht) zz)
    have rd : Reads s.heap (.ref a) (.tuple ds) as := .tuple ho oc od ra
    have na : a ∉ bs := not_mem_of_deeper rd (by simp only [PyData.depth]; omega) rm
    simp only [PyData.depth] at dep
    simp only [PyData.shown] at fin
    exact call_repr_slot (T := "tuple") (by omega) ⟨_, ho, oc⟩ F.slot_tuple_repr (call_tuple_reprK (h₀ := s.heap) ho oc od na rk gd (fun b _ => Clear.nil b) (by show X.A.units + 1 + _ < cLine; omega) (fun _ _ e => e) (fun h' v tk hk => ⟨_, _, rfl, fin h' v tk hk⟩) zz)
  | @dic _ ks ds h1 nd h2 =>
    obtain ⟨_, hsys, vs, rkv, dof⟩ := (show ObjOk X.prog X.w H s.heap a (.dK ks) from I.hok a _ h1)
    have kl : ks.length = ds.length := by have := h2.len; rwa [List.length_map] at this
    have zz : (dictText (PyData.shownKv (zipK ks ds))).length ≤ sizeLine := by simpa only [PyData.shown] using hz
    obtain ⟨o, es, ep, ho, hx, hdat, _, hp, _⟩ := dof
    have vv : (zipK ks ds).map (·.2) = ds := zipK_vals kl
    obtain ⟨sh1, sh2⟩ := PyData.showableKv_split _ (show PyData.showableKv (zipK ks ds) = true by simpa [PyData.showable] using hs)
    rw [vv] at sh2
    have rk1 : ReadsAll s.heap (es.toList.map (·.key)) ((zipK ks ds).map (·.1)) [] := pairs_keys hp rkv kl
    have dle := dKv_le ks ds kl
    obtain ⟨as2, b2, ra2, hb2, k2⟩ := rp_list I h2 (kv_vals rkv) sh2 (fun t ht => by
      rw [← vv] at ht
      obtain ⟨p, hp, hl⟩ := PyData.shownKv_val_le _ t ht
      exact Nat.le_trans hl (Nat.le_trans (dictText_mem_le hp) zz))
    obtain ⟨b1, hb1, k1⟩ := ReprAllK.of_readsAll (prog := X.prog) (w := X.w) rk1 sh1 (fun _ z => nomatch z) (fun t ht => let ⟨p, hp, hl⟩ := PyData.shownKv_key_le _ t ht; Nat.le_trans hl (Nat.le_trans (dictText_mem_le hp) zz))
    have ev : es.toList.map (·.val) = vs.map (·.2) := pairs_vals hp
    rw [← ev] at ra2 k2
    have ra2' : ReadsAll s.heap (es.toList.map (·.val)) ((zipK ks ds).map (·.2)) as2 := by rw [vv]; exact ra2
    have rd : Reads s.heap (.ref a) (.dict (zipK ks ds)) (a :: [] ++ as2) := .dict ho hx.1 hdat rk1 ra2'
    have rm : ReadAtMost s.heap (PyData.depthKv (zipK ks ds)) (b1 ++ b2) := (hb1.mono (PyData.depthAll_keys_le _)).append (hb2.mono dle)
    have na : a ∉ b1 ++ b2 := not_mem_of_deeper rd (by simp only [PyData.depth]; omega) rm
    have EK := ReprEntriesK.of_two es.toList _ _ (k1.more_le (fun b z => List.mem_append_left b2 z) (PyData.depthAll_keys_le (zipK ks ds))) (k2.more_le (fun b z => List.mem_append_right b1 z) dle)
    rw [show PyData.shownAll ds = PyData.shownAll ((zipK ks ds).map (·.2)) by rw [vv], ← PyData.shownKv_eq] at EK
    simp only [PyData.depth] at dep
    simp only [PyData.shown] at fin
    exact call_repr_slot (T := "dict") (idr := "dict.__repr__") (by omega) ⟨o, ho, hx.1⟩ F.slot_dict_repr (call_dict_reprK (h₀ := s.heap) ho hx.1 hdat hsys na EK gd (fun b _ => Clear.nil b) (by show X.A.units + 1 + _ < cLine; omega) (fun _ _ e => e) (fun h' v tk hk => ⟨_, _, rfl, fin h' v tk hk⟩) zz)
end
end VL

set_option Elab.async false
set_option linter.all false
set_option maxRecDepth 100000
set_option maxHeartbeats 4000000
namespace VL
open PySem PySem.Spec PyProof.Rows L2
/-! ### dict comprehensions over any walk; dicts read while locked -/
theorem dc_itQ {J : It} {n : Nat} {G : Hp → Prop} {Y : Nat → Hp → V → Hp → Prop} (w : Walk J n G Y) {g : TG} {tt : TT} {tk tv : TE} {vs : List Nat} {σ : L2.St} {H1 : Hp} {D : Addr} {Qd : Hp → Prop} (Pv : Nat → Hp → Prop) (h0 : Pv 0 (upd H1 D (.dK []))) (hG : ∀ i H, i ≤ n → Pv i H → G H)
    (hs : ∀ i x H H', i < n → Pv i H → Y i H x H' → g x (wipe σ vs) H' fun σ2 H2 => wipe σ2 vs = wipe σ vs ∧ tt σ2 H2 fun b H3 =>
      if b = true then tk σ2 H3 fun y H4 => tv σ2 H4 fun z H5 => ∃ kvs k, y = kV k ∧ H5 D = some (.dK kvs) ∧ kvs.length < sizeLine ∧ Pv (i + 1) (upd H5 D (.dK (putK kvs k z))) else Pv (i + 1) H3) (hd : ∀ H, Pv n H → Qd H) :
    ∃ W : Nat → Nat → Hp → Prop, (∃ m, W 0 m (upd H1 D (.dK []))) ∧ ∀ i m H, W i m H →
      (J.stop i H ∧ Qd H) ∨ (J.go i H ∧ ∃ Nx : Hp → Prop, (∀ H', Nx H' → ∃ m', m' < m ∧ W (i + 1) m' H') ∧ ∀ x H', J.yld i H x H' → g x (wipe σ vs) H' fun σ2 H2 => wipe σ2 vs = wipe σ vs ∧ tt σ2 H2 fun b H3 =>
        if b = true then tk σ2 H3 fun y H4 => tv σ2 H4 fun z H5 => ∃ kvs k, y = kV k ∧ H5 D = some (.dK kvs) ∧ kvs.length < sizeLine ∧ Nx (upd H5 D (.dK (putK kvs k z))) else Nx H3) := by
  refine ⟨fun i m H => m = n - i ∧ i ≤ n ∧ Pv i H, ⟨n, by simp, Nat.zero_le _, h0⟩, ?_⟩
  rintro i m H ⟨rfl, hi, p⟩
  have q := hG i H hi p
  by_cases hlt : i < n
  · refine .inr ⟨w.goes i H hlt q, Pv (i + 1), fun H' p' => ⟨n - (i + 1), by omega, rfl, hlt, p'⟩, fun x H' y => hs i x H H' hlt p (w.yields i H x H' hlt q y)⟩
  · have e : i = n := by omega
    subst e
    exact .inl ⟨w.stops H q, hd H p⟩
theorem dget_fz {H : Hp} {a : Addr} {o : Obj} {kvs : List (Key × V)} {k : Key} (e : H a = some (.frz o (.dK kvs))) : DGet H a (kV k) (valV kvs k) := .inl ⟨kvs, k, .inr ⟨o, e⟩, rfl, rfl⟩
theorem putK_nw {ks : List (Key × V)} {k : Key} {v : V} (h : valV ks k = none) : putK ks k v = ks ++ [(k, v)] := by
  unfold putK
  rw [valV_any, h]
  rfl
theorem valV_out {ks : List (Key × V)} {k : Key} (h : k ∉ ks.map (·.1)) : valV ks k = none := by
  induction ks with
  | nil => rfl
  | cons p ks ih =>
    rw [valV_neg (fun z => h (by rw [List.map_cons, ← z]; exact List.mem_cons_self))]
    exact ih fun z => h (List.mem_cons_of_mem _ z)
theorem valV_nd : ∀ {ks : List (Key × V)} {i : Nat} {k : Key} {v : V}, (ks.map (·.1)).Nodup → ks[i]? = some (k, v) → valV ks k = some v
  | [], _, _, _, _, h => by simp at h
  | p :: ks, 0, k, v, nd, h => by
    simp at h
    subst h
    exact valV_pos rfl
  | p :: ks, i + 1, k, v, nd, h => by
    simp at h
    rw [List.map_cons, List.nodup_cons] at nd
    have hm : k ∈ ks.map (·.1) := List.mem_map.mpr ⟨_, List.mem_of_getElem? h, rfl⟩
    rw [valV_neg (fun z => nd.1 (by rw [z]; exact hm))]
    exact valV_nd nd.2 h
theorem zipK_keys : ∀ {ks ls : List (Key × V)} {ds : List PyData}, ks.map (·.1) = ls.map (·.1) → zipK ks ds = zipK ls ds
  | [], [], _, _ => by unfold zipK; rfl
  | p :: ks, q :: ls, [], h => by unfold zipK; rfl
  | p :: ks, q :: ls, d :: ds, h => by
    rw [List.map_cons, List.map_cons] at h
    injection h with h1 h2
    show (enK p.1, d) :: zipK ks ds = (enK q.1, d) :: zipK ls ds
    rw [h1, zipK_keys h2]
  | [], q :: ls, _, h => nomatch h
  | p :: ks, [], _, h => nomatch h
theorem zipK_app : ∀ {ks ls : List (Key × V)} {ds es : List PyData}, ks.length = ds.length → zipK (ks ++ ls) (ds ++ es) = zipK ks ds ++ zipK ls es
  | [], ls, [], es, _ => rfl
  | p :: ks, ls, d :: ds, es, h => by
    show (enK p.1, d) :: zipK (ks ++ ls) (ds ++ es) = (enK p.1, d) :: zipK ks ds ++ zipK ls es
    rw [zipK_app (Nat.succ.inj h)]
    rfl
theorem enK_inj {a b : Key} (h : enK a = enK b) : a = b := by
  cases a with
  | inl i => cases b with
    | inl j => injection h with h; rw [h]
    | inr y => exact nomatch h
  | inr x => cases b with
    | inl j => exact nomatch h
    | inr y => injection h with h; rw [h]
/-! ### what stands there is one thing -/
theorem dq_det_n {H : Hp} : ∀ (n : Nat) (d d' : PyData) (v : V), PyData.depth d ≤ n → Dq H v d → Dq H v d' → d = d' := by
  intro n
  induction n with
  | zero =>
    intro d d' v hn h h'
    cases h with
    | non => cases h'; rfl
    | bl b => cases h'; rfl
    | int i => cases h'; rfl
    | str x => cases h'; rfl
    | lst _ _ => exact absurd hn (by simp [PyData.depth])
    | tup _ _ => exact absurd hn (by simp [PyData.depth])
    | dic _ _ _ => exact absurd hn (by simp [PyData.depth])
  | succ n ih =>
    have all : ∀ {vs : List V} {ds es : List PyData}, DqAll H vs ds → DqAll H vs es → PyData.depthAll ds ≤ n → ds = es := by
      intro vs
      induction vs with
      | nil => intro ds es h h' _; cases h; cases h'; rfl
      | cons v vs iv =>
        intro ds es h h' hd
        cases h with
        | @cons _ _ d ds a b =>
          cases h' with
          | @cons _ _ e es a' b' =>
            have hd' : max (PyData.depth d) (PyData.depthAll ds) ≤ n := hd
            rw [ih d e v (by omega) a a', iv b b' (by omega)]
    intro d d' v hn h h'
    cases h with
    | non => cases h'; rfl
    | bl b => cases h'; rfl
    | int i => cases h'; rfl
    | str x => cases h'; rfl
    | lst h1 h2 =>
      simp only [PyData.depth] at hn
      cases h' with
      | lst g1 g2 => rw [h1] at g1; cases g1; rw [all h2 g2 (by omega)]
      | tup g1 g2 => rw [h1] at g1; cases g1
      | dic g1 _ g2 => rw [h1] at g1; cases g1
    | tup h1 h2 =>
      simp only [PyData.depth] at hn
      cases h' with
      | lst g1 g2 => rw [h1] at g1; cases g1
      | tup g1 g2 => rw [h1] at g1; cases g1; rw [all h2 g2 (by omega)]
      | dic g1 _ g2 => rw [h1] at g1; cases g1
    | @dic a ks ds h1 nd h2 =>
      have := dKv_le ks ds (by have := h2.len; rwa [List.length_map] at this)
      simp only [PyData.depth] at hn
      cases h' with
      | lst g1 g2 => rw [h1] at g1; cases g1
      | tup g1 g2 => rw [h1] at g1; cases g1
      | dic g1 _ g2 => rw [h1] at g1; cases g1; rw [all h2 g2 (by omega)]
theorem Dq.det {H : Hp} {v : V} {d d' : PyData} (h : Dq H v d) (h' : Dq H v d') : d = d' := dq_det_n _ d d' v (Nat.le_refl _) h h'
/-- a store at what is deeper changes nothing -/
theorem dq_upd_n {H : Hp} {a : Addr} {da : PyData} {o : HO} (ha : Dq H (.ref a) da) : ∀ (n : Nat) (d : PyData) (v : V), PyData.depth d ≤ n → PyData.depth d < PyData.depth da → Dq H v d → Dq (upd H a o) v d := by
  intro n
  induction n with
  | zero =>
    intro d v hn _ h
    cases h with
    | non => exact .non
    | bl b => exact .bl b
    | int i => exact .int i
    | str x => exact .str x
    | lst _ _ => exact absurd hn (by simp [PyData.depth])
    | tup _ _ => exact absurd hn (by simp [PyData.depth])
    | dic _ _ _ => exact absurd hn (by simp [PyData.depth])
  | succ n ih =>
    have all : ∀ {vs : List V} {ds : List PyData}, DqAll H vs ds → PyData.depthAll ds ≤ n → PyData.depthAll ds < PyData.depth da → DqAll (upd H a o) vs ds := by
      intro vs
      induction vs with
      | nil => intro ds h _ _; cases h; exact .nil
      | cons v vs iv =>
        intro ds h hd hl
        cases h with
        | @cons _ _ d ds b c =>
          have hd' : max (PyData.depth d) (PyData.depthAll ds) ≤ n := hd
          have hl' : max (PyData.depth d) (PyData.depthAll ds) < PyData.depth da := hl
          exact .cons (ih d v (by omega) (by omega) b) (iv c (by omega) (by omega))
    intro d v hn hl h
    have ne : ∀ b : Addr, v = .ref b → b ≠ a := fun b e z => by
      subst e
      subst z
      rw [h.det ha] at hl
      exact Nat.lt_irrefl _ hl
    cases h with
    | non => exact .non
    | bl b => exact .bl b
    | int i => exact .int i
    | str x => exact .str x
    | lst h1 h2 =>
      simp only [PyData.depth] at hn hl
      exact .lst (by rw [upd_ne (ne _ rfl)]; exact h1) (all h2 (by omega) (by omega))
    | tup h1 h2 =>
      simp only [PyData.depth] at hn hl
      exact .tup (by rw [upd_ne (ne _ rfl)]; exact h1) (all h2 (by omega) (by omega))
    | @dic b ks ds h1 nd h2 =>
      have := dKv_le ks ds (by have := h2.len; rwa [List.length_map] at this)
      simp only [PyData.depth] at hn hl
      exact .dic (by rw [upd_ne (ne _ rfl)]; exact h1) nd (all h2 (by omega) (by omega))
theorem Dq.upd {H : Hp} {a : Addr} {da d : PyData} {v : V} {o : HO} (h : Dq H v d) (ha : Dq H (.ref a) da) (hl : PyData.depth d < PyData.depth da) : Dq (upd H a o) v d := dq_upd_n ha _ d v (Nat.le_refl _) hl h
theorem mem_depth {d : PyData} : ∀ {ds : List PyData}, d ∈ ds → PyData.depth d ≤ PyData.depthAll ds
  | e :: ds, h => by
    show _ ≤ max (PyData.depth e) (PyData.depthAll ds)
    rcases List.mem_cons.mp h with rfl | h
    · omega
    · have := mem_depth h
      omega
/-! ### reading a dict's data -/
def keyB : PyData → Key → Bool
  | .int i, .inl j => decide (i = j)
  | .str x, .inr y => decide (x = y)
  | _, _ => false
theorem keyB_en (a b : Key) : keyB (enK a) b = decide (a = b) := by
  cases a with
  | inl i => cases b with
    | inl j => show decide (i = j) = decide (Sum.inl i = Sum.inl j); by_cases e : i = j <;> simp [e]
    | inr y => show false = decide (Sum.inl i = Sum.inr y); simp
  | inr x => cases b with
    | inl j => show false = decide (Sum.inr x = Sum.inl j); simp
    | inr y => show decide (x = y) = decide (Sum.inr x = Sum.inr y); by_cases e : x = y <;> simp [e]
def lkp : List (PyData × PyData) → Key → Option PyData
  | [], _ => none
  | p :: r, k => if keyB p.1 k = true then some p.2 else lkp r k
theorem lkp_at {H : Hp} {k : Key} : ∀ {ks : List (Key × V)} {ds : List PyData}, DqAll H (ks.map (·.2)) ds → (lkp (zipK ks ds) k = none ∧ valV ks k = none) ∨ ∃ d v, lkp (zipK ks ds) k = some d ∧ valV ks k = some v ∧ Dq H v d
  | [], ds, h => by
    cases h
    exact .inl ⟨rfl, rfl⟩
  | p :: ks, _, .cons (d := d) (ds := ds) a b => by
    have e : lkp (zipK (p :: ks) (d :: ds)) k = if keyB (enK p.1) k = true then some d else lkp (zipK ks ds) k := rfl
    rw [e, keyB_en]
    by_cases q : p.1 = k
    · rw [if_pos (decide_eq_true q), valV_pos q]
      exact .inr ⟨d, p.2, rfl, rfl, a⟩
    · rw [if_neg (by simp [q]), valV_neg q]
      exact lkp_at b
theorem dq_dict {H : Hp} {v : V} {kvs : List (PyData × PyData)} (h : Dq H v (.dict kvs)) : ∃ a ks, v = .ref a ∧ H a = some (.dK ks) ∧ (ks.map (·.1)).Nodup ∧ ks.length = kvs.length ∧
    ∀ k, (lkp kvs k = none ∧ valV ks k = none) ∨ ∃ d v, lkp kvs k = some d ∧ valV ks k = some v ∧ Dq H v d := by
  cases h with
  | @dic a ks ds h1 nd h2 =>
    refine ⟨a, ks, rfl, h1, nd, ?_, fun k => lkp_at h2⟩
    have e : ks.length = ds.length := by have := h2.len; rwa [List.length_map] at this
    have : ((zipK ks ds).map (·.2)).length = ds.length := by rw [zipK_vals e]
    rw [List.length_map] at this
    omega
theorem dq_list {H : Hp} {v : V} {ds : List PyData} (h : Dq H v (.list ds)) : ∃ a xs, v = .ref a ∧ H a = some (.lst xs) ∧ DqAll H xs ds := by
  cases h with
  | @lst a xs _ h1 h2 => exact ⟨a, xs, rfl, h1, h2⟩
theorem dq_tup {H : Hp} {v : V} {ds : List PyData} (h : Dq H v (.tuple ds)) : ∃ a xs, v = .ref a ∧ H a = some (.tup xs) ∧ DqAll H xs ds := by
  cases h with
  | @tup a xs _ h1 h2 => exact ⟨a, xs, rfl, h1, h2⟩
theorem dqAll_at {H : Hp} : ∀ {vs : List V} {ds : List PyData}, DqAll H vs ds → ∀ {i : Nat} {d : PyData}, ds[i]? = some d → ∃ v, vs[i]? = some v ∧ Dq H v d
  | _, _, .nil, i, d, h => by simp at h
  | _, _, .cons a b, 0, d, h => by
    simp at h
    subst h
    exact ⟨_, rfl, a⟩
  | _, _, .cons a b, i + 1, d, h => by
    simp at h
    obtain ⟨v, h1, h2⟩ := dqAll_at b h
    exact ⟨v, by simpa using h1, h2⟩
theorem dqAll_ap {H : Hp} : ∀ {vs ws : List V} {ds es : List PyData}, DqAll H vs ds → DqAll H ws es → DqAll H (vs ++ ws) (ds ++ es)
  | _, _, _, _, .nil, q => q
  | _, _, _, _, .cons a b, q => .cons a (dqAll_ap b q)
/-! ### small data -/
structure Small (c k : Nat) (d : PyData) : Prop where
  sh : PyData.showable d = true
  dp : PyData.depth d ≤ k
  ln : (PyData.shown d).length ≤ c
theorem Small.mono {c k c' k' : Nat} {d : PyData} (h : Small c k d) (h1 : c ≤ c') (h2 : k ≤ k') : Small c' k' d := ⟨h.sh, Nat.le_trans h.dp h2, Nat.le_trans h.ln h1⟩
theorem tupText_le (ts : List Str) : (tupleText ts).length ≤ 3 + piled ts := by
  have e1 : ((("(" : String) : Str)).length = 1 := rfl
  have e3 : (((if ts.length == 1 then ",)" else ")" : String) : Str)).length ≤ 2 := by split <;> decide
  unfold tupleText
  rw [strApp, strApp, e1]
  by_cases h : ts = []
  · subst h
    have : (Str.join ", " ([] : List Str)).length = 0 := rfl
    omega
  · have := join_length_add ts h
    omega
theorem shAll_mem : ∀ {ds : List PyData}, (∀ d ∈ ds, PyData.showable d = true) → PyData.showableAll ds = true
  | [], _ => rfl
  | d :: ds, h => by
    show (PyData.showable d && PyData.showableAll ds) = true
    rw [h d List.mem_cons_self, shAll_mem fun x hx => h x (List.mem_cons_of_mem _ hx)]
    rfl
theorem dpAll_mem {k : Nat} : ∀ {ds : List PyData}, (∀ d ∈ ds, PyData.depth d ≤ k) → PyData.depthAll ds ≤ k
  | [], _ => Nat.zero_le _
  | d :: ds, h => by
    show max (PyData.depth d) (PyData.depthAll ds) ≤ k
    have := h d List.mem_cons_self
    have := dpAll_mem fun x hx => h x (List.mem_cons_of_mem _ hx)
    omega
theorem shownAll_len : ∀ ds : List PyData, (PyData.shownAll ds).length = ds.length
  | [] => rfl
  | d :: ds => by
    show (PyData.shownAll ds).length + 1 = _
    rw [shownAll_len ds]
    rfl
theorem shownAll_mem : ∀ {ds : List PyData} {t : Str}, t ∈ PyData.shownAll ds → ∃ d ∈ ds, t = PyData.shown d
  | d :: ds, t, h => by
    rcases List.mem_cons.mp (show t ∈ PyData.shown d :: PyData.shownAll ds from h) with rfl | h
    · exact ⟨d, List.mem_cons_self, rfl⟩
    · obtain ⟨e, h1, h2⟩ := shownAll_mem h
      exact ⟨e, List.mem_cons_of_mem _ h1, h2⟩
theorem piledAll {c k : Nat} {ds : List PyData} (h : ∀ d ∈ ds, Small c k d) : piled (PyData.shownAll ds) ≤ ds.length * (c + 2) := by
  have := piled_le (c := c) (ts := PyData.shownAll ds) fun t ht => by
    obtain ⟨d, hd, rfl⟩ := shownAll_mem ht
    exact (h d hd).ln
  rwa [shownAll_len] at this
theorem small_list {c k n : Nat} {ds : List PyData} (h : ∀ d ∈ ds, Small c k d) (hl : ds.length ≤ n) : Small (2 + n * (c + 2)) (k + 1) (.list ds) := by
  refine ⟨?_, ?_, ?_⟩
  · show PyData.showableAll ds = true
    exact shAll_mem fun d hd => (h d hd).sh
  · show PyData.depthAll ds + 1 ≤ k + 1
    have := dpAll_mem fun d hd => (h d hd).dp
    omega
  · show (listText (PyData.shownAll ds)).length ≤ _
    have h1 := listText_le (PyData.shownAll ds)
    have h2 := piledAll h
    have h3 := Nat.mul_le_mul_right (c + 2) hl
    omega
theorem small_tup {c k n : Nat} {ds : List PyData} (h : ∀ d ∈ ds, Small c k d) (hl : ds.length ≤ n) : Small (3 + n * (c + 2)) (k + 1) (.tuple ds) := by
  refine ⟨?_, ?_, ?_⟩
  · show PyData.showableAll ds = true
    exact shAll_mem fun d hd => (h d hd).sh
  · show PyData.depthAll ds + 1 ≤ k + 1
    have := dpAll_mem fun d hd => (h d hd).dp
    omega
  · show (tupleText (PyData.shownAll ds)).length ≤ _
    have h1 := tupText_le (PyData.shownAll ds)
    have h2 := piledAll h
    have h3 := Nat.mul_le_mul_right (c + 2) hl
    omega
theorem small_dict {c k n : Nat} {kvs : List (PyData × PyData)} (h : ∀ p ∈ kvs, Small c k p.1 ∧ Small c k p.2) (hl : kvs.length ≤ n) : Small (2 + n * (2 * c + 4)) (k + 1) (.dict kvs) := by
  have sh : ∀ L : List (PyData × PyData), (∀ p ∈ L, Small c k p.1 ∧ Small c k p.2) → PyData.showableKv L = true ∧ PyData.depthKv L ≤ k ∧ piled (PyData.shownKv L) ≤ L.length * (2 * c + 4) := by
    intro L
    induction L with
    | nil => exact fun _ => ⟨rfl, Nat.zero_le _, by simp [PyData.shownKv, piled]⟩
    | cons p L ih =>
      intro hp
      obtain ⟨i1, i2, i3⟩ := ih fun x hx => hp x (List.mem_cons_of_mem _ hx)
      obtain ⟨a, b⟩ := hp p List.mem_cons_self
      refine ⟨?_, ?_, ?_⟩
      · show (PyData.showable p.1 && PyData.showable p.2 && PyData.showableKv L) = true
        rw [a.sh, b.sh, i1]
        rfl
      · show max (max (PyData.depth p.1) (PyData.depth p.2)) (PyData.depthKv L) ≤ k
        have := a.dp
        have := b.dp
        omega
      · have e : PyData.shownKv (p :: L) = (PyData.shown p.1 ++ (": " : Str) ++ PyData.shown p.2) :: PyData.shownKv L := rfl
        have e2 : piled (PyData.shownKv (p :: L)) = (PyData.shown p.1 ++ (": " : Str) ++ PyData.shown p.2).length + 2 + piled (PyData.shownKv L) := by rw [e]; simp [piled]
        have e3 : ((": " : String) : Str).length = 2 := rfl
        have := a.ln
        have := b.ln
        have e4 : (p :: L).length * (2 * c + 4) = L.length * (2 * c + 4) + (2 * c + 4) := by rw [List.length_cons, Nat.succ_mul]
        rw [e2, strApp, strApp]
        omega
  obtain ⟨i1, i2, i3⟩ := sh kvs h
  refine ⟨i1, ?_, ?_⟩
  · show PyData.depthKv kvs + 1 ≤ k + 1
    omega
  · show (dictText (PyData.shownKv kvs)).length ≤ _
    have h1 := dictText_le (PyData.shownKv kvs)
    have h3 := Nat.mul_le_mul_right (2 * c + 4) hl
    omega
end VL

set_option Elab.async false
set_option linter.all false
set_option maxRecDepth 100000
namespace VL
open PySem PySem.Spec PyProof.Rows L2
/-! ### != of lists of any texts; repr of a truth value or None -/
section
variable {X : Cx}
def rNeP (K : PySem.W.Frag) : R2 := fun x y H Q => ∃ d e, Dp K H x d ∧ Dp K H y e ∧ d.plain = true ∧ e.plain = true ∧ PyData.depth d ≤ 60 ∧ Q (.bl (!PyData.eqv d e)) H
theorem op_neP (hu : X.A.units + 64 < cLine) : OpR X (compareOp .NotEq) (rNeP X.K) := by
  intro pins s σ H x y v u Q I rx ry h
  obtain ⟨d, e, hd, he, sd, se, dp, q⟩ := h
  obtain ⟨as, r1⟩ := Dp.reads I d x v hd rx
  obtain ⟨bs, r2⟩ := Dp.reads I e y u he ry
  exact SeqAt.ne_plain r1 r2 sd se (by have := Nat.min_le_left d.depth e.depth; omega) ⟨.bl _, H, I, rfl, q⟩
def rEqP (K : PySem.W.Frag) : R2 := fun x y H Q => ∃ d e, Dp K H x d ∧ Dp K H y e ∧ d.plain = true ∧ e.plain = true ∧ PyData.depth d ≤ 60 ∧ Q (.bl (PyData.eqv d e)) H
theorem op_eqP {K : PySem.W.Frag} (hK : X.K = K) (hu : X.A.units + 64 < cLine) : OpR X (compareOp .Eq) (rEqP K) := by
  subst hK
  intro pins s σ H x y v u Q I rx ry h
  obtain ⟨d, e, hd, he, sd, se, dp, q⟩ := h
  obtain ⟨as, r1⟩ := Dp.reads I d x v hd rx
  obtain ⟨bs, r2⟩ := Dp.reads I e y u he ry
  exact SeqAt.eq_plain r1 r2 sd se (by have := Nat.min_le_left d.depth e.depth; omega) ⟨.bl _, H, I, rfl, q⟩
def rRepB : List V → Hp → VK → Prop := fun xs H Q => ∃ x : Str, (xs = [.non] ∧ x = "None" ∨ ∃ b : Bool, xs = [.bl b] ∧ x = if b then "True" else "False") ∧ Q (.str x) H
theorem call_repB : CallR X (.builtin "repr") rRepB := by
  intro pins s σ H xs us Q I r h
  obtain ⟨x, h, q⟩ := h
  have fin : ∀ (t : Tok) (tk : Nat), EP X pins σ Q (.str x t) { s with toks := tk } := fun t tk => ⟨.str _, H, I.kept (h' := s.heap) (fun _ _ e => e), ⟨t, rfl⟩, q⟩
  rcases h with ⟨rfl, rfl⟩ | ⟨b, rfl, rfl⟩
  · obtain ⟨u, rfl, ru⟩ := vals1 r
    cases (show u = Value.none from ru)
    exact P.repr_of_none (fin _ _)
  · obtain ⟨u, rfl, ru⟩ := vals1 r
    cases (show u = Value.bool b from ru)
    refine P.repr_of_bool ?_
    cases b
    · exact fin _ _
    · exact fin _ _
theorem dpAll_strT {K : PySem.W.Frag} {H : Hp} : ∀ ns : List Str, DpAll K H (ns.map V.str) (ns.map PyData.str)
  | [] => .nil
  | a :: ns => .cons (.str a) (dpAll_strT ns)
theorem plain_strs (ns : List Str) : PyData.plain (.list (ns.map PyData.str)) = true := by
  show PyData.plainAll _ = true
  induction ns with
  | nil => rfl
  | cons a ns ih =>
    show (PyData.plain (.str a) && PyData.plainAll (ns.map PyData.str)) = true
    rw [ih]
    rfl
theorem depth_strs (ns : List Str) : PyData.depth (.list (ns.map PyData.str)) = 1 := by
  have : ∀ ns : List Str, PyData.depthAll (ns.map PyData.str) = 0 := by
    intro ns
    induction ns with
    | nil => rfl
    | cons a ns ih => simp [PyData.depthAll, PyData.depth, ih]
  simp [PyData.depth, this]
end
end VL

set_option Elab.async false
set_option linter.all false
set_option maxRecDepth 100000
set_option maxHeartbeats 4000000
namespace VL
open PySem PySem.Spec PyProof.Rows L2
/-! ### copies of values: what may be copied, what is new -/
mutual
def cpy : PyData → Bool
  | .list ds => decide (ds.length ≤ 1000) && cpyAll ds
  | .dict kvs => decide (kvs.length ≤ 1000) && cpyKv kvs
  | .tuple _ => false
  | .none | .bool _ | .int _ | .str _ => true
def cpyAll : List PyData → Bool
  | [] => true
  | d :: ds => cpy d && cpyAll ds
def cpyKv : List (PyData × PyData) → Bool
  | [] => true
  | (_, d) :: r => cpy d && cpyKv r
end
theorem cpyAll_mem : ∀ {ds : List PyData}, cpyAll ds = true → ∀ d ∈ ds, cpy d = true
  | e :: ds, h, d, hd => by
    have h' : cpy e = true ∧ cpyAll ds = true := by simpa [cpyAll] using h
    rcases List.mem_cons.mp hd with rfl | hd
    · exact h'.1
    · exact cpyAll_mem h'.2 d hd
theorem cpyKv_zip : ∀ {ks : List (Key × V)} {ds : List PyData}, ks.length = ds.length → cpyKv (zipK ks ds) = true → cpyAll ds = true
  | [], [], _, _ => rfl
  | p :: ks, d :: ds, hl, h => by
    have h' : cpy d = true ∧ cpyKv (zipK ks ds) = true := by
      have e : cpyKv (zipK (p :: ks) (d :: ds)) = (cpy d && cpyKv (zipK ks ds)) := rfl
      rw [e] at h
      simpa using h
    show (cpy d && cpyAll ds) = true
    rw [h'.1, cpyKv_zip (Nat.succ.inj hl) h'.2]
    rfl
/-- what has come since H -/
def newer (H H' : Hp) : Hp := fun b => match H b with
  | none => H' b
  | some _ => none
theorem newer_some {H H' : Hp} {b : Addr} {o : HO} (h : newer H H' b = some o) : H b = none ∧ H' b = some o := by
  unfold newer at h
  cases e : H b with
  | none => rw [e] at h; exact ⟨rfl, h⟩
  | some u => rw [e] at h; exact nomatch h
theorem newer_mk {H H' : Hp} {b : Addr} {o : HO} (h1 : H b = none) (h2 : H' b = some o) : newer H H' b = some o := by
  unfold newer
  rw [h1]
  exact h2
theorem newer_same (H H' : Hp) : Same (newer H H') H' := fun b o h => (newer_some h).2
def spCopy (n : Nat) : Sp := fun vs H Q _ => ∃ (v : V) (d : PyData), vs = [v] ∧ Dq H v d ∧ cpy d = true ∧ PyData.depth d ≤ n ∧ ∀ v' H', Same H H' → Dq (newer H H') v' d → Q v' H'
end VL

set_option Elab.async false
set_option linter.all false
set_option maxRecDepth 100000
set_option maxHeartbeats 4000000
namespace VL
open PySem PySem.Spec PyProof.Rows L2
/-! ### a part of a heap, and a few objects beside it that change -/
structure Sb (G H : Hp) (M : List (Addr × HO)) : Prop where
  s : Same G H
  m : ∀ p ∈ M, G p.1 = none ∧ H p.1 = some p.2
  nd : (M.map (·.1)).Nodup
def joinH (G N : Hp) : Hp := fun b => match G b with
  | some o => some o
  | none => N b
theorem joinH_l {G N : Hp} : Same G (joinH G N) := fun b o e => by
  unfold joinH
  rw [e]
theorem joinH_r {G H H' : Hp} (s : Same G H) : Same (newer H H') (joinH G (newer H H')) := fun b o e => by
  obtain ⟨z, _⟩ := newer_some e
  unfold joinH
  cases g : G b with
  | none => exact e
  | some u => rw [s _ _ g] at z; exact nomatch z
theorem Sb.alloc {G H : Hp} {M : List (Addr × HO)} {t : Addr} {o : HO} (S : Sb G H M) (h : H t = none) : Sb (upd G t o) (upd H t o) M := by
  refine ⟨fun b u e => ?_, fun p hp => ?_, S.nd⟩
  · by_cases z : b = t
    · subst z
      rw [upd_same] at e ⊢
      exact e
    · rw [upd_ne z] at e ⊢
      exact S.s _ _ e
  · obtain ⟨h1, h2⟩ := S.m p hp
    have n : p.1 ≠ t := ne_of_none h2 h
    rw [upd_ne n, upd_ne n]
    exact ⟨h1, h2⟩
theorem Sb.gnone {G H : Hp} {M : List (Addr × HO)} {t : Addr} (S : Sb G H M) (h : H t = none) : G t = none := Same.free S.s h
theorem Sb.grow {G H : Hp} {M : List (Addr × HO)} {t : Addr} {o : HO} (S : Sb G H M) (h : H t = none) : Same G (upd G t o) := fun b u e => by rw [upd_ne (ne_of_none e (S.gnone h))]; exact e
theorem Sb.call {G H H' : Hp} {M : List (Addr × HO)} (S : Sb G H M) (s : Same H H') : Sb (joinH G (newer H H')) H' M := by
  refine ⟨fun b u e => ?_, fun p hp => ?_, S.nd⟩
  · unfold joinH at e
    cases g : G b with
    | some o => rw [g] at e; rw [← e]; exact s _ _ (S.s _ _ g)
    | none => rw [g] at e; exact (newer_some e).2
  · obtain ⟨h1, h2⟩ := S.m p hp
    refine ⟨?_, s _ _ h2⟩
    unfold joinH
    rw [h1]
    show newer H H' p.1 = none
    unfold newer
    rw [h2]
theorem Sb.add {G H : Hp} {M : List (Addr × HO)} {t : Addr} {o : HO} (S : Sb G H M) (h : H t = none) : Sb G (upd H t o) ((t, o) :: M) := by
  refine ⟨fun b u e => by rw [upd_ne (ne_of_none (S.s _ _ e) h)]; exact S.s _ _ e, fun p hp => ?_, ?_⟩
  · rcases List.mem_cons.mp hp with rfl | hp
    · exact ⟨S.gnone h, upd_same⟩
    · obtain ⟨h1, h2⟩ := S.m p hp
      exact ⟨h1, by rw [upd_ne (ne_of_none h2 h)]; exact h2⟩
  · rw [List.map_cons, List.nodup_cons]
    refine ⟨fun hm => ?_, S.nd⟩
    obtain ⟨p, hp, e⟩ := List.mem_map.mp hm
    have := (S.m p hp).2
    rw [e] at this
    rw [show H (t, o).1 = none from h] at this
    exact nomatch this
theorem Sb.put {G H : Hp} {M : List (Addr × HO)} {t : Addr} {o : HO} {u : HO} (S : Sb G H ((t, o) :: M)) : Sb G (upd H t u) ((t, u) :: M) := by
  have nd := S.nd
  rw [List.map_cons, List.nodup_cons] at nd
  have gt := (S.m (t, o) List.mem_cons_self).1
  refine ⟨fun b v e => by rw [upd_ne (ne_of_none e gt)]; exact S.s _ _ e, fun p hp => ?_, ?_⟩
  · rcases List.mem_cons.mp hp with rfl | hp
    · exact ⟨gt, upd_same⟩
    · obtain ⟨h1, h2⟩ := S.m p (List.mem_cons_of_mem _ hp)
      have n : p.1 ≠ t := fun z => nd.1 (List.mem_map.mpr ⟨p, hp, z⟩)
      exact ⟨h1, by rw [upd_ne n]; exact h2⟩
  · rw [List.map_cons, List.nodup_cons]
    exact nd
theorem Sb.swap {G H : Hp} {M : List (Addr × HO)} {p q : Addr × HO} (S : Sb G H (p :: q :: M)) : Sb G H (q :: p :: M) := by
  have nd := S.nd
  refine ⟨S.s, fun r hr => S.m r ?_, ?_⟩
  · rcases List.mem_cons.mp hr with rfl | hr
    · exact List.mem_cons_of_mem _ List.mem_cons_self
    · rcases List.mem_cons.mp hr with rfl | hr
      · exact List.mem_cons_self
      · exact List.mem_cons_of_mem _ (List.mem_cons_of_mem _ hr)
  · simp only [List.map_cons, List.nodup_cons, List.mem_cons] at nd ⊢
    refine ⟨fun z => ?_, fun z => nd.1 (.inr z), nd.2.2⟩
    rcases z with z | z
    · exact nd.1 (.inl z.symm)
    · exact nd.2.1 z
theorem Sb.drop {G H : Hp} {M : List (Addr × HO)} {t : Addr} {o : HO} (S : Sb G H ((t, o) :: M)) : Sb (upd G t o) H M ∧ Same G (upd G t o) := by
  have nd := S.nd
  rw [List.map_cons, List.nodup_cons] at nd
  obtain ⟨gt, ht⟩ := S.m (t, o) List.mem_cons_self
  refine ⟨⟨fun b u e => ?_, fun p hp => ?_, nd.2⟩, fun b u e => by rw [upd_ne (ne_of_none e gt)]; exact e⟩
  · by_cases z : b = t
    · subst z
      rw [upd_same] at e
      rw [← e]
      exact ht
    · rw [upd_ne z] at e
      exact S.s _ _ e
  · obtain ⟨h1, h2⟩ := S.m p (List.mem_cons_of_mem _ hp)
    have n : p.1 ≠ t := fun z => nd.1 (List.mem_map.mpr ⟨p, hp, z⟩)
    exact ⟨by rw [upd_ne n]; exact h1, h2⟩
theorem Sb.hd {G H : Hp} {M : List (Addr × HO)} {p : Addr × HO} (S : Sb G H (p :: M)) : H p.1 = some p.2 := (S.m p List.mem_cons_self).2
theorem Sb.hd2 {G H : Hp} {M : List (Addr × HO)} {p q : Addr × HO} (S : Sb G H (q :: p :: M)) : H p.1 = some p.2 := (S.m p (List.mem_cons_of_mem _ List.mem_cons_self)).2
theorem Sb.nil {H : Hp} : Sb H H [] := ⟨Same.refl _, (fun _ h => nomatch h), List.nodup_nil⟩
end VL

set_option Elab.async false
set_option linter.all false
set_option maxRecDepth 100000
set_option maxHeartbeats 4000000
namespace VL
open PySem PySem.Spec PyProof.Rows L2
theorem Sb.put2 {G H : Hp} {M : List (Addr × HO)} {p : Addr × HO} {t : Addr} {o u : HO} (S : Sb G H (p :: (t, o) :: M)) : Sb G (upd H t u) (p :: (t, u) :: M) := S.swap.put.swap
theorem Sb.more {G H H' : Hp} {M : List (Addr × HO)} (S : Sb G H M) (s : Same H H') : ∃ G', Sb G' H' M ∧ Same G G' := ⟨_, S.call s, joinH_l⟩
theorem flat_one {α : Type} (l : List α) : (l.map fun c => [c]).flatten = l := by
  induction l with
  | nil => rfl
  | cons c cs ih => simp [ih]
theorem valV_in2 {k : Key} : ∀ {ks : List (Key × V)}, k ∈ ks.map (·.1) → (valV ks k).isSome = true
  | p :: ks, h => by
    by_cases e : p.1 = k
    · rw [valV_pos e]
      rfl
    · rw [valV_neg e]
      refine valV_in2 ?_
      rcases List.mem_cons.mp (show k ∈ p.1 :: ks.map (·.1) from h) with z | z
      · exact absurd z.symm e
      · exact z
end VL

set_option Elab.async false
set_option linter.all false
set_option maxRecDepth 100000
set_option maxHeartbeats 4000000
namespace VL
open PySem PySem.Spec PyProof.Rows L2

/-! ### what the text has: methods with keyword-only parameters, properties, written tuples, own exceptions without a text of their own -/
def WrT (K : PySem.W.Frag) (a : Addr) (xs : List V) : Prop := ∃ (o : Obj) (its : Array Value) (n : Nat), K.lookup a = some o ∧ o.cls = .type "tuple" ∧ o.data = .seq its n ∧ its.size ≤ sizeLine ∧ Vals xs its.toList ∧ o.dict = none
abbrev catG {α : Type} (us ws : List α) : List α := us ++ ws
def MethKE (K : PySem.W.Frag) (C : Addr) (x qual : Str) (st : Stmt) (ps : List Str) (n : Nat) (ks : List Str) : Prop :=
  ∃ (f : Addr) (fd : FuncData), Fun K x qual st f fd ∧ Meth K C x f ∧ KBn K fd ps n ks catG catG
def PropE (K : PySem.W.Frag) (C : Addr) (x qual : Str) (st : Stmt) : Prop := ∃ (p g : Addr) (fd : FuncData), PropOf K C x p g ∧ Fun K x qual st g fd ∧ Binds K fd ["self"] []
structure ExT (K : PySem.W.Frag) (mg : Str → Option Value) (x : Str) (D : Addr) : Prop where
  g : mg x = some (.ref D)
  xx : PySem.W.excIn K D [.type "ValueError", .type "Exception", .type "BaseException", .type "object"] "ValueError.__new__" = true
  kp : PySem.W.keepIn K (.ref D) = true
  bP : PySem.W.subIn K (.ref D) (.type "BaseException") = some true
  tP : PySem.W.typeIn K (.ref D) = some (.type "type")
  em : PySem.W.exmOne K (.ref D) (.ref D) = some true
  ec : ExcC K D
theorem fun_kbn {K : PySem.W.Frag} {x qual : Str} {st : Stmt} {f : Addr} {fd : FuncData} {ps : List Str} (F : Fun K x qual st f fd) (n : Nat) (ks : List Str)
    (h : ∀ (kV doc pm : Value) (an : Option Addr) (cdv ct : Value) (us ws : List Value), us.length = n → ws.length = ks.length → bindArgs (PySem.W.fnOf x qual (defArgs st) (defBody st) (defScope st) .none kV doc pm an cdv ct) ⟨us, ks.zip ws⟩ = pure (ps.zip (us ++ ws))) :
    KBn K fd ps n ks catG catG := by
  obtain ⟨oc, od, kV, doc, pm, an, cdv, ct, osl, rfl, lk, hcd⟩ := F.ex
  exact ⟨fun s us ws X l1 l2 => .of_eq (h kV doc pm an cdv ct us ws l1 l2), fun r1 r2 => r1.append r2⟩
/-! ### as callers see them -/
structure MetK (P : Program) (w : World) (K : PySem.W.Frag) (mg : Str → Option Value) (base : Heap) (k : Nat) (C : Addr) (m : Str) (sp : Sp) (n : Nat) (ks : List Str) (gV : List V → List V → List V) : Prop where
  ex : ∃ (f : Addr) (fd : FuncData) (ps : List Str) (g : List Value → List Value → List Value), Cls K C ∧ Meth K C m f ∧ FnOk P w K mg base CX0 k f fd ps sp ∧ KBn K fd ps n ks g gV
structure Pro (P : Program) (w : World) (K : PySem.W.Frag) (mg : Str → Option Value) (base : Heap) (k : Nat) (C : Addr) (x : Str) (sp : Sp) : Prop where
  ex : ∃ (p g : Addr) (fd : FuncData), Cls K C ∧ PropOf K C x p g ∧ FnOk P w K mg base CX0 k g fd ["self"] sp ∧ Binds K fd ["self"] []
/-- o.m(.., k = v, ..): n is one more than the values written -/
def tMethK (C : Addr) (m : Str) (sp : Sp) (n kn : Nat) (gV : List V → List V → List V) (ta : TE) (t tk : TA) : TE := fun σ H Q => ta σ H fun x H1 => ∃ a dx fs, x = .ref a ∧ H1 a = some (.ins C dx fs) ∧ fs.lookup m = none ∧ t σ H1 fun vs H2 => tk σ H2 fun zs H3 => vs.length + 1 = n ∧ zs.length = kn ∧ sp (gV (.ref a :: vs) zs) H3 Q E0
section
variable {X : Cx} {k j n : Nat} {C : Addr} {m x : Str} {ks : List Str} {sp : Sp} {pos apos : Pos} {e o : Expr} {es : List Expr} {kws : List Keyword} {ta : TE} {t tk : TA} {gV : List V → List V → List V}
theorem pe_mtK {pl : Sem Bool} (c : MetK X.prog X.w X.K X.mg X.base k C m sp n ks gV) (hr : Room j X.A) (hk : k ≤ j) (he : PE X o ta) (ha : PA X (e :: es) t) (hkw : PK X kws tk)
    (hall : (backToKw pos (keywordEach kws X.env)).all (·.1.isSome) = true := by rfl) (hks : (backToKw pos (keywordEach kws X.env)).filterMap (·.1) = ks := by rfl)
    (hst : starEach (e :: es) X.env = (false, eval e X.env) :: starEach es X.env := by rfl)
    (hpl : ((backTo pos (starEach (e :: es) X.env)).any (·.1) || (backToKw pos (keywordEach kws X.env)).any (·.1.isNone)) = false := by rfl)
    (ht : eval (.Call (.Attribute o m apos) (e :: es) kws pos) X.env = (do
      let ov ← eval o X.env
      standAt apos.atName
      let (f, first) ← holding [ov] (getMethod ov m pl)
      callWith pos f first (backTo pos (starEach (e :: es) X.env)) (backToKw pos (keywordEach kws X.env))) := by rfl) :
    PE X (.Call (.Attribute o m apos) (e :: es) kws pos) (tMethK C m sp n ks.length gV ta t tk) := by
  obtain ⟨f, fd, ps, g, hc, hm, F, b⟩ := c.ex
  refine ⟨fun pins s σ H Q I h => ?_⟩
  refine PySem.W.methodCall_KW (pl := pl) (thn (he.run pins s σ H _ I h) fun u s1 ⟨x, H1, I1, rx, a, dx, fs, ex, ea, l, q⟩ => ?_) ht
  subst ex
  obtain rfl : u = Value.ref a := rx
  refine getmeth_ok I1 ea hc hm l ?_
  refine PySem.W.callWith_KW (first := [.ref a]) (h₀ := X.base) I.ok.mod.kin hm.kp hall (thn (ha.run pos pins s1 σ H1 _ I1 q) fun us s2 ⟨vs, H2, I2, r, q2⟩ => ?_) hpl hst
  refine thn (hkw.run pos pins s2 σ H2 _ I2 q2) fun ws s3 ⟨zs, H3, I3, rz, l1, l2, q3⟩ => ⟨I3.kIn, ?_⟩
  rw [hks]
  exact run_fnN (us := .ref a :: us) (vs := .ref a :: vs) F (hr.mono hk) b pass0 I3 (.cons rfl r) rz l1 l2 q3
theorem pe_mtK0 {pl : Sem Bool} (c : MetK X.prog X.w X.K X.mg X.base k C m sp n ks gV) (hr : Room j X.A) (hk : k ≤ j) (he : PE X o ta) (hkw : PK X kws tk)
    (hall : (backToKw pos (keywordEach kws X.env)).all (·.1.isSome) = true := by rfl) (hks : (backToKw pos (keywordEach kws X.env)).filterMap (·.1) = ks := by rfl)
    (hpl : ((backTo pos (starEach [] X.env)).any (·.1) || (backToKw pos (keywordEach kws X.env)).any (·.1.isNone)) = false := by rfl)
    (ht : eval (.Call (.Attribute o m apos) [] kws pos) X.env = (do
      let ov ← eval o X.env
      standAt apos.atName
      let (f, first) ← holding [ov] (getMethod ov m pl)
      callWith pos f first (backTo pos (starEach [] X.env)) (backToKw pos (keywordEach kws X.env))) := by rfl) :
    PE X (.Call (.Attribute o m apos) [] kws pos) (tMethK C m sp n ks.length gV ta tNil tk) := by
  obtain ⟨f, fd, ps, g, hc, hm, F, b⟩ := c.ex
  refine ⟨fun pins s σ H Q I h => ?_⟩
  refine PySem.W.methodCall_KW (pl := pl) (thn (he.run pins s σ H _ I h) fun u s1 ⟨x, H1, I1, rx, a, dx, fs, ex, ea, l, q⟩ => ?_) ht
  subst ex
  obtain rfl : u = Value.ref a := rx
  refine getmeth_ok I1 ea hc hm l ?_
  refine PySem.W.callWith_KW0 (first := [.ref a]) (h₀ := X.base) I.ok.mod.kin hm.kp hall ?_ hpl
  refine thn (hkw.run pos pins s1 σ H1 _ I1 q) fun ws s3 ⟨zs, H3, I3, rz, l1, l2, q3⟩ => ⟨I3.kIn, ?_⟩
  rw [hks]
  exact run_fnN (us := [.ref a]) (vs := [.ref a]) F (hr.mono hk) b pass0 I3 (.cons rfl .nil) rz l1 l2 q3
theorem pe_pr (c : Pro X.prog X.w X.K X.mg X.base k C x sp) (hr : Room j X.A) (hk : k + 1 ≤ j) (he : PE X e ta) (hab : attributeBase e x X.env (eval e X.env) = eval e X.env := by rfl) : PE X (.Attribute e x pos) (tProp C sp [] E0 ta) := by
  obtain ⟨p, g, fd, hc, hp, F, b⟩ := c.ex
  exact pe_prop he hc hp F (hr.mono hk) b .nil pass0 hab
end
section
variable {P : Program} {w : World} {K : PySem.W.Frag} {mg : Str → Option Value} {base : Heap}
theorem metK_of {C : Addr} {x qual : Str} {st : Stmt} {ps ks N : List Str} {k n : Nat} {sp : Sp} (D : MethKE K C x qual st ps n ks) (c : Cls K C) (S : FnScope N ps (defScope st)) (len : ∀ vs H Q E, sp vs H Q E → vs.length = ps.length)
    (hbody : ∀ (f : Addr) (cdv : Value) (A : Around) (outer : List Env) (s : Shared) (H : Hp) (vs : List V) (Q : VK) (E : XK), Room k (A.deeper (envOfC qual (defScope st) s.heap.objs.size f cdv)) → sp vs H Q E →
      ∃ t, PSs (cxOf CX0 P w K mg base N qual (defScope st) f cdv A outer s H E).nox (defBody st) t ∧ t { nx := fun _ H' => Q .non H', rt := Q } (start N vs) H) : MetK P w K mg base (k + 1) C x sp n ks catG := by
  obtain ⟨f, fd, F, hm, b⟩ := D
  exact ⟨f, fd, ps, _, c, hm, F.ok S len (hbody f), b⟩
theorem pro_of {C : Addr} {x qual : Str} {st : Stmt} {N : List Str} {k : Nat} {sp : Sp} (D : PropE K C x qual st) (c : Cls K C) (S : FnScope N ["self"] (defScope st)) (len : ∀ vs H Q E, sp vs H Q E → vs.length = 1)
    (hbody : ∀ (f : Addr) (cdv : Value) (A : Around) (outer : List Env) (s : Shared) (H : Hp) (vs : List V) (Q : VK) (E : XK), Room k (A.deeper (envOfC qual (defScope st) s.heap.objs.size f cdv)) → sp vs H Q E →
      ∃ t, PSs (cxOf CX0 P w K mg base N qual (defScope st) f cdv A outer s H E).nox (defBody st) t ∧ t { nx := fun _ H' => Q .non H', rt := Q } (start N vs) H) : Pro P w K mg base (k + 1) C x sp := by
  obtain ⟨p, g, fd, hp, F, b⟩ := D
  exact ⟨p, g, fd, c, hp, F.ok S len (hbody g), b⟩
end
end VL

set_option Elab.async false
set_option linter.all false
set_option maxRecDepth 100000
set_option maxHeartbeats 4000000
namespace VL
open PySem PySem.Spec PyProof.Rows L2
/-! ### rules whose readings speak of K, with K told: within comprehensions and except suites -/
theorem u65 {A : Around} {k : Nat} (r : Room k A) : A.units + 65 < cLine := by have := r.un; omega
section
variable {X : Cx} {K : PySem.W.Frag} {e o : Expr} {f : Str} {pos : Pos} {ta : TE}
theorem pe_fldS (hK : X.K = K) (he : PE X e ta) (hb : attributeBase e f X.env (eval e X.env) = eval e X.env) : PE X (.Attribute e f pos) (tFld K ta f) := by subst hK; exact pe_fld he hb
theorem pe_conS (hK : X.K = K) (he : PE X e ta) (hb : attributeBase e f X.env (eval e X.env) = eval e X.env) : PE X (.Attribute e f pos) (tCon K ta f) := by subst hK; exact pe_con he hb
theorem pe_cvalS (hK : X.K = K) (he : PE X e ta) (hb : attributeBase e f X.env (eval e X.env) = eval e X.env := by rfl) : PE X (.Attribute e f pos) (ClX.tCVal K ta f) := by subst hK; exact ClX.pe_cval he hb
theorem ix_listS (hK : X.K = K) : IxR X (rIxL K) := by subst hK; exact ix_list
theorem ix_tupS (hK : X.K = K) : IxR X (rIxT K) := by subst hK; exact ix_tup
theorem sl_listS (hK : X.K = K) : SlR X (rSlL K) := by subst hK; exact sl_list
theorem sl_tupS (hK : X.K = K) : SlR X (rSlT K) := by subst hK; exact sl_tup
theorem op_in_seqS (hK : X.K = K) : OpR X (compareOp .In) (rIn K false) := by subst hK; exact op_in_seq
theorem op_notIn_seqS (hK : X.K = K) : OpR X (compareOp .NotIn) (rIn K true) := by subst hK; exact op_notIn_seq
theorem call_len_seqS (hK : X.K = K) : CallR X (.builtin "len") (fun xs H Q => ∃ p ys, xs = [.ref p] ∧ (SqL K H p ys ∨ SqT K H p ys) ∧ Q (.int ys.length) H) := by subst hK; exact call_len_seq
theorem call_list_ofS (hK : X.K = K) : CallR X (.type "list") (fun xs H Q => ∃ p ys, xs = [.ref p] ∧ (SqL K H p ys ∨ SqT K H p ys) ∧ ∀ l, H l = none → Q (.ref l) (upd H l (.lst ys))) := by subst hK; exact call_list_of
theorem call_isiS (hK : X.K = K) : CallR X (.builtin "isinstance") (rIsi K) := by subst hK; exact call_isi
theorem op_eqDS (hK : X.K = K) (hu : X.A.units + 64 < cLine) : OpR X (compareOp .Eq) (rEqD K) := by subst hK; exact op_eqD hu
theorem op_neDS (hK : X.K = K) (hu : X.A.units + 64 < cLine) : OpR X (compareOp .NotEq) (rNeD K) := by subst hK; exact op_neD hu
theorem cr_maxS (hK : X.K = K) (hc : X.calm = true) : CallR X (.builtin "max") (rMax K) := by subst hK; exact cr_max hc
theorem cr_minS (hK : X.K = K) (hc : X.calm = true) : CallR X (.builtin "min") (rMin K) := by subst hK; exact cr_min hc
theorem op_inDS (hK : X.K = K) (hu : X.A.units + 65 < cLine) : OpR X (compareOp .In) (rInD K) := by subst hK; exact op_inD hu
theorem pt_truthS (hK : X.K = K) (ha : PE X e ta) (he : ∀ whole, isTrue e X.env whole = (do let v ← whole; standAt e.pos; holding [v] (truthy v))) :
    PT X e (fun σ H Q => ta σ H fun x H' => ∃ k, TruV K x H' k ∧ Q k H') := by subst hK; exact pt_truth ha he
theorem pi_listS {tg : Expr} (hK : X.K = K) (hl : PE X e ta) : PI X tg e (iList K ta) := by subst hK; exact pi_list hl
theorem pi_tupS {tg : Expr} (hK : X.K = K) (hl : PE X e ta) : PI X tg e (iTup K ta) := by subst hK; exact pi_tup hl
theorem pg_tupS {es : List Expr} {k : Nat} {t : TGs} {n : Nat} (hK : X.K = K) (hc : X.calm = true) (h : PGs X es t)
    (hn : (assignEach es X.env).length = n := by rfl) (hst : (assignEach es X.env).findIdx? (·.1) = none := by rfl) : PG X (.Tuple es k pos) (gTup K n t) := by subst hK; exact pg_tup hc h hn hst
end
end VL

set_option Elab.async false
set_option linter.all false
set_option maxRecDepth 100000
set_option maxHeartbeats 4000000
namespace VL
open PySem PySem.Spec PyProof.Rows L2 NdefX

/-! ### an own exception's __init__ that begins with super().__init__(..), over ValueError -/
abbrev supBody (p0 p1 p2 p3 p4 : Pos) (es : List Expr) (rest : List Stmt) : List Stmt := .Expr (.Call (.Attribute (.Call (.Name "super" p0) [] [] p1) "__init__" p2) es [] p3) p4 :: rest
section
variable {CX : CXT} {P : Program} {w : World} {K : PySem.W.Frag} {mg : Str → Option Value} {base : Heap} {k : Nat} {f D cc cda : Addr} {name qual : Str} {params : Arguments} {es : List Expr} {ar : Arg} {rest : List Stmt} {p0 p1 p2 p3 p4 : Pos} {scope : Scope}
  {dV kV doc pm ct oc cl ccl : Value} {od cld cdd an : Option Addr} {osl csl ccs : Array (Option Value)} {vsC : Array Value} {file : Str} {tf : Tok} {cdD : ClassData} {N ps : List Str} {sp : Sp}
/-- what the written part says of it -/
structure SupK (P : Program) (K : PySem.W.Frag) (mg : Str → Option Value) (f D cc cda : Addr) (fd : FuncData) (qual : Str) : Prop where
  lk : ∃ oc od osl, K.lookup f = some ⟨oc, od, .func fd, osl⟩
  cd : PySem.W.codeIn K (.ref cda) qual = true
  cell : ∃ cl cld csl, K.lookup cc = some ⟨cl, cld, .cell (some (.ref D)), csl⟩
  code : ∃ ccl cdd vsC ccs file tf, K.lookup cda = some ⟨ccl, cdd, .fields vsC, ccs⟩ ∧ vsC[2]? = some (.str file tf) ∧ ((P.main.file : Str) == file) = true
  cls : ∃ cdD, PySem.W.clsIn K D = some cdD
  sub : PySem.W.mroIn K D (.ref D) = some true
  zsuper : mg "super" = none
  ops : PySem.W.nsIn K cStatics "thirdparty.any" = some none
  along : PySem.W.ks_superIn K D D "__init__" = some (some (.builtin "ValueError.__init__"))
  subV : PySem.W.subIn K (.ref D) (.type "ValueError") = some true
  top : (P.main.scope.names.lookup ("super" : Str)).isSome = false
theorem fn_sup {fd : FuncData} (T : SupK P K mg f D cc cda fd qual) (O : OexC K D) (efd : fd = PySem.W.fnX name qual params (supBody p0 p1 p2 p3 p4 es rest) scope [("__class__", cc)] dV kV doc pm an (.ref cda) ct)
    (S : NScope N ps ["__class__"] scope) (har : (params.posonlyargs ++ params.args).head? = some ar) (hps : ps.head? = some ar.arg) (hks : scope.names.lookup ("super" : Str) = some .globalImplicit)
    (hsw : ∀ env : Env, swapsWith (.Call (.Attribute (.Call (.Name "super" p0) [] [] p1) "__init__" p2) es [] p3) none p4.line env = pure false)
    (hst : ∀ env : Env, (backTo p3 (starEach es env)).any (·.1) = false)
    (hee : ∀ env : Env, ∃ x r, backTo p3 (starEach es env) = (false, x) :: r)
    {pl : Sem Bool} (hev : ∀ env : Env, eval (.Call (.Attribute (.Call (.Name "super" p0) [] [] p1) "__init__" p2) es [] p3) env = (do
      let ov ← attributeBase (.Call (.Name "super" p0) [] [] p1) "__init__" env (eval (.Call (.Name "super" p0) [] [] p1) env)
      standAt p2.atName
      let (g, first) ← holding [ov] (getMethod ov "__init__" pl)
      callWith p3 g first (backTo p3 (starEach es env)) []))
    (len : ∀ vs H Q E, sp vs H Q E → vs.length = ps.length)
    (hbody : ∀ (A : Around) (outer : List Env) (s : Shared) (H : Hp) (vs : List V) (Q : VK) (E : XK), Room k (A.deeper (envF ⟨name, qual, params, supBody p0 p1 p2 p3 p4 es rest, scope, [("__class__", cc)], cda⟩ f s.heap.objs.size)) → sp vs H Q E →
      ∃ ta tr, PA (ncx CX P w K mg base N ⟨name, qual, params, supBody p0 p1 p2 p3 p4 es rest, scope, [("__class__", cc)], cda⟩ f A outer s H E) es ta ∧
        PSs (ncx CX P w K mg base N ⟨name, qual, params, supBody p0 p1 p2 p3 p4 es rest, scope, [("__class__", cc)], cda⟩ f A outer s H E) rest tr ∧
        ∃ (a : Addr) (vs' : List V), vs = .ref a :: vs' ∧ H a = some (exo a D none) ∧
          ta (startF N vs [some (.ref D)]) H fun ws H1 => ws.length ≤ 1000 ∧ H1 a = some (exo a D none) ∧ tr { nx := fun _ H' => Q .non H', rt := Q } (startF N vs [some (.ref D)]) H1) :
    FnOk P w K mg base CX (k + 1) f fd ps sp := by
  subst efd
  obtain ⟨oc, od, osl, lk⟩ := T.lk
  obtain ⟨cl, cld, csl, hcell⟩ := T.cell
  obtain ⟨ccl, cdd, vsC, ccs, file, tf, hcode, hvs, hfile⟩ := T.code
  obtain ⟨cdD, hD⟩ := T.cls
  refine ⟨len, fun A outer s H args us vs Q E hr e0 hb r hsp => ?_⟩
  have hl := len _ _ _ _ hsp
  have KX : K.In s.heap := e0.mod.kin.keeps fun b o q => (e0.bs b o q).1
  have lim : s.heap.NoLimit := e0.mod.nolimit.keeps fun b o e => (e0.bs b o e).1
  have C : CellsAt [("__class__", cc)] ["__class__"] [some (.ref D)] s.heap H := by
    have one : ∀ y c, [(("__class__" : Str), cc)].lookup y = some c → y = "__class__" ∧ c = cc := fun y c e => by
      by_cases h : y = ("__class__" : Str)
      · subst h
        have e2 : [(("__class__" : Str), cc)].lookup ("__class__" : Str) = some cc := by simp [List.lookup]
        rw [e2] at e
        exact ⟨rfl, (Option.some.inj e).symm⟩
      · have q : (y == ("__class__" : Str)) = false := by simpa using h
        simp [List.lookup, q] at e
    have hc : ∃ v, s.heap.IsCell cc v := ⟨_, _, KX _ _ hcell, rfl⟩
    have hcH : H cc = none := (e0.bs cc _ (e0.mod.kin _ _ hcell)).2
    refine ⟨rfl, fun y c e => ?_, fun x y c e1 e2 => ?_, fun i y e => ?_⟩
    · obtain ⟨_, rfl⟩ := one y c e
      exact ⟨hcH, hc⟩
    · rw [(one _ _ e1).1, (one _ _ e2).1]
    · cases i with
      | zero =>
        injection e with e
        subst e
        refine ⟨cc, by simp [List.lookup], fun v ev => ?_⟩
        injection ev with ev
        injection ev with ev
        subst ev
        exact ⟨_, rfl, _, KX _ _ hcell, rfl⟩
      | succ i => cases i <;> cases e
  refine PySem.ks_codeAny_call_defAt (body := supBody p0 p1 p2 p3 p4 es rest) hr.depth (KX _ _ lk) rfl lim (PySem.W.codeRec_of KX T.cd) rfl hb S.nocell (fun ⟨n, _⟩ hy => S.par n (List.of_mem_zip hy).1) (fun h₁ hns kp => ?_) S.co S.gen S.kind
  obtain ⟨ta, tr, hA, hR, a, vs', ev, ha0, hq⟩ := hbody A outer s H vs Q E (hr.deeper _) hsp
  generalize hF : (⟨name, qual, params, supBody p0 p1 p2 p3 p4 es rest, scope, [("__class__", cc)], cda⟩ : NF) = F at hA hR
  have I : Inv (ncx CX P w K mg base N F f A outer s H E) [] (startF N vs [some (.ref D)]) H { s with heap := h₁, toks := s.toks + (ps.zip us).length } := by
    subst hF
    exact inv_startN S hr.hd e0 hl r C hns kp
  have eenv : callEnv (PySem.W.fnX name qual params (supBody p0 p1 p2 p3 p4 es rest) scope [("__class__", cc)] dV kV doc pm an (.ref cda) ct) s.heap.objs.size f = envF F f s.heap.objs.size := by
    subst hF
    rfl
  rw [eenv]
  have fin : ∀ {σ' : L2.St} {H' : Hp} {v : V} {u : Value} {s' : Shared}, Inv (ncx CX P w K mg base N F f A outer s H E) [] σ' H' s' → L2.RelV v u → Q v H' → CE outer P w H s Q u s' :=
    fun {σ' H' v u s'} J rv q => ⟨v, H', J.os, J.bare, J.base, J.hok, rv, q⟩
  refine PySem.ks_wpAt_mono (Q := SP (ncx CX P w K mg base N F f A outer s H E) [] { nx := fun _ H' => Q .non H', rt := Q }) (E := (ncx CX P w K mg base N F f A outer s H E).xe) ?go (fun fl s' hs => ?en) (fun _ _ x => x)
  case en =>
    cases fl with
    | ret u =>
      obtain ⟨v, σ', H', J, rv, q⟩ := hs
      exact fin J rv q
    | next =>
      obtain ⟨σ', H', J, q⟩ := hs
      exact fin (v := V.non) (u := Value.none) J rfl q
    | brk =>
      obtain ⟨_, _, _, q⟩ := hs
      exact False.elim q
    | cont =>
      obtain ⟨_, _, _, q⟩ := hs
      exact False.elim q
  have ekind : ∀ x, (envF F f s.heap.objs.size).kindOf x = scope.names.lookup x := by
    subst hF
    intro x
    rfl
  refine PySem.ks_wpAt_execs_cons (PySem.ks_wpAt_Expr_any (PySem.ks_wpAt_MethodCall (pl := pl) ?_ (hev _)) I.quiet (hsw _))
  refine PySem.ks_wpAt_super_base (env := envF F f s.heap.objs.size) ((ekind _).trans hks) ((ekind _).trans (S.frk _ List.mem_cons_self)) rfl rfl (kp _ _ (KX _ _ lk)) rfl har (by subst hF; rfl) (kp _ _ (KX _ _ hcode)) rfl hvs hfile T.top ?_
  have escope : (envF F f s.heap.objs.size).scope = scope := by subst hF; rfl
  have ecells : (envF F f s.heap.objs.size).cells = [(("__class__" : Str), cc)] := by subst hF; rfl
  obtain ⟨mb, b1, b2⟩ := e0.mod.blt
  have kb : ∀ b o, base.get? b = some o → h₁.get? b = some o := fun b o q => kp b o (e0.bs b o q).1
  have X₁ : K.In h₁ := KX.keeps kp
  have hgl := e0.mod.glob.keeps kb
  have hbl := b1.keeps kb
  refine PySem.W.ks_loadName_global (by rw [escope]; exact S.kind) ((ekind _).trans hks) (Calls.loadGlobal_builtin hgl T.zsuper hbl ((b2 _ (by decide +kernel)).trans Boot.«super») ⟨rfl, ?_⟩)
  refine wpAny_loadName_free (by rw [escope]; exact S.kind) ((ekind _).trans (S.frk _ List.mem_cons_self)) (c := cc) (v := .ref D) (by rw [ecells]; simp [List.lookup]) ⟨_, X₁ _ _ hcell, rfl⟩ ?_
  have hself : (ps.zip us).reverse.lookup ar.arg = some (.ref a) := by
    subst ev
    cases ps with
    | nil => cases hps
    | cons p ps' =>
      injection hps with hps
      subst hps
      cases r with
      | @cons _ u0 _ ur ra rw' =>
        obtain rfl : u0 = Value.ref a := ra
        have nd : (ar.arg :: ps').Nodup := by
          have q := S.nd.sublist (List.take_sublist ((ar.arg :: ps').length + [("__class__" : Str)].length) N)
          rw [S.pre] at q
          exact (List.nodup_append.mp q).1
        exact zip_look (i := 0) nd rfl rfl
  have hpar : scope.names.lookup ar.arg = some .local := by
    refine S.par _ ?_
    cases ps with
    | nil => cases hps
    | cons p ps' =>
      injection hps with hps
      subst hps
      exact List.mem_cons_self
  refine wpAny_loadName_local (by rw [escope]; exact S.kind) ((ekind _).trans hpar) hns hself ?_
  obtain ⟨oD, hD1, hD2⟩ : ∃ oD, h₁.get? D = some oD ∧ oD.data = .cls cdD := by
    have z := hD
    unfold PySem.W.clsIn at z
    split at z
    · rename_i ho
      cases z
      exact ⟨_, X₁ _ _ ho, rfl⟩
    · cases z
  refine PySem.ks_wpAny_isType_cls hD1 hD2 ⟨rfl, ?_⟩
  obtain ⟨t1, hoa⟩ := exo_at I.hok ha0
  refine PySem.ks_wpAny_call_super hD1 hD2 hoa rfl (fun c e => by cases e) (PySem.W.looks_mroIn X₁ T.sub) (fun h₂ e2 k2 => ?_)
  have I2 := I.kept (t' := s.toks + (ps.zip us).length) k2
  have X₂ : K.In h₂ := X₁.keeps k2
  have IA : PySem.W.InstAt h₂ a { cls := .ref D, dict := none, data := .fields #[.ref t1, .none, .none, .none, .bool false, .none] } D none := ⟨k2 _ _ hoa, rfl, rfl, trivial⟩
  have hal := T.along
  unfold PySem.W.ks_superIn at hal
  rw [hD] at hal
  have hmro : PySem.W.Looks (model P w) h₂ (mroOf (.ref D)) cdD.mro := fun A Q E s k q => wpAny_bind ((PySem.W.looks_clsIn X₂ hD) A _ E s k (wpAny_pure q))
  refine PySem.W.kxs_getMethod PySem.W.kxs_ValueError e2 (PySem.W.looks_opaque X₂ T.ops) hmro rfl X₂ hal (IA.type.andThen (PySem.W.looks_subIn X₂ T.subV)) (PySem.W.ks_ne X₂ IA hD) rfl ?_
  have kmw : ∀ b o, h₂.get? b = some o → (h₂.push (PySem.W.kxs_mw "ValueError.__init__" a)).get? b = some o := fun b o q => Heap.get?_push_of_some _ q
  have I3 : Inv (ncx CX P w K mg base N F f A outer s H E) [(h₂.objs.size, PySem.W.kxs_mw "ValueError.__init__" a)] (startF N vs [some (.ref D)]) H { s with heap := h₂.push (PySem.W.kxs_mw "ValueError.__init__" a), toks := s.toks + (ps.zip us).length + 1 } := by
    refine (I2.kept (t' := s.toks + (ps.zip us).length + 1) kmw).pins_of fun p hp => ?_
    rw [List.mem_singleton.mp hp]
    exact ⟨Heap.get?_push_at rfl rfl, I2.hok.fresh (Nat.le_refl _), Nat.ne_of_gt I2.lt, I2.nofs (Nat.le_refl _), fun v e => by cases e⟩
  refine PySem.W.kxs_callWith (i := "ValueError.__init__") (x := a) (hst _) ?_
  obtain ⟨x0, r0, hx⟩ := hee (envF F f s.heap.objs.size)
  rw [hx]
  refine Calls.evalArgs_plain ?_
  rw [← hx]
  refine thn (hA.run p3 _ _ _ H _ I3 hq) (fun us1 s4 ⟨ws, H1, I4, r1, hz, ha1, hrest⟩ => ⟨(I4.pin (h₂.objs.size, PySem.W.kxs_mw "ValueError.__init__" a) (List.mem_append_right _ List.mem_cons_self)).1, ?_⟩)
  have hu := (I4.pin (h₂.objs.size, PySem.W.kxs_mw "ValueError.__init__" a) (List.mem_append_right _ List.mem_cons_self)).1
  have I5 : Inv (ncx CX P w K mg base N F f A outer s H E) [] (startF N vs [some (.ref D)]) H1 s4 := I4.pins_of fun p hp => by cases hp
  obtain ⟨nm, q, Nn, bs, bm, sn, sub, ab, col, dd, k0, k1, k2', k3, k5, hC, hbm⟩ := O.cls
  obtain ⟨t2, ho⟩ := exo_at I5.hok ha1
  have hus : us1.length ≤ sizeLine := by
    rw [← Paired.length r1]
    exact Nat.le_trans hz (by decide)
  have kin4 := I5.kIn
  obtain ⟨hp, g, d, tk, os⟩ := s4
  refine wpAny_call (codeAny_of_tree ?_)
  show wpAny _ (A.deeper (envF F f s.heap.objs.size)).in1 (callAny (.ref h₂.objs.size) ⟨us1, []⟩) _ _ _
  simp only [callAny]
  refine wpAny_bind (wpAny_load hu ?_)
  simp only [PySem.W.kxs_mw, show (Value.type "method-wrapper" == Value.type "method" || Value.type "method-wrapper" == Value.type "builtin_function_or_method" || Value.type "method-wrapper" == Value.type "method-wrapper") = true by decide, if_true]
  refine PySem.W.KFB.if_so (by decide) ?_
  refine wpAny_bind (PySem.W.check_bound_init PySem.F.excBase_ValueError.toExcCallFacts (kin4 _ _ hC) ho rfl ?_)
  refine wpAny_bind (wpAny_pure (wpAny_pure ?_))
  refine ⟨plainId_quiet PySem.F.excBase_ValueError.init.plain _, codeAny_builtin PySem.F.excBase_ValueError.initEntry ?_⟩
  refine PySem.W.exc_init_tree (cls := .ref D) (t0 := t2) (dv := none) (c2 := .none) (c3 := .none) (b4 := .bool false) ho hus fun h' kk e' _ => ?_
  have J := I5.write (t' := tk) (x := a) (e := a) (o := exo a D none) (by rw [ha1]; exact True.intro) (.inl rfl) kk ⟨_, e'⟩ (exo_ok e')
  have eu : upd H1 a (exo a D none) = H1 := by
    funext b
    by_cases hb : b = a
    · rw [hb, upd_same, ha1]
    · rw [upd_ne hb]
  rw [eu] at J
  exact wpAt_of_wpAny (hR.run [] _ _ H1 _ J hrest)
end
end VL

set_option Elab.async false
set_option linter.all false
set_option maxRecDepth 100000
set_option maxHeartbeats 4000000
namespace VL
open PySem PySem.Spec PyProof.Rows L2 NdefX

/-! ### isinstance of a caught error that has a dict -/
theorem call_isED {X : Cx} {a D : Addr} {oe : Obj} {cls : Value} {d : Option Addr} {pn : List (Addr × Obj)} (C : ExcC X.K D) (hz : Zc cls d oe) (hf : ∃ vs, oe.data = .fields vs) :
    CallR (X.suite a ((a, oe) :: pn)) (.builtin "isinstance") (fun xs H Q => cls = .ref D ∧ ∃ (dd : Addr) (fs : List (Str × V)) (c : V) (cv : Value) (b : Bool), d = some dd ∧ H dd = some (.xd fs) ∧ xs = [.ref a, c] ∧ (∀ u, RelV c u → u = cv) ∧ PySem.W.kitOne X.K (.ref D) cv = some b ∧ Q (.bl b) H) := by
  intro pins s σ H xs us Q I r h
  obtain ⟨ec, dd, fs, c, cv, b, ed, ea, ex, hcv, e, q⟩ := h
  subst ec ed ex
  cases r with
  | cons rx rr =>
    cases rr with
    | cons rt rr =>
      cases rr
      cases rx
      obtain rfl := hcv _ rt
      have hp := (I.pin (a, oe) (List.mem_append_left _ List.mem_cons_self)).1
      obtain ⟨vs, hv⟩ := hf
      have hx : ObjOk X.prog X.w H s.heap dd (.xd fs) := I.hok dd _ ea
      obtain ⟨mA, hns, _⟩ := hx
      obtain ⟨od, ho, _⟩ := lookIn_ns hns
      have J : PySem.W.InstAt s.heap a oe D (some od) := ⟨hp, hz.1, by unfold PySem.W.notCls; rw [hv] <;> rfl, by rw [hz.2]; exact ho⟩
      have hcl : (PySem.W.clsIn X.K D).isSome = true := by
        obtain ⟨cd, hc, _⟩ := PySem.W.any_some C.hd
        rw [hc]
        rfl
      exact PySem.W.kia_one (PySem.W.kitx_exc (ox := oe) (od := some od) hcl C.hg C.hk C.hs C.ha C.hn C.ht C.hm) I.kIn J e (fun z => nomatch z) fun tk => ⟨.bl b, H, I.kept (t' := tk) fun _ _ z => z, rfl, q⟩
end VL

set_option Elab.async false
set_option linter.all false
set_option maxRecDepth 100000
set_option maxHeartbeats 4000000
namespace VL
open PySem PySem.Spec PyProof.Rows L2 NdefX
/-! ### what a law's text says of an own exception class with its own __init__ -/
abbrev exFd (qual : Str) (st : Stmt) (cc cda : Addr) (kV doc pm : Value) (an : Option Addr) (ct : Value) : FuncData := PySem.W.fnX "__init__" qual (defArgs st) (defBody st) (defScope st) [("__class__", cc)] .none kV doc pm an (.ref cda) ct
structure ExI (P : Program) (K : PySem.W.Frag) (mg : Str → Option Value) (name qual : Str) (D : Addr) (st : Stmt) (ps attrs : List Str) : Prop where
  init : ∃ (fI cc cda : Addr) (kV doc pm ct : Value) (an : Option Addr), SupK P K mg fI D cc cda (exFd qual st cc cda kV doc pm an ct) qual ∧ PySem.W.findIn K (.ref D) "__init__" = some (some (.ref fI)) ∧ PySem.W.typeIn K (.ref fI) = some (.type "function") ∧
    Binds K (exFd qual st cc cda kV doc pm an ct) ps []
  o : OexC K D
  na : ∀ a ∈ attrs, PySem.W.findIn K (.ref D) a = some none
  g : mg name = some (.ref D)
  exm : PySem.W.exmOne K (.ref D) (.ref D) = some true
  xf : XfC K D
  ec : ExcC K D
end VL

set_option Elab.async false
set_option linter.all false
set_option maxRecDepth 100000
set_option maxHeartbeats 4000000
namespace VL
open PySem PySem.Spec PyProof.Rows L2

/-! ### defs and methods that may raise -/
structure CalX (P : Program) (w : World) (K : PySem.W.Frag) (mg : Str → Option Value) (base : Heap) (k : Nat) (x : Str) (sp : Sp) : Prop where
  ex : ∃ (f : Addr) (fd : FuncData) (ps : List Str), FnOk P w K mg base (L2.CX P w) k f fd ps sp ∧ mg x = some (.ref f) ∧ PySem.W.keepIn K (.ref f) = true ∧ Binds K fd ps []
structure MetX (P : Program) (w : World) (K : PySem.W.Frag) (mg : Str → Option Value) (base : Heap) (k : Nat) (C : Addr) (m : Str) (sp : Sp) : Prop where
  ex : ∃ (f : Addr) (fd : FuncData) (ps : List Str), Cls K C ∧ Meth K C m f ∧ FnOk P w K mg base (L2.CX P w) k f fd ps sp ∧ Binds K fd ps []
structure MakX (P : Program) (w : World) (K : PySem.W.Frag) (mg : Str → Option Value) (base : Heap) (k : Nat) (x : Str) (C : Addr) (sp : Sp) : Prop where
  ex : ∃ (f : Addr) (fd : FuncData) (ps : List Str), Mk K C f ∧ FnOk P w K mg base (L2.CX P w) k f fd ps sp ∧ mg x = some (.ref C) ∧ Binds K fd ps []
section
variable {X : Cx} {k j : Nat} {C : Addr} {x m : Str} {sp : Sp} {E : XK} {p pos apos : Pos} {e o : Expr} {es : List Expr} {ta : TE} {t : TA}
theorem pe_cX (hx : Passes (L2.CX X.prog X.w) X E) (c : CalX X.prog X.w X.K X.mg X.base k x sp) (hr : Room j X.A) (hk : k ≤ j) (hg : Gl X x) (ha : PA X (e :: es) t)
    (hdb : (x == ("__debug__" : Str)) = false := by decide) (he : starEach (e :: es) X.env = (false, eval e X.env) :: starEach es X.env := by rfl) (hpl : (backTo pos (starEach es X.env)).any (·.1) = false := by rfl) :
    PE X (.Call (.Name x p) (e :: es) [] pos) (tCall sp [] E t) := by
  obtain ⟨f, fd, ps, F, hm, kp, b⟩ := c.ex
  exact pe_call F (hr.mono hk) hg hm kp b .nil hx ha hdb he hpl
theorem pe_mkX (hx : Passes (L2.CX X.prog X.w) X E) (c : MakX X.prog X.w X.K X.mg X.base k x C sp) (hr : Room j X.A) (hk : k + 1 ≤ j) (hg : Gl X x) (ha : PA X (e :: es) t)
    (hdb : (x == ("__debug__" : Str)) = false := by decide) (he : starEach (e :: es) X.env = (false, eval e X.env) :: starEach es X.env := by rfl) (hpl : (backTo pos (starEach es X.env)).any (·.1) = false := by rfl) :
    PE X (.Call (.Name x p) (e :: es) [] pos) (tMake C sp [] E t) := by
  obtain ⟨f, fd, ps, M, F, hm, b⟩ := c.ex
  exact pe_make M F (hr.mono hk) hg hm b .nil hx ha hdb he hpl
theorem pe_mtX {pl : Sem Bool} (hx : Passes (L2.CX X.prog X.w) X E) (c : MetX X.prog X.w X.K X.mg X.base k C m sp) (hr : Room j X.A) (hk : k ≤ j) (he : PE X o ta) (ha : PA X (e :: es) t)
    (hst : starEach (e :: es) X.env = (false, eval e X.env) :: starEach es X.env := by rfl) (hpl : (backTo pos (starEach es X.env)).any (·.1) = false := by rfl)
    (ht : eval (.Call (.Attribute o m apos) (e :: es) [] pos) X.env = (do
      let ov ← eval o X.env
      standAt apos.atName
      let (f, first) ← holding [ov] (getMethod ov m pl)
      callWith pos f first (backTo pos (starEach (e :: es) X.env)) (backToKw pos (keywordEach [] X.env))) := by rfl) :
    PE X (.Call (.Attribute o m apos) (e :: es) [] pos) (tMeth C m sp [] E ta t) := by
  obtain ⟨f, fd, ps, hc, hm, F, b⟩ := c.ex
  exact pe_meth (pl := pl) he hc hm F (hr.mono hk) b .nil hx ha hst hpl ht
theorem pe_mtX0 {pl : Sem Bool} (hx : Passes (L2.CX X.prog X.w) X E) (c : MetX X.prog X.w X.K X.mg X.base k C m sp) (hr : Room j X.A) (hk : k ≤ j) (he : PE X o ta)
    (ht : eval (.Call (.Attribute o m apos) [] [] pos) X.env = (do
      let ov ← eval o X.env
      standAt apos.atName
      let (f, first) ← holding [ov] (getMethod ov m pl)
      callWith pos f first (backTo pos (starEach [] X.env)) (backToKw pos (keywordEach [] X.env))) := by rfl) :
    PE X (.Call (.Attribute o m apos) [] [] pos) (tMeth C m sp [] E ta tNil) := by
  obtain ⟨f, fd, ps, hc, hm, F, b⟩ := c.ex
  exact pe_meth0 (pl := pl) he hc hm F (hr.mono hk) b .nil hx ht
end
section
variable {P : Program} {w : World} {K : PySem.W.Frag} {mg : Str → Option Value} {base : Heap}
theorem okX_of {x qual : Str} {st : Stmt} {ps N : List Str} {f : Addr} {fd : FuncData} {k : Nat} {sp : Sp} (F : Fun K x qual st f fd) (S : FnScope N ps (defScope st)) (len : ∀ vs H Q E, sp vs H Q E → vs.length = ps.length)
    (hbody : ∀ (f : Addr) (cdv : Value) (A : Around) (outer : List Env) (s : Shared) (H : Hp) (vs : List V) (Q : VK) (E : XK), Room k (A.deeper (envOfC qual (defScope st) s.heap.objs.size f cdv)) → sp vs H Q E →
      ∃ t, PSs (cxOf (L2.CX P w) P w K mg base N qual (defScope st) f cdv A outer s H E) (defBody st) t ∧ t { nx := fun _ H' => Q .non H', rt := Q } (start N vs) H) : FnOk P w K mg base (L2.CX P w) (k + 1) f fd ps sp :=
  F.okX S len (hbody f)
theorem calX_of {x : Str} {st : Stmt} {ps N : List Str} {k : Nat} {sp : Sp} (D : DefE K mg x st ps) (S : FnScope N ps (defScope st)) (len : ∀ vs H Q E, sp vs H Q E → vs.length = ps.length)
    (hbody : ∀ (f : Addr) (cdv : Value) (A : Around) (outer : List Env) (s : Shared) (H : Hp) (vs : List V) (Q : VK) (E : XK), Room k (A.deeper (envOfC x (defScope st) s.heap.objs.size f cdv)) → sp vs H Q E →
      ∃ t, PSs (cxOf (L2.CX P w) P w K mg base N x (defScope st) f cdv A outer s H E) (defBody st) t ∧ t { nx := fun _ H' => Q .non H', rt := Q } (start N vs) H) : CalX P w K mg base (k + 1) x sp := by
  obtain ⟨f, fd, F, hm, b⟩ := D
  exact ⟨f, fd, ps, okX_of F S len hbody, hm, F.kp, b⟩
theorem metX_of {C : Addr} {x qual : Str} {st : Stmt} {ps N : List Str} {k : Nat} {sp : Sp} (D : MethE K C x qual st ps) (c : Cls K C) (S : FnScope N ps (defScope st)) (len : ∀ vs H Q E, sp vs H Q E → vs.length = ps.length)
    (hbody : ∀ (f : Addr) (cdv : Value) (A : Around) (outer : List Env) (s : Shared) (H : Hp) (vs : List V) (Q : VK) (E : XK), Room k (A.deeper (envOfC qual (defScope st) s.heap.objs.size f cdv)) → sp vs H Q E →
      ∃ t, PSs (cxOf (L2.CX P w) P w K mg base N qual (defScope st) f cdv A outer s H E) (defBody st) t ∧ t { nx := fun _ H' => Q .non H', rt := Q } (start N vs) H) : MetX P w K mg base (k + 1) C x sp := by
  obtain ⟨f, fd, F, hm, b⟩ := D
  exact ⟨f, fd, ps, c, hm, okX_of F S len hbody, b⟩
theorem makX_of {C : Addr} {cn qual : Str} {st : Stmt} {ps N : List Str} {k : Nat} {sp : Sp} (D : InitE K mg cn C qual st ps) (S : FnScope N ps (defScope st)) (len : ∀ vs H Q E, sp vs H Q E → vs.length = ps.length)
    (hbody : ∀ (f : Addr) (cdv : Value) (A : Around) (outer : List Env) (s : Shared) (H : Hp) (vs : List V) (Q : VK) (E : XK), Room k (A.deeper (envOfC qual (defScope st) s.heap.objs.size f cdv)) → sp vs H Q E →
      ∃ t, PSs (cxOf (L2.CX P w) P w K mg base N qual (defScope st) f cdv A outer s H E) (defBody st) t ∧ t { nx := fun _ H' => Q .non H', rt := Q } (start N vs) H) : MakX P w K mg base (k + 1) cn C sp := by
  obtain ⟨f, fd, F, M, hm, b⟩ := D
  exact ⟨f, fd, ps, M, okX_of F S len hbody, hm, b⟩
end
/-- what leaves a def that may raise -/
abbrev thruX {P : Program} {w : World} {K : PySem.W.Frag} {mg : Str → Option Value} {base : Heap} {N : List Str} {qual : Str} {scope : Scope} {f : Addr} {cdv : Value} {A : Around} {outer : List Env} {s : Shared} {H : Hp} {E : XK} :
    Passes (L2.CX P w) (cxOf (L2.CX P w) P w K mg base N qual scope f cdv A outer s H E) E := passes_call (W := fun cls d _ H => E cls d H) (takes_of rfl rfl rfl rfl) fun _ _ _ _ h => h
abbrev takeX {P : Program} {w : World} {K : PySem.W.Frag} {mg : Str → Option Value} {base : Heap} {N : List Str} {qual : Str} {scope : Scope} {f : Addr} {cdv : Value} {A : Around} {outer : List Env} {s : Shared} {H : Hp} {E : XK} :
    Takes (cxOf (L2.CX P w) P w K mg base N qual scope f cdv A outer s H E) (fun cls d _ H => E cls d H) := takes_of rfl rfl rfl rfl
end VL

set_option Elab.async false
set_option linter.all false
set_option maxRecDepth 100000
set_option maxHeartbeats 4000000
namespace VL
open PySem PySem.Spec PyProof.Rows L2
/-! ### isinstance of a caught own error without a dict, whatever was caught; a call in a try's body -/
theorem call_isEN {X : Cx} {a D : Addr} {oe : Obj} {cls : Value} {d : Option Addr} {pn : List (Addr × Obj)} (C : ExcC X.K D) (hz : Zc cls d oe) (hf : ∃ vs, oe.data = .fields vs) :
    CallR (X.suite a ((a, oe) :: pn)) (.builtin "isinstance") (fun xs H Q => cls = .ref D ∧ d = none ∧ ∃ (c : V) (cv : Value) (b : Bool), xs = [.ref a, c] ∧ (∀ u, RelV c u → u = cv) ∧ PySem.W.kitOne X.K (.ref D) cv = some b ∧ Q (.bl b) H) := by
  intro pins s σ H xs us Q I r h
  obtain ⟨ec, ed, h⟩ := h
  subst ec ed
  exact call_isE C hz hf pins s σ H xs us Q I r h
section
variable {X : Cx} {k j : Nat} {x : Str} {sp : Sp} {E : L2.St → XK} {p pos : Pos} {e : Expr} {es : List Expr} {t : TA}
theorem pe_cXS (c : CalX X.prog X.w X.K X.mg X.base k x sp) (hr : Room j X.A) (hk : k ≤ j) (hg : Gl X x) (hx : ∀ σ, PassesAt (L2.CX X.prog X.w) X σ (E σ)) (ha : PA X (e :: es) t)
    (hdb : (x == ("__debug__" : Str)) = false := by decide) (he : starEach (e :: es) X.env = (false, eval e X.env) :: starEach es X.env := by rfl) (hpl : (backTo pos (starEach es X.env)).any (·.1) = false := by rfl) :
    PE X (.Call (.Name x p) (e :: es) [] pos) (tCallS sp E t) := by
  obtain ⟨f, fd, ps, F, hm, kp, b⟩ := c.ex
  exact pe_callS F (hr.mono hk) hg hm kp b hx ha hdb he hpl
end
end VL

set_option Elab.async false
set_option linter.all false
set_option maxRecDepth 100000
set_option maxHeartbeats 4000000
namespace VL
open PySem PySem.Spec PyProof.Rows L2

/-! ### x is True, x is False: whatever x is -/
theorem op_isBl {X : Cx} : OpR X (compareOp .Is) (fun x y H Q => ∃ b, y = .bl b ∧ Q (.bl (decide (x = .bl b))) H) := by
  intro pins s σ H x y v u Q I rx ry h
  obtain ⟨b, rfl, q⟩ := h
  cases (show u = Value.bool b from ry)
  have same : v = Value.bool b → x = .bl b → wpAny (model X.prog X.w) X.A (compareOp .Is v (.bool b)) (EP X pins σ Q) X.xe s := fun e1 e2 => by
    subst e1
    refine wpAny_is_self rfl ⟨.bl true, H, I, rfl, ?_⟩
    rw [decide_eq_true e2] at q
    exact q
  have diff : v ≠ Value.bool b → x ≠ .bl b → plainIs v (.bool b) = true → (v == Value.bool b) = false → wpAny (model X.prog X.w) X.A (compareOp .Is v (.bool b)) (EP X pins σ Q) X.xe s := fun e1 e2 e3 e4 => by
    rw [decide_eq_false e2] at q
    show wpAny _ _ ((isSame v (Value.bool b)) >>= fun z => pure (Value.bool z)) _ _ s
    exact wpAny_bind (wpAny_isSame_plain e3 (by rw [e4]; exact wpAny_pure ⟨.bl false, H, I, rfl, q⟩))
  cases x with
  | ref a => cases rx; exact diff (fun h => nomatch h) (fun h => nomatch h) rfl rfl
  | non => cases rx; exact diff (fun h => nomatch h) (fun h => nomatch h) rfl rfl
  | bl c =>
    cases (show v = Value.bool c from rx)
    by_cases e : c = b
    · subst e
      exact same rfl rfl
    · exact diff (fun h => e (by injection h)) (fun h => e (by injection h)) rfl (by cases c <;> cases b <;> first | rfl | exact absurd rfl e)
  | int i => obtain ⟨t, rfl⟩ := rx; exact diff (fun h => nomatch h) (fun h => nomatch h) rfl rfl
  | str x => obtain ⟨t, rfl⟩ := rx; exact diff (fun h => nomatch h) (fun h => nomatch h) rfl rfl
  | byt x => obtain ⟨t, rfl⟩ := rx; exact diff (fun h => nomatch h) (fun h => nomatch h) rfl rfl
  | flt x => obtain ⟨t, rfl⟩ := rx; exact diff (fun h => nomatch h) (fun h => nomatch h) rfl rfl
  | ty n => cases rx; exact diff (fun h => nomatch h) (fun h => nomatch h) rfl rfl

/-! ### a dict of the module whose keys are texts: what is not in it -/
def keysT (es : Array DictEntry) : List Str := es.toList.map fun e => match e.key with | .str x _ => x | _ => Str.empty
structure KdT (K : PySem.W.Frag) (w : World) (d : Addr) (es : Array DictEntry) (n : Nat) (ks : List Str) : Prop where
  kd : KDict K w d es n
  keys : keysT es = ks
theorem KdT.none {K : PySem.W.Frag} {w : World} {d : Addr} {es : Array DictEntry} {n : Nat} {ks : List Str} (D : KdT K w d es n ks) {z : Str} (h : z ∉ ks) : PySem.W.nsIn K d z = some Option.none := by
  have lit := D.kd.lit
  have keys := D.keys
  unfold PySem.W.nsIn
  rw [D.kd.at_]
  have key : ∀ l : List DictEntry, PySem.W.KeysLit w.params l → (∀ e ∈ l, ∀ x t, e.key = .str x t → x ≠ z) → l.find? (·.key.isStr z) = Option.none ∧ l.any (·.refKey) = false := by
    intro l
    induction l with
    | nil => intro _ _; exact ⟨rfl, rfl⟩
    | cons e l ih =>
      intro hl hz
      obtain ⟨⟨x, t, hk, _⟩, hl⟩ := hl
      obtain ⟨h1, h2⟩ := ih hl fun e he => hz e (List.mem_cons_of_mem _ he)
      have hx := hz e List.mem_cons_self x t hk
      have e1 : e.key.isStr z = false := by
        rw [hk, PySem.W.isStr_of]
        simpa [Value.isStrOf] using hx
      have e2 : e.refKey = false := by
        unfold DictEntry.refKey
        rw [hk]
      refine ⟨?_, ?_⟩
      · rw [List.find?_cons_of_neg (by rw [e1]; decide)]
        exact h1
      · rw [List.any_cons, e2, h2]
        rfl
  have hne : ∀ e ∈ es.toList, ∀ x t, e.key = .str x t → x ≠ z := fun e he x t hk hx => h (by
    rw [← keys]
    unfold keysT
    refine List.mem_map.mpr ⟨e, he, ?_⟩
    rw [hk]
    exact hx)
  obtain ⟨h1, h2⟩ := key es.toList lit hne
  simp only [h1, h2]
  rfl

/-! ### a method that may raise, called in a try's body -/
def tMethS (C : Addr) (m : Str) (sp : Sp) (E : L2.St → XK) (ta : TE) (t : TA) : TE := fun σ H Q => ta σ H fun x H1 => ∃ a dx fs, x = .ref a ∧ H1 a = some (.ins C dx fs) ∧ fs.lookup m = none ∧ t σ H1 fun vs H2 => sp (x :: vs) H2 Q (E σ)
section
variable {X : Cx} {k j : Nat} {C : Addr} {m : Str} {sp : Sp} {E : L2.St → XK} {pos apos : Pos} {e o : Expr} {es : List Expr} {ta : TE} {t : TA}
theorem pe_mtXS {pl : Sem Bool} (c : MetX X.prog X.w X.K X.mg X.base k C m sp) (hr : Room j X.A) (hk : k ≤ j) (hx : ∀ σ, PassesAt (L2.CX X.prog X.w) X σ (E σ)) (he : PE X o ta) (ha : PA X (e :: es) t)
    (hst : starEach (e :: es) X.env = (false, eval e X.env) :: starEach es X.env := by rfl) (hpl : (backTo pos (starEach es X.env)).any (·.1) = false := by rfl)
    (ht : eval (.Call (.Attribute o m apos) (e :: es) [] pos) X.env = (do
      let ov ← eval o X.env
      standAt apos.atName
      let (f, first) ← holding [ov] (getMethod ov m pl)
      callWith pos f first (backTo pos (starEach (e :: es) X.env)) (backToKw pos (keywordEach [] X.env))) := by rfl) :
    PE X (.Call (.Attribute o m apos) (e :: es) [] pos) (tMethS C m sp E ta t) := by
  obtain ⟨f, fd, ps, hc, hm, F, b⟩ := c.ex
  refine ⟨fun pins s σ H Q I h => PySem.W.methodCall_KW (pl := pl) (thn (he.run pins s σ H _ I h) fun u s1 z => ?_) ht⟩
  obtain ⟨x, H1, I1, rx, a, dx, fs, ex, ea, l, q⟩ := z
  subst ex
  cases (show u = Value.ref a from rx)
  refine getmeth_ok I1 ea hc hm l (PySem.W.callWith_K (first := [.ref a]) (h₀ := X.base) I.ok.mod.kin hm.kp (thn (ha.run pos pins s1 σ H1 _ I1 q) fun us s2 z => ?_) hst hpl)
  obtain ⟨vs, H2, I2, r, q2⟩ := z
  exact ⟨I2.kIn, run_fnS (us := .ref a :: us) (vs := .ref a :: vs) F (hr.mono hk) b (hx σ) I2 (.cons rfl r) q2⟩
end
end VL

set_option Elab.async false
set_option linter.all false
set_option maxRecDepth 100000
set_option maxHeartbeats 4000000
namespace VL
open PySem PySem.Spec PyProof.Rows L2 L2H

/-- an unreachable rest -/
theorem pss_dead {X : Cx} {sts : List Stmt} : PSs X sts (fun _ _ _ => False) := ⟨fun _ _ _ _ _ _ z => z.elim⟩

/-! ### a def that raises nothing, called while an error is handled, whatever its context -/
abbrev cxQ (P : Program) (w : World) (K : PySem.W.Frag) (mg : Str → Option Value) (base : Heap) (N : List Str) (qual : Str) (sc : Scope) (f : Addr) (cd : Value) (A : Around) (outer : List Env) (s : Shared) (H : Hp) (p : Addr × Obj) : Cx := cxH CX0 P w K mg base N qual sc f cd A outer s H E0 p
structure CalQ (P : Program) (w : World) (K : PySem.W.Frag) (mg : Str → Option Value) (base : Heap) (k : Nat) (x : Str) (sp : Sp) : Prop where
  ex : ∃ (f : Addr) (fd : FuncData) (ps : List Str), (∀ vs H Q E, sp vs H Q E → vs.length = ps.length) ∧ mg x = some (.ref f) ∧ PySem.W.keepIn K (.ref f) = true ∧ Binds K fd ps [] ∧
    ∀ (A : Around) (outer : List Env) (s : Shared) (H : Hp) (args : Args) (us : List Value) (vs : List V) (Q : VK) (p : Addr × Obj), RoomH k A → PinOk outer H s p → Env0 P w K mg base A outer s H → BindsTo s fd args (ps.zip us) → Vals vs us → sp vs H Q E0 →
      codeAny (model P w) A (.call (.ref f) args) (CR CX0 outer P w H s Q E0) s
section
variable {P : Program} {w : World} {K : PySem.W.Frag} {mg : Str → Option Value} {base : Heap}
theorem calQ_of {x : Str} {st : Stmt} {ps N : List Str} {k : Nat} {sp : Sp} (D : DefE K mg x st ps) (S : FnScope N ps (defScope st)) (len : ∀ vs H Q E, sp vs H Q E → vs.length = ps.length)
    (hbody : ∀ (f : Addr) (cdv : Value) (A : Around) (outer : List Env) (s : Shared) (H : Hp) (vs : List V) (Q : VK) (p : Addr × Obj), RoomH k (A.deeper (envOfC x (defScope st) s.heap.objs.size f cdv)) → sp vs H Q E0 →
      ∃ t, PSs (cxQ P w K mg base N x (defScope st) f cdv A outer s H p) (defBody st) t ∧ t { nx := fun _ H' => Q .non H', rt := Q } (L2.start N vs) H) : CalQ P w K mg base (k + 1) x sp := by
  obtain ⟨f, fd, F, hm, hbs⟩ := D
  have F0 := F
  obtain ⟨oc, od, kV, doc, pm, an, cdv, ct, osl, efd, lk, hcd⟩ := F.ex
  subst efd
  refine ⟨f, _, ps, len, hm, F0.kp, hbs, fun A outer s H args us vs Q p hr hpin e0 hb rv hsp => ?_⟩
  have hlen := len _ _ _ _ hsp
  have hK : K.In s.heap := e0.mod.kin.keeps fun b o z => (e0.bs b o z).1
  have hNo : s.heap.NoLimit := e0.mod.nolimit.keeps fun b o z => (e0.bs b o z).1
  refine codeAny_call_function hr.depth (hK _ _ lk) rfl S.co S.gen rfl (PySem.W.codeRec_of hK hcd) (hb _ _ _ _ ?_)
  refine wpAny_newFunctionEnv_cells S.kind (fun ⟨n, u⟩ hy => ?_) fun env he s1 z => ?_
  · exact (S.par n (List.of_mem_zip hy).1).imp id fun q => ⟨q, PySem.W.cellsFrom_some _ _ _ (.inl q)⟩
  subst he
  refine ⟨hNo.keeps z.toInCall.keep, codeAny_func ?_⟩
  obtain ⟨t, ht, hq⟩ := hbody f cdv A outer s H vs Q p (hr.deeper _) hsp
  have J : Inv (cxQ P w K mg base N x (defScope st) f cdv A outer s H p) [] (L2.start N vs) H s1 := inv_startH S hpin e0 hlen rv z
  have out : ∀ {σ' : L2.St} {H' : Hp} {v : V} {u : Value} {s' : Shared}, Inv (cxQ P w K mg base N x (defScope st) f cdv A outer s H p) [] σ' H' s' → L2.RelV v u → Q v H' → CE outer P w H s Q u s' :=
    fun {σ' H' v u s'} J' r' q => ⟨v, H', J'.os, J'.bare, J'.base, J'.hok, r', q⟩
  refine wpAny_mono (ht.run [] s1 _ H _ J hq) (fun fl s' hs => ?_) fun e s' hs => hs
  cases fl with
  | ret u =>
    obtain ⟨v, σ', H', J', r', q⟩ := hs
    exact out J' r' q
  | next =>
    obtain ⟨σ', H', J', q⟩ := hs
    exact out (v := V.non) (u := Value.none) J' rfl q
  | brk => exact hs.elim fun _ hs => hs.elim fun _ hs => hs.2.elim
  | cont => exact hs.elim fun _ hs => hs.elim fun _ hs => hs.2.elim
end
section
variable {X : Cx} {k j : Nat} {x : Str} {sp : Sp} {p pos : Pos} {e : Expr} {es : List Expr} {t : TA}
theorem pe_cQ {q : Addr × Obj} (hq : q ∈ X.pn) (c : CalQ X.prog X.w X.K X.mg X.base k x sp) (hr : RoomH j X.A) (hk : k ≤ j) (hg : Gl X x) (ha : PA X (e :: es) t)
    (hdb : (x == ("__debug__" : Str)) = false := by decide) (he : starEach (e :: es) X.env = (false, eval e X.env) :: starEach es X.env := by rfl) (hpl : (backTo pos (starEach es X.env)).any (·.1) = false := by rfl) :
    PE X (.Call (.Name x p) (e :: es) [] pos) (fun σ H Q => t σ H fun vs H1 => sp vs H1 Q E0) := by
  obtain ⟨f, fd, ps, len, hm, kp, hbs, run⟩ := c.ex
  refine ⟨fun pins s σ H Q I h => ?_⟩
  refine wpAny_Call_Name_kw (ld_glob I hg hm ?_ hdb)
  refine PySem.W.callWith_K (h₀ := X.base) I.ok.mod.kin kp (thn (ha.run pos pins s σ H _ I h) fun us s1 hh => ?_) he hpl
  obtain ⟨vs, H1, I1, rv, hsp⟩ := hh
  refine ⟨I1.kIn, ?_⟩
  have hlen : us.length = ps.length := by rw [← rv.length]; exact len _ _ _ _ hsp
  have bb := hbs s1 us I1.kIn (by rw [List.append_nil]; exact hlen)
  rw [List.append_nil] at bb
  have P1 := I1.pin q (List.mem_append_left _ hq)
  have hpin : PinOk X.stack H1 s1 q := ⟨P1.1, P1.2.1, fun hm => (List.mem_cons.mp (I1.stkSub q.1 hm)).elim P1.2.2.1 P1.2.2.2.1, P1.2.2.2.2⟩
  refine wpAny_call (codeAny_mono (run X.A X.stack s1 H1 ⟨us, []⟩ us vs Q q (hr.mono hk) hpin I1.env0 bb rv hsp) fun r s' hz => ?_)
  cases r with
  | error e => exact (pass0 (X := X) pins σ H1 s1 e s' I1 hz)
  | ok fl =>
    cases fl with
    | ret u => exact I1.after hz
    | next => exact hz.elim
    | brk => exact hz.elim
    | cont => exact hz.elim
end
/-! ### a call of a local name that holds a def that may raise -/
theorem pe_callLS {X : Cx} {CX : CXT} {k i : Nat} {f : Addr} {fd : FuncData} {ps : List Str} {sp : Sp} {E : L2.St → XK} {x : Str} {p pos : Pos} {e : Expr} {es : List Expr} {t : TA}
    (F : FnOk X.prog X.w X.K X.mg X.base CX k f fd ps sp) (hr : Room k X.A) (hN : X.N[i]? = some x) (hv : Vis X.env.scope x) (hk : PySem.W.keepIn X.K (.ref f) = true) (hb : Binds X.K fd ps []) (hx : ∀ σ, PassesAt CX X σ (E σ)) (ha : PA X (e :: es) t)
    (hdb : (x == ("__debug__" : Str)) = false := by decide) (hcd : (x == ("__classdict__" : Str)) = false := by decide)
    (he : starEach (e :: es) X.env = (false, eval e X.env) :: starEach es X.env := by rfl) (hpl : (backTo pos (starEach es X.env)).any (·.1) = false := by rfl) :
    PE X (.Call (.Name x p) (e :: es) [] pos) (fun σ H Q => σ[i]? = some (some (.ref f)) ∧ t σ H fun vs H1 => sp vs H1 Q (E σ)) := by
  refine ⟨fun pins s σ H Q I h => ?_⟩
  obtain ⟨hs, ht⟩ := h
  have hv := (pe_var (pos := p) hN hv hdb hcd).run pins s σ H (fun v H1 => v = .ref f ∧ H1 = H) I ⟨.ref f, hs, rfl, rfl⟩
  refine wpAny_Call_Name_kw (thn hv fun u s1 hh => ?_)
  obtain ⟨v, H1, I1, r1, ev, eH⟩ := hh
  subst ev eH
  cases r1
  refine PySem.W.callWith_K (h₀ := X.base) I.ok.mod.kin hk (thn (ha.run pos pins s1 σ _ _ I1 ht) fun us s2 hh => ?_) he hpl
  obtain ⟨vs, H2, I2, r, q⟩ := hh
  exact ⟨I2.kIn, run_fnS F hr hb (hx σ) I2 r q⟩
end VL

set_option Elab.async false
set_option linter.all false
set_option maxRecDepth 100000
namespace VL
open PySem
/-! ### values and their texts -/
inductive Jv where
  | nul
  | bo (b : Bool)
  | nu (i : Int)
  | tx (l : List Nat)
  | li (vs : List Jv)
  | re (ks : List (List Nat)) (vs : List Jv)
abbrev wNull : List Nat := [110, 117, 108, 108]
abbrev wTrue : List Nat := [116, 114, 117, 101]
abbrev wFalse : List Nat := [102, 97, 108, 115, 101]
def nuT : Int → List Nat
  | .ofNat n => TL.numL n
  | .negSucc n => 45 :: TL.numL (n + 1)
def eCh (c : Nat) : List Nat := if c = 92 then [92, 92] else if c = 34 then [92, 34] else if c = 10 then [92, 110] else [c]
def eTx (l : List Nat) : List Nat := l.flatMap eCh
def qT (l : List Nat) : List Nat := 34 :: (eTx l ++ [34])
def tailJ : List (List Nat) → List Nat
  | [] => []
  | x :: r => 44 :: (x ++ tailJ r)
def sepJ : List (List Nat) → List Nat
  | [] => []
  | x :: r => x ++ tailJ r
def fldT (k t : List Nat) : List Nat := qT k ++ 58 :: t
mutual
def wr : Jv → List Nat
  | .nul => wNull
  | .bo true => wTrue
  | .bo false => wFalse
  | .nu i => nuT i
  | .tx l => qT l
  | .li vs => 91 :: (sepJ (wrs vs) ++ [93])
  | .re ks vs => 123 :: (sepJ (List.zipWith fldT ks (wrs vs)) ++ [125])
def wrs : List Jv → List (List Nat)
  | [] => []
  | v :: r => wr v :: wrs r
end
/-! ### reading -/
def isDg (c : Nat) : Bool := decide (48 ≤ c) && decide (c ≤ 57)
def pNum (R : List Nat) : Option (Jv × List Nat) :=
  let neg := R.head? == some 45
  let R1 := if neg then R.tail else R
  let ds := R1.takeWhile isDg
  let R2 := R1.dropWhile isDg
  if ds = [] then none
  else if 31 < ds.length then none
  else if ds.head? = some 48 ∧ (neg = true ∨ ds ≠ [48]) then none
  else if 10 ^ 30 < NumText.digitsVal ds then none
  else some (.nu (if neg then -((NumText.digitsVal ds : Nat) : Int) else ((NumText.digitsVal ds : Nat) : Int)), R2)
def unE (e : Nat) : Option Nat := if e = 34 then some 34 else if e = 92 then some 92 else if e = 110 then some 10 else none
def pTxt : List Nat → Option (List Nat × List Nat)
  | [] => none
  | c :: R =>
    if c = 34 then some ([], R)
    else if c = 10 then none
    else if c = 92 then match R with
      | [] => none
      | e :: R' => match unE e with
        | none => none
        | some u => (pTxt R').map fun q => (u :: q.1, q.2)
    else (pTxt R).map fun q => (c :: q.1, q.2)
section
variable (p : List Nat → Option (Jv × List Nat))
def moreL : Nat → List Nat → Option (List Jv × List Nat)
  | 0, R => some ([], R)
  | n + 1, R => if R.head? = some 44 then (match p R.tail with
      | none => none
      | some (v, R') => (moreL n R').map fun q => (v :: q.1, q.2))
    else some ([], R)
def pList (R : List Nat) : Option (Jv × List Nat) :=
  if R.head? = some 93 then some (.li [], R.tail) else match p R with
    | none => none
    | some (v, R1) => match moreL p R1.length R1 with
      | none => none
      | some (vs, R2) => if R2.head? = some 93 then some (.li (v :: vs), R2.tail) else none
def fld (ks : List (List Nat)) (R : List Nat) : Option ((List Nat × Jv) × List Nat) :=
  if R.head? = some 34 then match pTxt R.tail with
    | none => none
    | some (k, R1) => if k ∈ ks then none else if R1.head? = some 58 then (p R1.tail).map fun q => ((k, q.1), q.2) else none
  else none
def moreF : Nat → List (List Nat) → List Nat → Option (List (List Nat × Jv) × List Nat)
  | 0, _, R => some ([], R)
  | n + 1, ks, R => if R.head? = some 44 then (match fld p ks R.tail with
      | none => none
      | some (f, R') => (moreF n (ks ++ [f.1]) R').map fun q => (f :: q.1, q.2))
    else some ([], R)
def pRec (R : List Nat) : Option (Jv × List Nat) :=
  if R.head? = some 125 then some (.re [] [], R.tail) else match fld p [] R with
    | none => none
    | some (f, R1) => match moreF p R1.length [f.1] R1 with
      | none => none
      | some (fs, R2) => if R2.head? = some 125 then some (.re ((f :: fs).map (·.1)) ((f :: fs).map (·.2)), R2.tail) else none
end
def pV : Nat → List Nat → Option (Jv × List Nat)
  | 0, _ => none
  | f + 1, R =>
    if R.take 4 = wNull then some (.nul, R.drop 4)
    else if R.take 4 = wTrue then some (.bo true, R.drop 4)
    else if R.take 5 = wFalse then some (.bo false, R.drop 5)
    else if R.head? = some 91 then pList (pV f) R.tail
    else if R.head? = some 123 then pRec (pV f) R.tail
    else if R.head? = some 34 then (pTxt R.tail).map fun q => (.tx q.1, q.2)
    else pNum R
def readC (R : List Nat) : Option (List Nat × List Jv) := match pV 21 R with
  | some (.li (.tx n :: vs), []) => if n = [] then none else some (n, vs)
  | _ => none
/-! ### what is read is what was written -/
theorem head_of {R : List Nat} {c : Nat} (h : R.head? = some c) : R = c :: R.tail := by
  cases R with
  | nil => simp at h
  | cons d r => simp at h; subst h; rfl
theorem unE_eCh {e u : Nat} (h : unE e = some u) : eCh u = [92, e] := by
  unfold unE at h
  by_cases h1 : e = 34
  · subst h1; simp at h; subst h; rfl
  · by_cases h2 : e = 92
    · subst h2; simp at h; subst h; rfl
    · by_cases h3 : e = 110
      · subst h3; simp at h; subst h; rfl
      · simp [h1, h2, h3] at h
theorem pTxt_cons (c : Nat) (R : List Nat) : pTxt (c :: R) = if c = 34 then some ([], R)
    else if c = 10 then none
    else if c = 92 then match R with
      | [] => none
      | e :: R' => match unE e with
        | none => none
        | some u => (pTxt R').map fun q => (u :: q.1, q.2)
    else (pTxt R).map fun q => (c :: q.1, q.2) := by
  rw [pTxt.eq_def]
theorem pTxt_nil : pTxt [] = none := by rw [pTxt.eq_def]
theorem pTxt_back : ∀ (n : Nat) (R l R' : List Nat), R.length ≤ n → pTxt R = some (l, R') → R = eTx l ++ 34 :: R' := by
  intro n
  induction n with
  | zero =>
    intro R l R' hn h
    cases R with
    | nil => rw [pTxt_nil] at h; exact nomatch h
    | cons c R => simp at hn
  | succ n ih =>
    intro R l R' hn h
    cases R with
    | nil => rw [pTxt_nil] at h; exact nomatch h
    | cons c R =>
      simp only [List.length_cons] at hn
      rw [pTxt_cons] at h
      by_cases c1 : c = 34
      · rw [if_pos c1] at h
        cases h
        subst c1
        rfl
      rw [if_neg c1] at h
      by_cases c2 : c = 10
      · rw [if_pos c2] at h; exact nomatch h
      rw [if_neg c2] at h
      by_cases c3 : c = 92
      · rw [if_pos c3] at h
        subst c3
        cases R with
        | nil => exact nomatch h
        | cons e R1 =>
          simp only [List.length_cons] at hn
          cases hu : unE e with
          | none => simp [hu] at h
          | some u =>
            simp only [hu] at h
            cases hp : pTxt R1 with
            | none => simp [hp] at h
            | some q =>
              rw [hp] at h
              simp only [Option.map_some, Option.some.injEq, Prod.mk.injEq] at h
              obtain ⟨rfl, rfl⟩ := h
              rw [ih R1 q.1 q.2 (by omega) hp]
              have := unE_eCh hu
              simp [eTx, this]
      · rw [if_neg c3] at h
        cases hp : pTxt R with
        | none => simp [hp] at h
        | some q =>
          rw [hp] at h
          simp only [Option.map_some, Option.some.injEq, Prod.mk.injEq] at h
          obtain ⟨rfl, rfl⟩ := h
          rw [ih R q.1 q.2 (by omega) hp]
          have : eCh c = [c] := by unfold eCh; rw [if_neg c3, if_neg c1, if_neg c2]
          simp [eTx, this]
theorem pTxt_read : ∀ (l R' : List Nat), pTxt (eTx l ++ 34 :: R') = some (l, R')
  | [], R' => by
    show pTxt (34 :: R') = _
    rw [pTxt_cons, if_pos rfl]
  | c :: l, R' => by
    have ih := pTxt_read l R'
    have e : eTx (c :: l) ++ 34 :: R' = eCh c ++ (eTx l ++ 34 :: R') := by simp [eTx]
    rw [e]
    unfold eCh
    by_cases h1 : c = 92
    · subst h1
      rw [if_pos rfl]
      show pTxt (92 :: 92 :: (eTx l ++ 34 :: R')) = _
      simp [pTxt_cons, unE, ih]
    by_cases h2 : c = 34
    · subst h2
      simp only [if_neg (by decide : ¬ (34 : Nat) = 92), if_true]
      show pTxt (92 :: 34 :: (eTx l ++ 34 :: R')) = _
      simp [pTxt_cons, unE, ih]
    by_cases h3 : c = 10
    · subst h3
      simp only [if_neg (by decide : ¬ (10 : Nat) = 92), if_neg (by decide : ¬ (10 : Nat) = 34), if_true]
      show pTxt (92 :: 110 :: (eTx l ++ 34 :: R')) = _
      simp [pTxt_cons, unE, ih]
    · rw [if_neg h1, if_neg h2, if_neg h3]
      show pTxt (c :: (eTx l ++ 34 :: R')) = _
      rw [pTxt_cons, if_neg h2, if_neg h3, if_neg h1, ih]
      rfl
/-! numbers -/
theorem all_tw : ∀ (R : List Nat), ∀ c ∈ R.takeWhile isDg, isDg c = true := by
  intro R
  induction R with
  | nil => intro c h; simp at h
  | cons d R ih =>
    intro c h
    by_cases hd : isDg d = true
    · rw [List.takeWhile_cons_of_pos hd] at h
      rcases List.mem_cons.mp h with rfl | h
      · exact hd
      · exact ih c h
    · rw [List.takeWhile_cons_of_neg hd] at h; simp at h
theorem allD {ds : List Nat} (h : ∀ c ∈ ds, isDg c = true) : NumText.AllDigits ds := fun c hc => by
  have := h c hc
  simp only [isDg, Bool.and_eq_true, decide_eq_true_eq] at this
  exact this
theorem numL_back {ds : List Nat} (h : ∀ c ∈ ds, isDg c = true) (hne : ds ≠ []) (hz : ds.head? ≠ some 48 ∨ ds = [48]) : TL.numL (NumText.digitsVal ds) = ds := by
  rcases hz with hz | rfl
  · obtain ⟨c, r, rfl⟩ : ∃ c r, ds = c :: r := by
      cases ds with
      | nil => exact absurd rfl hne
      | cons c r => exact ⟨c, r, rfl⟩
    have hc : 49 ≤ c := by
      have := allD h c List.mem_cons_self
      have : c ≠ 48 := fun z => hz (by rw [z]; rfl)
      omega
    have e := NumText.toDigits_digitsVal r.length (c :: r) rfl (allD h) (.inr ⟨c, r, rfl, hc⟩)
    unfold TL.numL
    rw [e, List.map_map]
    have key : ∀ l : List Nat, (∀ x ∈ l, isDg x = true) → l.map (Char.toNat ∘ Char.ofNat) = l := by
      intro l
      induction l with
      | nil => intro _; rfl
      | cons x l ih =>
        intro hl
        have hx := allD hl x List.mem_cons_self
        rw [List.map_cons, ih fun y hy => hl y (List.mem_cons_of_mem _ hy)]
        have : (Char.ofNat x).toNat = x := by
          have : ∀ k : Fin 58, (Char.ofNat k.val).toNat = k.val := by decide +kernel
          exact this ⟨x, by omega⟩
        show (Char.ofNat x).toNat :: l = _
        rw [this]
    exact key _ h
  · decide +kernel
theorem tw_app {ds R : List Nat} (h : ∀ c ∈ ds, isDg c = true) (hR : ∀ c, R.head? = some c → isDg c = false) : (ds ++ R).takeWhile isDg = ds ∧ (ds ++ R).dropWhile isDg = R := by
  induction ds with
  | nil =>
    cases R with
    | nil => simp
    | cons c R =>
      have hc : ¬ isDg c = true := by rw [hR c rfl]; decide
      simp [List.takeWhile_cons_of_neg hc, List.dropWhile_cons_of_neg hc]
  | cons d ds ih =>
    have hd := h d List.mem_cons_self
    obtain ⟨h1, h2⟩ := ih fun c hc => h c (List.mem_cons_of_mem _ hc)
    rw [List.cons_append, List.takeWhile_cons_of_pos hd, List.dropWhile_cons_of_pos hd, h1, h2]
    exact ⟨rfl, rfl⟩
theorem num_dg (n : Nat) : ∀ c ∈ TL.numL n, isDg c = true := fun c hc => by
  have := TL.numL_digits n c hc
  simp only [isDg, Bool.and_eq_true, decide_eq_true_eq]
  exact this
theorem num_hd {n c : Nat} {r : List Nat} (h : TL.numL n = c :: r) (hc : c = 48) : n = 0 := by
  induction n using Nat.strongRecOn generalizing c r with
  | _ n ih =>
    by_cases hn : n < 10
    · rw [TL.numL_lt hn] at h
      injection h with h1 _
      omega
    · rw [TL.numL_step (by omega)] at h
      cases hd : TL.numL (n / 10) with
      | nil => exact absurd hd (TL.numL_ne _)
      | cons c' r' =>
        rw [hd] at h
        injection h with h1 _
        have := ih (n / 10) (by omega) hd (by omega)
        omega
theorem pNum_read {i : Int} {R : List Nat} (h0 : i.natAbs ≤ 10 ^ 30) (hR : ∀ c, R.head? = some c → isDg c = false) : pNum (nuT i ++ R) = some (.nu i, R) := by
  have core : ∀ n : Nat, n ≤ 10 ^ 30 → TL.numL n ≠ [] ∧ (TL.numL n).length ≤ 31 ∧ ((TL.numL n).head? = some 48 → TL.numL n = [48] ∧ n = 0) ∧ NumText.digitsVal (TL.numL n) = n := fun n hn => by
    refine ⟨TL.numL_ne n, TL.numL_len (by decide) (Nat.lt_of_le_of_lt hn (by decide)), fun h => ?_, TL.numL_val n⟩
    have h' := head_of h
    have := num_hd h' rfl
    subst this
    exact ⟨by decide +kernel, rfl⟩
  cases i with
  | ofNat n =>
    obtain ⟨h1, h2, h3, h4⟩ := core n h0
    have hh : ((TL.numL n ++ R).head? == some 45) = false := by
      cases hd : TL.numL n with
      | nil => exact absurd hd h1
      | cons c r =>
        have := allD (num_dg n) c (by rw [hd]; exact List.mem_cons_self)
        have : c ≠ 45 := by omega
        simp [this]
    obtain ⟨t1, t2⟩ := tw_app (num_dg n) hR
    show pNum (TL.numL n ++ R) = _
    unfold pNum
    simp only [hh, Bool.false_eq_true, if_false, t1, t2, h4]
    rw [if_neg h1, if_neg (by omega), if_neg (fun z => (z.2.elim id (fun q => q (h3 z.1).1))), if_neg (by have : n ≤ 10 ^ 30 := h0; omega)]
    rfl
  | negSucc n =>
    obtain ⟨h1, h2, h3, h4⟩ := core (n + 1) h0
    obtain ⟨t1, t2⟩ := tw_app (num_dg (n + 1)) hR
    show pNum (45 :: (TL.numL (n + 1) ++ R)) = _
    have hh : ((45 :: (TL.numL (n + 1) ++ R)).head? == some 45) = true := by simp
    unfold pNum
    simp only [hh, if_true, List.tail_cons, t1, t2, h4]
    rw [if_neg h1, if_neg (by omega), if_neg (fun z => by have := (h3 z.1).2; omega), if_neg (by have : n + 1 ≤ 10 ^ 30 := h0; omega)]
    rfl
theorem pNum_back {R R' : List Nat} {v : Jv} (h : pNum R = some (v, R')) : ∃ i : Int, v = .nu i ∧ i.natAbs ≤ 10 ^ 30 ∧ R = nuT i ++ R' := by
  unfold pNum at h
  simp only at h
  by_cases hn : (R.head? == some 45) = true
  · have hR := head_of (by simpa using hn : R.head? = some 45)
    simp only [hn, if_true] at h
    have tw := List.takeWhile_append_dropWhile (p := isDg) (l := R.tail)
    have ad := all_tw R.tail
    generalize R.tail.takeWhile isDg = ds at h tw ad
    generalize R.tail.dropWhile isDg = R2 at h tw
    by_cases h1 : ds = []
    · rw [if_pos h1] at h; exact nomatch h
    rw [if_neg h1] at h
    by_cases h2 : 31 < ds.length
    · rw [if_pos h2] at h; exact nomatch h
    rw [if_neg h2] at h
    by_cases h3 : ds.head? = some 48 ∧ (True ∨ ds ≠ [48])
    · rw [if_pos h3] at h; exact nomatch h
    rw [if_neg h3] at h
    by_cases h4 : 10 ^ 30 < NumText.digitsVal ds
    · rw [if_pos h4] at h; exact nomatch h
    rw [if_neg h4] at h
    simp only [Option.some.injEq, Prod.mk.injEq] at h
    obtain ⟨rfl, rfl⟩ := h
    have h48 : ds.head? ≠ some 48 := fun z => h3 ⟨z, .inl trivial⟩
    have nb := numL_back ad h1 (.inl h48)
    refine ⟨_, rfl, by rw [Int.natAbs_neg, Int.natAbs_natCast]; omega, ?_⟩
    have pos : NumText.digitsVal ds ≠ 0 := fun z => by
      rw [z] at nb
      have : ds = [48] := by rw [← nb]; decide +kernel
      exact h48 (by rw [this]; rfl)
    obtain ⟨m, hm⟩ : ∃ m, NumText.digitsVal ds = m + 1 := ⟨NumText.digitsVal ds - 1, by omega⟩
    have e : nuT (-((NumText.digitsVal ds : Nat) : Int)) = 45 :: ds := by
      rw [hm]
      show 45 :: TL.numL (m + 1) = _
      rw [← hm, nb]
    rw [e, hR]
    show 45 :: R.tail = 45 :: (ds ++ R2)
    rw [tw]
  · have hn : (R.head? == some 45) = false := by simpa using hn
    simp only [hn, Bool.false_eq_true, if_false] at h
    have tw := List.takeWhile_append_dropWhile (p := isDg) (l := R)
    have ad := all_tw R
    generalize R.takeWhile isDg = ds at h tw ad
    generalize R.dropWhile isDg = R2 at h tw
    by_cases h1 : ds = []
    · rw [if_pos h1] at h; exact nomatch h
    rw [if_neg h1] at h
    by_cases h2 : 31 < ds.length
    · rw [if_pos h2] at h; exact nomatch h
    rw [if_neg h2] at h
    by_cases h3 : ds.head? = some 48 ∧ (False ∨ ds ≠ [48])
    · rw [if_pos h3] at h; exact nomatch h
    rw [if_neg h3] at h
    by_cases h4 : 10 ^ 30 < NumText.digitsVal ds
    · rw [if_pos h4] at h; exact nomatch h
    rw [if_neg h4] at h
    simp only [Option.some.injEq, Prod.mk.injEq] at h
    obtain ⟨rfl, rfl⟩ := h
    have h48 : ds.head? ≠ some 48 ∨ ds = [48] := by
      by_cases z : ds.head? = some 48
      · right
        exact Classical.byContradiction fun q => h3 ⟨z, .inr q⟩
      · exact .inl z
    have nb := numL_back ad h1 h48
    refine ⟨_, rfl, by rw [Int.natAbs_natCast]; omega, ?_⟩
    show R = TL.numL (NumText.digitsVal ds) ++ R2
    rw [nb, tw]
end VL
namespace VL
open PySem
/-! ### good values -/
mutual
def gv : Jv → Prop
  | .nul => True
  | .bo _ => True
  | .nu i => i.natAbs ≤ 10 ^ 30
  | .tx _ => True
  | .li vs => gvs vs
  | .re ks vs => ks.length = vs.length ∧ ks.Nodup ∧ gvs vs
def gvs : List Jv → Prop
  | [] => True
  | v :: r => gv v ∧ gvs r
end
mutual
def dv : Jv → Nat
  | .nul => 0
  | .bo _ => 0
  | .nu _ => 0
  | .tx _ => 0
  | .li vs => dvs vs + 1
  | .re _ vs => dvs vs + 1
def dvs : List Jv → Nat
  | [] => 0
  | v :: r => max (dv v) (dvs r)
end
theorem gvs_mem {v : Jv} : ∀ {vs : List Jv}, gvs vs → v ∈ vs → gv v
  | e :: vs, h, m => by
    obtain ⟨h1, h2⟩ : gv e ∧ gvs vs := by simpa only [gvs] using h
    rcases List.mem_cons.mp m with rfl | m
    · exact h1
    · exact gvs_mem h2 m
theorem gvs_of : ∀ {vs : List Jv}, (∀ v ∈ vs, gv v) → gvs vs
  | [], _ => by simp only [gvs]
  | e :: vs, h => by
    simp only [gvs]
    exact ⟨h e List.mem_cons_self, gvs_of fun v m => h v (List.mem_cons_of_mem _ m)⟩
theorem dvs_mem {v : Jv} : ∀ {vs : List Jv}, v ∈ vs → dv v ≤ dvs vs
  | e :: vs, m => by
    simp only [dvs]
    rcases List.mem_cons.mp m with rfl | m
    · omega
    · have := dvs_mem m
      omega
theorem dvs_of {n : Nat} : ∀ {vs : List Jv}, (∀ v ∈ vs, dv v ≤ n) → dvs vs ≤ n
  | [], _ => by simp [dvs]
  | e :: vs, h => by
    have := h e List.mem_cons_self
    have := dvs_of fun v m => h v (List.mem_cons_of_mem _ m)
    simp only [dvs]
    omega
theorem wrs_map : ∀ vs : List Jv, wrs vs = vs.map wr
  | [] => by simp [wrs]
  | v :: r => by simp [wrs, wrs_map r]
def okR (R : List Nat) : Prop := ∀ c, R.head? = some c → isDg c = false
/-- the first sign of a value's text -/
theorem wr_head : ∀ v : Jv, ∃ c r, wr v = c :: r ∧ c ≠ 93 ∧ c ≠ 125
  | .nul => ⟨_, _, rfl, by decide, by decide⟩
  | .bo true => ⟨_, _, rfl, by decide, by decide⟩
  | .bo false => ⟨_, _, rfl, by decide, by decide⟩
  | .nu (.ofNat n) => by
    cases h : TL.numL n with
    | nil => exact absurd h (TL.numL_ne n)
    | cons c r =>
      have := TL.numL_digits n c (by rw [h]; exact List.mem_cons_self)
      exact ⟨c, r, by simp only [wr, nuT, h], by omega, by omega⟩
  | .nu (.negSucc n) => ⟨45, TL.numL (n + 1), by simp only [wr, nuT], by decide, by decide⟩
  | .tx l => ⟨34, eTx l ++ [34], by simp only [wr, qT], by decide, by decide⟩
  | .li vs => ⟨91, sepJ (wrs vs) ++ [93], by simp only [wr], by decide, by decide⟩
  | .re ks vs => ⟨123, sepJ (List.zipWith fldT ks (wrs vs)) ++ [125], by simp only [wr], by decide, by decide⟩
theorem take_ne {R w : List Nat} {c d : Nat} {k : Nat} (h : R.head? = some c) (hd : w.head? = some d) (hk : 0 < k) (hcd : c ≠ d) : ¬ R.take k = w := fun e => by
  rw [← e] at hd
  cases R with
  | nil => simp at h
  | cons x r =>
    cases k with
    | zero => omega
    | succ k => simp at h hd; omega
theorem len_tail {ts : List (List Nat)} : ts.length ≤ (tailJ ts).length := by
  induction ts with
  | nil => exact Nat.zero_le _
  | cons t ts ih => simp only [tailJ, List.length_cons, List.length_append]; omega
theorem okT {ts : List (List Nat)} {R : List Nat} (h : okR R) : okR (tailJ ts ++ R) := by
  cases ts with
  | nil => exact h
  | cons t ts =>
    intro c hc
    simp [tailJ] at hc
    subst hc
    decide
section
variable {p : List Nat → Option (Jv × List Nat)}
theorem moreL_read : ∀ (vs : List Jv) (n : Nat) (R : List Nat), (∀ v ∈ vs, ∀ R, okR R → p (wr v ++ R) = some (v, R)) → vs.length ≤ n → okR R → R.head? ≠ some 44 → moreL p n (tailJ (wrs vs) ++ R) = some (vs, R)
  | [], n, R, _, _, _, hR => by
    show moreL p n R = _
    cases n with
    | zero => rfl
    | succ n => simp only [moreL]; rw [if_neg hR]
  | v :: vs, n, R, hp, hn, ok, hR => by
    cases n with
    | zero => simp at hn
    | succ n =>
      have e : tailJ (wrs (v :: vs)) ++ R = 44 :: (wr v ++ (tailJ (wrs vs) ++ R)) := by simp [wrs, tailJ]
      rw [e]
      simp only [moreL, List.head?_cons, if_true, List.tail_cons]
      rw [hp v List.mem_cons_self _ (okT ok)]
      simp only
      rw [moreL_read vs n R (fun v m => hp v (List.mem_cons_of_mem _ m)) (by simpa using hn) ok hR]
      rfl
theorem fld_read {k : List Nat} {ks : List (List Nat)} {v : Jv} {R : List Nat} (hk : k ∉ ks) (hp : ∀ R, okR R → p (wr v ++ R) = some (v, R)) (ok : okR R) : fld p ks (fldT k (wr v) ++ R) = some ((k, v), R) := by
  have e : fldT k (wr v) ++ R = 34 :: (eTx k ++ 34 :: (58 :: (wr v ++ R))) := by simp [fldT, qT]
  rw [e]
  unfold fld
  simp only [List.head?_cons, if_true, List.tail_cons]
  rw [pTxt_read]
  simp only
  rw [if_neg hk]
  simp only [List.head?_cons, if_true, List.tail_cons]
  rw [hp _ ok]
  rfl
theorem moreF_read : ∀ (ks : List (List Nat)) (vs : List Jv) (n : Nat) (seen : List (List Nat)) (R : List Nat), ks.length = vs.length → (seen ++ ks).Nodup → (∀ v ∈ vs, ∀ R, okR R → p (wr v ++ R) = some (v, R)) → vs.length ≤ n → okR R → R.head? ≠ some 44 →
    moreF p n seen (tailJ (List.zipWith fldT ks (wrs vs)) ++ R) = some (ks.zip vs, R)
  | [], [], n, seen, R, _, _, _, _, _, hR => by
    show moreF p n seen R = _
    cases n with
    | zero => rfl
    | succ n => simp only [moreF]; rw [if_neg hR]; rfl
  | k :: ks, v :: vs, n, seen, R, hl, nd, hp, hn, ok, hR => by
    cases n with
    | zero => simp at hn
    | succ n =>
      have e : tailJ (List.zipWith fldT (k :: ks) (wrs (v :: vs))) ++ R = 44 :: (fldT k (wr v) ++ (tailJ (List.zipWith fldT ks (wrs vs)) ++ R)) := by simp [wrs, tailJ]
      rw [e]
      simp only [moreF, List.head?_cons, if_true, List.tail_cons]
      have hk : k ∉ seen := fun z => by
        rw [List.nodup_append] at nd
        exact nd.2.2 k z k List.mem_cons_self rfl
      rw [fld_read hk (hp v List.mem_cons_self) (okT ok)]
      simp only
      rw [moreF_read ks vs n (seen ++ [k]) R (by simpa using hl) (by simpa using nd) (fun v m => hp v (List.mem_cons_of_mem _ m)) (by simpa using hn) ok hR]
      rfl
end
theorem zip_fst {α β : Type} : ∀ (a : List α) (b : List β), a.length = b.length → (a.zip b).map (·.1) = a ∧ (a.zip b).map (·.2) = b
  | [], [], _ => ⟨rfl, rfl⟩
  | x :: a, y :: b, h => by
    obtain ⟨h1, h2⟩ := zip_fst a b (by simpa using h)
    simp [h1, h2]
theorem pV_eq (f : Nat) (R : List Nat) : pV (f + 1) R = if R.take 4 = wNull then some (.nul, R.drop 4)
    else if R.take 4 = wTrue then some (.bo true, R.drop 4)
    else if R.take 5 = wFalse then some (.bo false, R.drop 5)
    else if R.head? = some 91 then pList (pV f) R.tail
    else if R.head? = some 123 then pRec (pV f) R.tail
    else if R.head? = some 34 then (pTxt R.tail).map fun q => (.tx q.1, q.2)
    else pNum R := rfl
theorem pV_num {f : Nat} {i : Int} {R : List Nat} (hg : i.natAbs ≤ 10 ^ 30) (ok : okR R) : pV (f + 1) (nuT i ++ R) = some (.nu i, R) := by
  obtain ⟨c, r, hc⟩ : ∃ c r, nuT i ++ R = c :: r := by
    obtain ⟨c, r, h, _⟩ := wr_head (.nu i)
    simp only [wr] at h
    exact ⟨c, r ++ R, by rw [h]; rfl⟩
  have hh : (nuT i ++ R).head? = some c := by rw [hc]; rfl
  have cd : c = 45 ∨ (48 ≤ c ∧ c ≤ 57) := by
    cases i with
    | ofNat n =>
      right
      cases h : TL.numL n with
      | nil => exact absurd h (TL.numL_ne n)
      | cons x y =>
        have := TL.numL_digits n x (by rw [h]; exact List.mem_cons_self)
        simp [nuT, h] at hc
        omega
    | negSucc n => left; simp [nuT] at hc; omega
  rw [pV_eq, if_neg (take_ne hh rfl (by decide) (by omega)), if_neg (take_ne hh rfl (by decide) (by omega)), if_neg (take_ne hh rfl (by decide) (by omega)), hh, if_neg (by simp; omega), if_neg (by simp; omega), if_neg (by simp; omega)]
  exact pNum_read hg ok
theorem pV_tx {f : Nat} {l R : List Nat} : pV (f + 1) (qT l ++ R) = some (.tx l, R) := by
  have e : qT l ++ R = 34 :: (eTx l ++ 34 :: R) := by simp [qT]
  rw [e]
  have hh : (34 :: (eTx l ++ 34 :: R)).head? = some 34 := rfl
  rw [pV_eq, if_neg (take_ne hh rfl (by decide) (by decide)), if_neg (take_ne hh rfl (by decide) (by decide)), if_neg (take_ne hh rfl (by decide) (by decide)), hh, if_neg (by decide), if_neg (by decide), if_pos rfl, List.tail_cons, pTxt_read]
  rfl
theorem pV_nul {f : Nat} {R : List Nat} : pV (f + 1) (wNull ++ R) = some (.nul, R) := by
  rw [pV_eq, if_pos (show (wNull ++ R).take 4 = wNull from rfl)]
  rfl
theorem pV_tru {f : Nat} {R : List Nat} : pV (f + 1) (wTrue ++ R) = some (.bo true, R) := by
  have hh : (wTrue ++ R).head? = some 116 := rfl
  rw [pV_eq, if_neg (take_ne hh rfl (by decide) (by decide)), if_pos (show (wTrue ++ R).take 4 = wTrue from rfl)]
  rfl
theorem pV_fal {f : Nat} {R : List Nat} : pV (f + 1) (wFalse ++ R) = some (.bo false, R) := by
  have hh : (wFalse ++ R).head? = some 102 := rfl
  rw [pV_eq, if_neg (take_ne hh rfl (by decide) (by decide)), if_neg (take_ne hh rfl (by decide) (by decide)), if_pos (show (wFalse ++ R).take 5 = wFalse from rfl)]
  rfl
theorem pV_read : ∀ (f : Nat) (v : Jv) (R : List Nat), dv v ≤ f → gv v → okR R → pV (f + 1) (wr v ++ R) = some (v, R) := by
  intro f
  induction f with
  | zero =>
    intro v R hd hg ok
    cases v with
    | nul => exact pV_nul
    | bo b => cases b with
      | false => exact pV_fal
      | true => exact pV_tru
    | nu i => exact pV_num (by simpa only [gv] using hg) ok
    | tx l => exact pV_tx
    | li vs => simp only [dv] at hd; omega
    | re ks vs => simp only [dv] at hd; omega
  | succ f ih =>
    intro v R hd hg ok
    cases v with
    | nul => exact pV_nul
    | bo b => cases b with
      | false => exact pV_fal
      | true => exact pV_tru
    | nu i => exact pV_num (by simpa only [gv] using hg) ok
    | tx l => exact pV_tx
    | li vs =>
      simp only [dv] at hd
      have hg' : gvs vs := by simpa only [gv] using hg
      have hp : ∀ v ∈ vs, ∀ R, okR R → pV (f + 1) (wr v ++ R) = some (v, R) := fun v m R ok => ih v R (by have := dvs_mem m; omega) (gvs_mem hg' m) ok
      have e : wr (.li vs) ++ R = 91 :: (sepJ (wrs vs) ++ 93 :: R) := by simp [wr]
      rw [e]
      have hh : (91 :: (sepJ (wrs vs) ++ 93 :: R)).head? = some 91 := rfl
      rw [pV_eq, if_neg (take_ne hh rfl (by decide) (by decide)), if_neg (take_ne hh rfl (by decide) (by decide)), if_neg (take_ne hh rfl (by decide) (by decide)), hh, if_pos rfl, List.tail_cons]
      have ok93 : okR (93 :: R) := fun c hc => by simp at hc; subst hc; decide
      cases vs with
      | nil => simp [pList, wrs, sepJ]
      | cons v vs =>
        have e2 : sepJ (wrs (v :: vs)) ++ 93 :: R = wr v ++ (tailJ (wrs vs) ++ 93 :: R) := by simp [wrs, sepJ]
        rw [e2]
        obtain ⟨c, r, hc, h93, _⟩ := wr_head v
        unfold pList
        rw [if_neg (by rw [hc]; simp; exact h93), hp v List.mem_cons_self _ (okT ok93)]
        simp only
        rw [moreL_read vs _ (93 :: R) (fun v m => hp v (List.mem_cons_of_mem _ m)) (by
          have := len_tail (ts := wrs vs)
          rw [wrs_map, List.length_map] at this
          rw [List.length_append, wrs_map]
          omega) ok93 (by simp)]
        simp
    | re ks vs =>
      simp only [dv] at hd
      obtain ⟨kl, nd, hg'⟩ : ks.length = vs.length ∧ ks.Nodup ∧ gvs vs := by simpa only [gv] using hg
      have hp : ∀ v ∈ vs, ∀ R, okR R → pV (f + 1) (wr v ++ R) = some (v, R) := fun v m R ok => ih v R (by have := dvs_mem m; omega) (gvs_mem hg' m) ok
      have e : wr (.re ks vs) ++ R = 123 :: (sepJ (List.zipWith fldT ks (wrs vs)) ++ 125 :: R) := by simp [wr]
      rw [e]
      have hh : (123 :: (sepJ (List.zipWith fldT ks (wrs vs)) ++ 125 :: R)).head? = some 123 := rfl
      rw [pV_eq, if_neg (take_ne hh rfl (by decide) (by decide)), if_neg (take_ne hh rfl (by decide) (by decide)), if_neg (take_ne hh rfl (by decide) (by decide)), hh, if_neg (by decide), if_pos rfl, List.tail_cons]
      have ok93 : okR (125 :: R) := fun c hc => by simp at hc; subst hc; decide
      cases vs with
      | nil =>
        have : ks = [] := by simpa using kl
        subst this
        simp [pRec, wrs, sepJ]
      | cons v vs =>
        cases ks with
        | nil => simp at kl
        | cons k ks =>
          have e2 : sepJ (List.zipWith fldT (k :: ks) (wrs (v :: vs))) ++ 125 :: R = fldT k (wr v) ++ (tailJ (List.zipWith fldT ks (wrs vs)) ++ 125 :: R) := by simp [wrs, sepJ]
          rw [e2]
          have kl' : ks.length = vs.length := by simpa using kl
          unfold pRec
          rw [if_neg (by simp [fldT, qT]), fld_read (by simp) (hp v List.mem_cons_self) (okT ok93)]
          simp only
          rw [moreF_read ks vs _ [k] (125 :: R) kl' (by simpa using nd) (fun v m => hp v (List.mem_cons_of_mem _ m)) (by
            have := len_tail (ts := List.zipWith fldT ks (wrs vs))
            rw [List.length_zipWith, wrs_map, List.length_map, kl', Nat.min_self] at this
            rw [List.length_append, wrs_map]
            omega) ok93 (by simp)]
          obtain ⟨z1, z2⟩ := zip_fst ks vs kl'
          simp [z1, z2]
/-! what was read, written -/
def Back (p : List Nat → Option (Jv × List Nat)) (d : Nat) : Prop := ∀ R v R', p R = some (v, R') → R = wr v ++ R' ∧ gv v ∧ dv v ≤ d
section
variable {p : List Nat → Option (Jv × List Nat)} {d : Nat}
theorem moreL_back (hp : Back p d) : ∀ (n : Nat) (R : List Nat) (vs : List Jv) (R' : List Nat), moreL p n R = some (vs, R') → R = tailJ (wrs vs) ++ R' ∧ gvs vs ∧ dvs vs ≤ d
  | 0, R, vs, R', h => by
    simp only [moreL, Option.some.injEq, Prod.mk.injEq] at h
    obtain ⟨rfl, rfl⟩ := h
    exact ⟨rfl, by simp only [gvs], by simp [dvs]⟩
  | n + 1, R, vs, R', h => by
    simp only [moreL] at h
    by_cases hh : R.head? = some 44
    · rw [if_pos hh] at h
      cases hq : p R.tail with
      | none => rw [hq] at h; exact nomatch h
      | some q =>
        obtain ⟨v, R1⟩ := q
        rw [hq] at h
        simp only at h
        cases hm : moreL p n R1 with
        | none => rw [hm] at h; exact nomatch h
        | some q2 =>
          rw [hm] at h
          simp only [Option.map_some, Option.some.injEq, Prod.mk.injEq] at h
          obtain ⟨rfl, rfl⟩ := h
          obtain ⟨e1, g1, d1⟩ := hp _ _ _ hq
          obtain ⟨e2, g2, d2⟩ := moreL_back hp n _ _ _ hm
          refine ⟨?_, by simp only [gvs]; exact ⟨g1, g2⟩, by simp only [dvs]; omega⟩
          rw [head_of hh, e1, e2]
          simp [wrs, tailJ]
    · rw [if_neg hh] at h
      simp only [Option.some.injEq, Prod.mk.injEq] at h
      obtain ⟨rfl, rfl⟩ := h
      exact ⟨rfl, by simp only [gvs], by simp [dvs]⟩
theorem fld_back (hp : Back p d) {ks : List (List Nat)} {R : List Nat} {k : List Nat} {v : Jv} {R' : List Nat} (h : fld p ks R = some ((k, v), R')) : R = fldT k (wr v) ++ R' ∧ k ∉ ks ∧ gv v ∧ dv v ≤ d := by
  unfold fld at h
  by_cases hh : R.head? = some 34
  · rw [if_pos hh] at h
    cases ht : pTxt R.tail with
    | none => rw [ht] at h; exact nomatch h
    | some q =>
      obtain ⟨k', R1⟩ := q
      rw [ht] at h
      simp only at h
      by_cases hk : k' ∈ ks
      · rw [if_pos hk] at h; exact nomatch h
      rw [if_neg hk] at h
      by_cases h58 : R1.head? = some 58
      · rw [if_pos h58] at h
        cases hq : p R1.tail with
        | none => rw [hq] at h; exact nomatch h
        | some q2 =>
          rw [hq] at h
          simp only [Option.map_some, Option.some.injEq, Prod.mk.injEq] at h
          obtain ⟨⟨rfl, rfl⟩, rfl⟩ := h
          obtain ⟨e1, g1, d1⟩ := hp _ _ _ hq
          have e0 := pTxt_back _ _ _ _ (Nat.le_refl _) ht
          refine ⟨?_, hk, g1, d1⟩
          rw [head_of hh, e0, head_of h58, e1]
          simp [fldT, qT]
      · rw [if_neg h58] at h; exact nomatch h
  · rw [if_neg hh] at h; exact nomatch h
theorem moreF_back (hp : Back p d) : ∀ (n : Nat) (seen : List (List Nat)) (R : List Nat) (fs : List (List Nat × Jv)) (R' : List Nat), seen.Nodup → moreF p n seen R = some (fs, R') →
    R = tailJ (List.zipWith fldT (fs.map (·.1)) (wrs (fs.map (·.2)))) ++ R' ∧ (seen ++ fs.map (·.1)).Nodup ∧ gvs (fs.map (·.2)) ∧ dvs (fs.map (·.2)) ≤ d
  | 0, seen, R, fs, R', nd, h => by
    simp only [moreF, Option.some.injEq, Prod.mk.injEq] at h
    obtain ⟨rfl, rfl⟩ := h
    exact ⟨rfl, by simpa using nd, by simp [gvs], by simp [dvs]⟩
  | n + 1, seen, R, fs, R', nd, h => by
    simp only [moreF] at h
    by_cases hh : R.head? = some 44
    · rw [if_pos hh] at h
      cases hq : fld p seen R.tail with
      | none => rw [hq] at h; exact nomatch h
      | some q =>
        obtain ⟨⟨k, v⟩, R1⟩ := q
        rw [hq] at h
        simp only at h
        cases hm : moreF p n (seen ++ [k]) R1 with
        | none => rw [hm] at h; exact nomatch h
        | some q2 =>
          rw [hm] at h
          simp only [Option.map_some, Option.some.injEq, Prod.mk.injEq] at h
          obtain ⟨rfl, rfl⟩ := h
          obtain ⟨e1, hk, g1, d1⟩ := fld_back hp hq
          have nd2 : (seen ++ [k]).Nodup := by
            rw [List.nodup_append]
            refine ⟨nd, by simp, fun a ha b hb => ?_⟩
            rw [List.mem_singleton] at hb
            subst hb
            exact fun z => hk (z ▸ ha)
          obtain ⟨e2, nd3, g2, d2⟩ := moreF_back hp n _ _ _ _ nd2 hm
          refine ⟨?_, by simpa using nd3, by simp only [List.map_cons, gvs]; exact ⟨g1, g2⟩, by simp only [List.map_cons, dvs]; omega⟩
          rw [head_of hh, e1, e2]
          simp [wrs, tailJ]
    · rw [if_neg hh] at h
      simp only [Option.some.injEq, Prod.mk.injEq] at h
      obtain ⟨rfl, rfl⟩ := h
      exact ⟨rfl, by simpa using nd, by simp [gvs], by simp [dvs]⟩
end
theorem take_app {R w : List Nat} {k : Nat} (h : R.take k = w) : R = w ++ R.drop k := by
  rw [← h, List.take_append_drop]
theorem pV_back : ∀ f : Nat, Back (pV f) f
  | 0 => fun R v R' h => nomatch (show (none : Option (Jv × List Nat)) = _ from h)
  | f + 1 => by
    have hB := pV_back f
    intro R v R' h
    rw [pV_eq] at h
    by_cases c1 : R.take 4 = wNull
    · rw [if_pos c1] at h
      cases h
      exact ⟨take_app c1, trivial, Nat.zero_le _⟩
    rw [if_neg c1] at h
    by_cases c2 : R.take 4 = wTrue
    · rw [if_pos c2] at h
      cases h
      exact ⟨take_app c2, trivial, Nat.zero_le _⟩
    rw [if_neg c2] at h
    by_cases c3 : R.take 5 = wFalse
    · rw [if_pos c3] at h
      cases h
      exact ⟨take_app c3, trivial, Nat.zero_le _⟩
    rw [if_neg c3] at h
    by_cases c4 : R.head? = some 91
    · rw [if_pos c4] at h
      unfold pList at h
      by_cases h93 : R.tail.head? = some 93
      · rw [if_pos h93] at h
        cases h
        refine ⟨?_, by simp only [gv, gvs], by simp [dv, dvs]⟩
        rw [head_of c4, head_of h93]
        simp [wr, wrs, sepJ]
      · rw [if_neg h93] at h
        cases hq : pV f R.tail with
        | none => rw [hq] at h; exact nomatch h
        | some q =>
          obtain ⟨v1, R1⟩ := q
          rw [hq] at h
          simp only at h
          cases hm : moreL (pV f) R1.length R1 with
          | none => rw [hm] at h; exact nomatch h
          | some q2 =>
            obtain ⟨vs, R2⟩ := q2
            rw [hm] at h
            simp only at h
            by_cases h2 : R2.head? = some 93
            · rw [if_pos h2] at h
              cases h
              obtain ⟨e1, g1, d1⟩ := hB _ _ _ hq
              obtain ⟨e2, g2, d2⟩ := moreL_back hB _ _ _ _ hm
              refine ⟨?_, by simp only [gv, gvs]; exact ⟨g1, g2⟩, by simp only [dv, dvs]; omega⟩
              rw [head_of c4, e1, e2, head_of h2]
              simp [wr, wrs, sepJ]
            · rw [if_neg h2] at h; exact nomatch h
    rw [if_neg c4] at h
    by_cases c5 : R.head? = some 123
    · rw [if_pos c5] at h
      unfold pRec at h
      by_cases h93 : R.tail.head? = some 125
      · rw [if_pos h93] at h
        cases h
        refine ⟨?_, by simp only [gv, gvs]; exact ⟨rfl, List.nodup_nil, trivial⟩, by simp [dv, dvs]⟩
        rw [head_of c5, head_of h93]
        simp [wr, wrs, sepJ]
      · rw [if_neg h93] at h
        cases hq : fld (pV f) [] R.tail with
        | none => rw [hq] at h; exact nomatch h
        | some q =>
          obtain ⟨⟨k1, v1⟩, R1⟩ := q
          rw [hq] at h
          simp only at h
          cases hm : moreF (pV f) R1.length [k1] R1 with
          | none => rw [hm] at h; exact nomatch h
          | some q2 =>
            obtain ⟨fs, R2⟩ := q2
            rw [hm] at h
            simp only at h
            by_cases h2 : R2.head? = some 125
            · rw [if_pos h2] at h
              cases h
              obtain ⟨e1, _, g1, d1⟩ := fld_back hB hq
              obtain ⟨e2, nd, g2, d2⟩ := moreF_back hB _ _ _ _ _ (by simp) hm
              refine ⟨?_, ?_, by simp only [dv, List.map_cons, dvs]; omega⟩
              · rw [head_of c5, e1, e2, head_of h2]
                simp [wr, wrs, sepJ]
              · simp only [gv, List.map_cons, gvs]
                exact ⟨by simp, by simpa using nd, g1, g2⟩
            · rw [if_neg h2] at h; exact nomatch h
    rw [if_neg c5] at h
    by_cases c6 : R.head? = some 34
    · rw [if_pos c6] at h
      cases ht : pTxt R.tail with
      | none => rw [ht] at h; exact nomatch h
      | some q =>
        rw [ht] at h
        simp only [Option.map_some, Option.some.injEq, Prod.mk.injEq] at h
        obtain ⟨rfl, rfl⟩ := h
        have e0 := pTxt_back _ _ _ _ (Nat.le_refl _) ht
        refine ⟨?_, trivial, Nat.zero_le _⟩
        rw [head_of c6, e0]
        simp [wr, qT]
    rw [if_neg c6] at h
    obtain ⟨i, rfl, hi, e⟩ := pNum_back h
    exact ⟨by simp only [wr]; exact e, by simp only [gv]; exact hi, Nat.zero_le _⟩
/-- read back -/
theorem readC_back {R n : List Nat} {vs : List Jv} (h : readC R = some (n, vs)) : R = wr (.li (.tx n :: vs)) ∧ gvs vs ∧ dvs vs ≤ 20 ∧ n ≠ [] := by
  unfold readC at h
  split at h
  · rename_i n' vs' hq
    by_cases hn : n' = []
    · rw [if_pos hn] at h; exact nomatch h
    · rw [if_neg hn] at h
      simp only [Option.some.injEq, Prod.mk.injEq] at h
      obtain ⟨rfl, rfl⟩ := h
      obtain ⟨e, g, d⟩ := pV_back 21 _ _ _ hq
      have g' : gv (.tx n') ∧ gvs vs' := by simpa only [gv, gvs] using g
      simp only [dv, dvs] at d
      exact ⟨by simpa using e, g'.2, by omega, hn⟩
  · exact nomatch h
theorem readC_read {n : List Nat} {vs : List Jv} (hn : n ≠ []) (hg : gvs vs) (hd : dvs vs ≤ 19) : readC (wr (.li (.tx n :: vs))) = some (n, vs) := by
  have h := pV_read 20 (.li (.tx n :: vs)) [] (by simp only [dv, dvs]; omega) (by simp only [gv, gvs]; exact ⟨trivial, hg⟩) (fun c hc => by simp at hc)
  rw [List.append_nil] at h
  unfold readC
  rw [h]
  simp only
  rw [if_neg hn]
end VL

set_option Elab.async false
set_option linter.all false
set_option maxRecDepth 100000
set_option maxHeartbeats 4000000
namespace VL
open PySem PySem.Spec PyProof.Rows L2

def top (i : Nat) : Stmt := PySem.Challenge.pw_viewloom_k74_recordings_are_read.main.body.getD i (.Pass ⟨0, 0, 0, 0⟩)
abbrev s_InvalidRecording___init__ : Stmt := inClass (top 2) 0
abbrev s_is_text : Stmt := top 5
abbrev s_is_list : Stmt := top 6
abbrev s_is_record : Stmt := top 7
abbrev s_is_digit : Stmt := top 10
abbrev s_quoted : Stmt := top 12
abbrev s_write_call : Stmt := top 18
abbrev s_value_text : Stmt := top 19
abbrev s_read_call : Stmt := top 20
abbrev s_CallReader___init__ : Stmt := inClass (top 21) 0
abbrev s_CallReader_sign : Stmt := inClass (top 21) 1
abbrev s_CallReader_has : Stmt := inClass (top 21) 2
abbrev s_CallReader_need : Stmt := inClass (top 21) 3
abbrev s_CallReader_take_value : Stmt := inClass (top 21) 4
abbrev s_CallReader_take_list : Stmt := inClass (top 21) 5
abbrev s_CallReader_take_record : Stmt := inClass (top 21) 6
abbrev s_CallReader_take_field : Stmt := inClass (top 21) 7
abbrev s_CallReader_take_text : Stmt := inClass (top 21) 8
abbrev s_CallReader_take_escaped : Stmt := inClass (top 21) 9
abbrev s_CallReader_take_number : Stmt := inClass (top 21) 10
abbrev s_read_recording : Stmt := top 22
abbrev s_is_beginning : Stmt := top 23
abbrev s__law_rows : Stmt := top 25
abbrev s__law_text : Stmt := top 26
abbrev s__law_value : Stmt := top 27
abbrev s__law_values : Stmt := top 28
abbrev s__law_first : Stmt := top 29
abbrev s_law : Stmt := top 30
structure Ad where
  u0 : Unit
  CallReader : Addr
  InvalidCall : Addr
  InvalidRecording : Addr
  ViewError : Addr
structure Txt (K : PySem.W.Frag) (w : World) (mg : Str → Option Value) (C : Ad) : Prop where
  g_CallReader : GV mg "CallReader" (.ref C.CallReader)
  cl_CallReader : Cls K C.CallReader
  n_CallReader_text : NoAttr K C.CallReader "text"
  n_CallReader_at : NoAttr K C.CallReader "at"
  z_dict : mg "dict" = none
  z_enumerate : mg "enumerate" = none
  z_int : mg "int" = none
  z_isinstance : mg "isinstance" = none
  z_len : mg "len" = none
  z_list : mg "list" = none
  z_range : mg "range" = none
  z_repr : mg "repr" = none
  z_str : mg "str" = none
  g_LARGEST_NUMBER : GV mg "LARGEST_NUMBER" (V.int 1000000000000000000000000000000)
  g_LOWEST_LEVEL : GV mg "LOWEST_LEVEL" (V.int 20)
  g_MOST_DIGITS : GV mg "MOST_DIGITS" (V.int 31)
  g_WORDS : ∃ a a0 a1 a2, GV mg "WORDS" (.ref a) ∧ (∀ H, SqT K H a [.ref a0, .ref a1, .ref a2]) ∧ (∀ H, SqT K H a0 [(V.str "null"), V.non]) ∧ (∀ H, SqT K H a1 [(V.str "true"), (V.bl true)]) ∧ (∀ H, SqT K H a2 [(V.str "false"), (V.bl false)])
  k_ESCAPES : ∃ a es n, GV mg "ESCAPES" (.ref a) ∧ KdT K w a es n ["\"", "\\", "n"] ∧ (∃ u, PySem.W.nsIn K a "\"" = some (some u) ∧ RelV (V.str "\"") u) ∧ (∃ u, PySem.W.nsIn K a "\\" = some (some u) ∧ RelV (V.str "\\") u) ∧ (∃ u, PySem.W.nsIn K a "n" = some (some u) ∧ RelV (V.str "\n") u)
  x_InvalidCall : ExT K mg "InvalidCall" C.InvalidCall
  gx_ViewError : GV mg "ViewError" (.ref C.ViewError)
  k_InvalidCall_ViewError : PySem.W.kitOne K (.ref C.InvalidCall) (.ref C.ViewError) = some true
  k_InvalidRecording_ViewError : PySem.W.kitOne K (.ref C.InvalidRecording) (.ref C.ViewError) = some true
  d_is_text : DefE K mg "is_text" s_is_text ["value"]
  d_is_list : DefE K mg "is_list" s_is_list ["value"]
  d_is_record : DefE K mg "is_record" s_is_record ["value"]
  d_is_digit : DefE K mg "is_digit" s_is_digit ["sign"]
  d_quoted : DefE K mg "quoted" s_quoted ["text"]
  d_write_call : DefE K mg "write_call" s_write_call ["name", "values"]
  d_value_text : DefE K mg "value_text" s_value_text ["value"]
  d_read_call : DefE K mg "read_call" s_read_call ["text"]
  i_CallReader : InitE K mg "CallReader" C.CallReader "CallReader.__init__" s_CallReader___init__ ["self", "text"]
  m_CallReader_sign : MethE K C.CallReader "sign" "CallReader.sign" s_CallReader_sign ["self"]
  m_CallReader_has : MethE K C.CallReader "has" "CallReader.has" s_CallReader_has ["self", "mark"]
  m_CallReader_need : MethE K C.CallReader "need" "CallReader.need" s_CallReader_need ["self", "mark"]
  m_CallReader_take_value : MethE K C.CallReader "take_value" "CallReader.take_value" s_CallReader_take_value ["self", "level"]
  m_CallReader_take_list : MethE K C.CallReader "take_list" "CallReader.take_list" s_CallReader_take_list ["self", "level"]
  m_CallReader_take_record : MethE K C.CallReader "take_record" "CallReader.take_record" s_CallReader_take_record ["self", "level"]
  m_CallReader_take_field : MethE K C.CallReader "take_field" "CallReader.take_field" s_CallReader_take_field ["self", "record", "level"]
  m_CallReader_take_text : MethE K C.CallReader "take_text" "CallReader.take_text" s_CallReader_take_text ["self"]
  m_CallReader_take_escaped : MethE K C.CallReader "take_escaped" "CallReader.take_escaped" s_CallReader_take_escaped ["self"]
  m_CallReader_take_number : MethE K C.CallReader "take_number" "CallReader.take_number" s_CallReader_take_number ["self"]
  d_read_recording : DefE K mg "read_recording" s_read_recording ["texts"]
  d_is_beginning : DefE K mg "is_beginning" s_is_beginning ["call"]
  d__law_rows : DefE K mg "_law_rows" s__law_rows ["script", "count"]
  d__law_text : DefE K mg "_law_text" s__law_text ["row"]
  d__law_value : DefE K mg "_law_value" s__law_value ["rows", "world", "depth"]
  d__law_values : DefE K mg "_law_values" s__law_values ["rows", "at", "many"]
  d__law_first : DefE K mg "_law_first" s__law_first ["row", "values"]
structure TxtE (P : Program) (K : PySem.W.Frag) (w : World) (mg : Str → Option Value) (C : Ad) : Prop where
  t : Txt K w mg C
  xi_InvalidRecording : ExI P K mg "InvalidRecording" "InvalidRecording.__init__" C.InvalidRecording s_InvalidRecording___init__ ["self", "index"] ["index"]
end VL

set_option Elab.async false
set_option linter.all false
set_option pp.maxSteps 700
set_option maxRecDepth 100000
set_option maxHeartbeats 4000000
namespace VL
open PySem PySem.Spec PyProof.Rows L2
theorem Sm.new {t : Addr} {o : HO} {H : Hp} (h : H t = none) : Same H (upd H t o) := fun b u e => by rw [upd_ne (ne_of_none e h)]; exact e
def spFalse : Sp := fun _ _ _ _ => False
/-! ### values as data -/
def dKey (k : List Nat) : PyData := .str (TX k)
mutual
def encJ : Jv → PyData
  | .nul => .none
  | .bo b => .bool b
  | .nu i => .int i
  | .tx l => .str (TX l)
  | .li vs => .list (encJs vs)
  | .re ks vs => .dict (List.zip (ks.map dKey) (encJs vs))
def encJs : List Jv → List PyData
  | [] => []
  | v :: r => encJ v :: encJs r
end
theorem encJs_map : ∀ vs : List Jv, encJs vs = vs.map encJ
  | [] => by simp [encJs]
  | v :: r => by simp [encJs, encJs_map r]
theorem encJs_len (vs : List Jv) : (encJs vs).length = vs.length := by rw [encJs_map, List.length_map]
theorem encJs_app (a b : List Jv) : encJs (a ++ b) = encJs a ++ encJs b := by simp [encJs_map]
theorem dq_strJ {H : Hp} {v : V} {x : Str} (h : Dq H v (.str x)) : v = .str x := by cases h; rfl
theorem zipK_zip : ∀ (ks : List (Key × V)) (ds : List PyData), zipK ks ds = List.zip (ks.map fun p => enK p.1) ds
  | [], ds => by unfold zipK; simp
  | p :: ks, [] => by unfold zipK; simp
  | p :: ks, d :: ds => by
    show (enK p.1, d) :: zipK ks ds = _
    rw [zipK_zip ks ds]
    simp
/-- what a record is -/
structure RecA (H : Hp) (a : Addr) (ks : List (List Nat)) (vs : List Jv) (tks : List (Key × V)) : Prop where
  at_ : H a = some (.dK tks)
  nd : (tks.map (·.1)).Nodup
  keys : tks.map (·.1) = ks.map fun k => (Sum.inr (TX k) : Key)
  vals : DqAll H (tks.map (·.2)) (encJs vs)
theorem rec_of {H : Hp} {v : V} {ks : List (List Nat)} {vs : List Jv} (hl : ks.length = vs.length) (h : Dq H v (encJ (.re ks vs))) : ∃ a tks, v = .ref a ∧ RecA H a ks vs tks := by
  simp only [encJ] at h
  generalize hz : List.zip (ks.map dKey) (encJs vs) = Z at h
  cases h with
  | @dic a tks ds h1 nd h2 =>
    have l2 := h2.len
    rw [List.length_map] at l2
    rw [zipK_zip] at hz
    have l1 : (ks.map dKey).length = (encJs vs).length := by rw [List.length_map, encJs_len, hl]
    obtain ⟨e1, e2⟩ := zip_fst _ _ l1
    obtain ⟨e3, e4⟩ := zip_fst (tks.map fun p => enK p.1) ds (by rw [List.length_map]; exact l2)
    rw [hz] at e1 e2
    rw [e3] at e1
    rw [e4] at e2
    refine ⟨a, tks, rfl, h1, nd, ?_, by rw [← e2]; exact h2⟩
    have key : ∀ (l : List (Key × V)) (m : List (List Nat)), (l.map fun p => enK p.1) = m.map dKey → l.map (·.1) = m.map fun k => (Sum.inr (TX k) : Key) := by
      intro l
      induction l with
      | nil => intro m h; cases m with
        | nil => rfl
        | cons _ _ => simp at h
      | cons p l ih => intro m h; cases m with
        | nil => simp at h
        | cons k m =>
          simp only [List.map_cons, List.cons.injEq] at h ⊢
          refine ⟨?_, ih m h.2⟩
          exact enK_inj (a := p.1) (b := .inr (TX k)) h.1
    exact key _ _ e1
theorem rec_to {H : Hp} {a : Addr} {ks : List (List Nat)} {vs : List Jv} {tks : List (Key × V)} (h : RecA H a ks vs tks) : Dq H (.ref a) (encJ (.re ks vs)) := by
  have e : List.zip (ks.map dKey) (encJs vs) = zipK tks (encJs vs) := by
    rw [zipK_zip]
    congr 1
    have := congrArg (List.map enK) h.keys
    rw [List.map_map, List.map_map] at this
    exact this.symm
  simp only [encJ]
  rw [e]
  exact .dic h.at_ h.nd h.vals
theorem RecA.same {H H' : Hp} {a : Addr} {ks : List (List Nat)} {vs : List Jv} {tks : List (Key × V)} (h : RecA H a ks vs tks) (s : Same H H') : RecA H' a ks vs tks := ⟨s _ _ h.at_, h.nd, h.keys, h.vals.same s⟩
def isTxJ : Jv → Bool | .tx _ => true | _ => false
def isLiJ : Jv → Bool | .li _ => true | _ => false
def isReJ : Jv → Bool | .re _ _ => true | _ => false
def isBoJ : Jv → Bool | .bo _ => true | _ => false
def isNuJ : Jv → Bool | .nu _ => true | .bo _ => true | _ => false
theorem j_ty {K : PySem.W.Frag} {H : Hp} {v : V} : ∀ {j : Jv}, Dq H v (encJ j) → ∃ t : String, TyX K H v (.type t) ∧ kitB t "str" = some (isTxJ j) ∧ kitB t "list" = some (isLiJ j) ∧ kitB t "dict" = some (isReJ j) ∧ kitB t "bool" = some (isBoJ j) ∧ kitB t "int" = some (isNuJ j)
  | .nul, h => by simp only [encJ] at h; cases h; exact ⟨"NoneType", .base .non, (show kitB "NoneType" "str" = some false from by decide +kernel), (show kitB "NoneType" "list" = some false from by decide +kernel), (show kitB "NoneType" "dict" = some false from by decide +kernel), (show kitB "NoneType" "bool" = some false from by decide +kernel), (show kitB "NoneType" "int" = some false from by decide +kernel)⟩
  | .bo b, h => by simp only [encJ] at h; cases h; exact ⟨"bool", .base (.bl b), (show kitB "bool" "str" = some false from by decide +kernel), (show kitB "bool" "list" = some false from by decide +kernel), (show kitB "bool" "dict" = some false from by decide +kernel), (show kitB "bool" "bool" = some true from by decide +kernel), (show kitB "bool" "int" = some true from by decide +kernel)⟩
  | .nu i, h => by simp only [encJ] at h; cases h; exact ⟨"int", .base (.int i), (show kitB "int" "str" = some false from by decide +kernel), (show kitB "int" "list" = some false from by decide +kernel), (show kitB "int" "dict" = some false from by decide +kernel), (show kitB "int" "bool" = some false from by decide +kernel), (show kitB "int" "int" = some true from by decide +kernel)⟩
  | .tx l, h => by simp only [encJ] at h; cases h; exact ⟨"str", .base (.str _), (show kitB "str" "str" = some true from by decide +kernel), (show kitB "str" "list" = some false from by decide +kernel), (show kitB "str" "dict" = some false from by decide +kernel), (show kitB "str" "bool" = some false from by decide +kernel), (show kitB "str" "int" = some false from by decide +kernel)⟩
  | .li vs, h => by
    simp only [encJ] at h
    obtain ⟨a, xs, rfl, h1, _⟩ := dq_list h
    exact ⟨"list", .base (.lst h1), (show kitB "list" "str" = some false from by decide +kernel), (show kitB "list" "list" = some true from by decide +kernel), (show kitB "list" "dict" = some false from by decide +kernel), (show kitB "list" "bool" = some false from by decide +kernel), (show kitB "list" "int" = some false from by decide +kernel)⟩
  | .re ks vs, h => by
    simp only [encJ] at h
    obtain ⟨a, tks, rfl, h1, _⟩ := dq_dict h
    exact ⟨"dict", .base (.dK h1), (show kitB "dict" "str" = some false from by decide +kernel), (show kitB "dict" "list" = some false from by decide +kernel), (show kitB "dict" "dict" = some true from by decide +kernel), (show kitB "dict" "bool" = some false from by decide +kernel), (show kitB "dict" "int" = some false from by decide +kernel)⟩
def spIs (g : Jv → Bool) : Sp := fun vs H Q _ => ∃ (v : V) (j : Jv), vs = [v] ∧ Dq H v (encJ j) ∧ Q (.bl (g j)) H
def spQuo : Sp := fun vs H Q _ => ∃ l, vs = [.str (TX l)] ∧ l.length ≤ 1000000 ∧ Q (.str (TX (qT l))) H
/-- a value's text -/
def spVal (n : Nat) : Sp := fun vs H Q _ => ∃ (v : V) (j : Jv), vs = [v] ∧ Dq H v (encJ j) ∧ gv j ∧ dv j ≤ n ∧ (wr j).length ≤ 1000000 ∧ ∀ H', Same H H' → Q (.str (TX (wr j))) H'
def spWC (n : Nat) : Sp := fun vs H Q _ => ∃ (a : Addr) (nm : List Nat) (js : List Jv), vs = [.str (TX nm), .ref a] ∧ Dq H (.ref a) (.list (encJs js)) ∧ gvs js ∧ dvs js ≤ n ∧ (wr (.li (.tx nm :: js))).length ≤ 1000000 ∧ ∀ H', Same H H' → Q (.str (TX (wr (.li (.tx nm :: js))))) H'
theorem k_bs : ("\\" : Str) = TX [92] := rfl
theorem k_bsbs : ("\\\\" : Str) = TX [92, 92] := rfl
theorem k_q : ("\"" : Str) = TX [34] := rfl
theorem k_bsq : ("\\\"" : Str) = TX [92, 34] := rfl
theorem k_nl : ("\n" : Str) = TX [10] := rfl
theorem k_bsn : ("\\n" : Str) = TX [92, 110] := rfl
theorem k_cm : ("," : Str) = TX [44] := rfl
theorem k_lb : ("[" : Str) = TX [91] := rfl
theorem k_rb : ("]" : Str) = TX [93] := rfl
theorem k_lc : ("{" : Str) = TX [123] := rfl
theorem k_rc : ("}" : Str) = TX [125] := rfl
theorem k_co : (":" : Str) = TX [58] := rfl
theorem k_0 : Str.empty = TX [] := rfl
theorem k_00 : ("" : Str) = TX [] := rfl
theorem k_null : ("null" : Str) = TX wNull := rfl
theorem k_true : ("true" : Str) = TX wTrue := rfl
theorem k_false : ("false" : Str) = TX wFalse := rfl
theorem rep_eq {l z : List Nat} {c : Nat} {a b : Str} (ha : a = TX [c]) (hb : b = TX z) : Txt.replace (TX l) a b = TX (rep1 c z l) := by subst ha hb; exact replace_TX
theorem rep_len {c k : Nat} {z : List Nat} (h : z.length ≤ k) (hk : 1 ≤ k) : ∀ l : List Nat, (rep1 c z l).length ≤ k * l.length
  | [] => by simp [rep1]
  | d :: l => by
    have ih := rep_len (c := c) h hk l
    have e : rep1 c z (d :: l) = (if d = c then z else [d]) ++ rep1 c z l := by simp [rep1]
    rw [e, List.length_append, List.length_cons, Nat.mul_succ]
    have : (if d = c then z else [d]).length ≤ k := by
      split
      · exact h
      · exact hk
    omega
theorem rep_eTx : ∀ l : List Nat, rep1 10 [92, 110] (rep1 34 [92, 34] (rep1 92 [92, 92] l)) = eTx l
  | [] => rfl
  | c :: l => by
    have ih := rep_eTx l
    have e : ∀ d z (a b : List Nat), rep1 d z (a ++ b) = rep1 d z a ++ rep1 d z b := fun d z a b => by simp [rep1]
    have c1 : rep1 92 [92, 92] (c :: l) = rep1 92 [92, 92] [c] ++ rep1 92 [92, 92] l := e _ _ [c] l
    rw [c1, e, e, ih]
    have : rep1 10 [92, 110] (rep1 34 [92, 34] (rep1 92 [92, 92] [c])) = eCh c := by
      unfold eCh
      by_cases h1 : c = 92
      · subst h1; decide
      · by_cases h2 : c = 34
        · subst h2; decide
        · by_cases h3 : c = 10
          · subst h3; decide
          · simp [rep1, h1, h2, h3]
    rw [this]
    simp [eTx]
theorem nuT_TX (i : Int) : Str.ofString (toString i) = TX (nuT i) := by
  cases i with
  | ofNat n => exact TL.ext_tl (TL.tl_num n)
  | negSucc n =>
    have e : toString (Int.negSucc n) = "-" ++ toString ((n + 1 : Nat) : Int) := rfl
    have h := SX.num_S (n + 1)
    rw [PySem.Str.ofString_eq_toList] at h
    rw [e, PySem.Str.ofString_eq_toList, String.toList_append, List.map_append]
    have h2 : ((toString ((n + 1 : Nat) : Int)).toList.map Char.toNat) = TL.numL (n + 1) := by
      have := congrArg (fun s : Str => s.cps.toList) h
      simpa using this
    rw [h2]
    rfl
theorem log_ok {i : Int} (h1 : i.natAbs ≤ 10 ^ 30) : i.natAbs.log2 < 1920 := by
  have h2 : i.natAbs < 2 ^ 1920 := Nat.lt_of_le_of_lt h1 (by decide)
  by_cases hz : i.natAbs = 0
  · rw [hz]; decide
  · exact (Nat.log2_lt hz).mpr h2
section
variable {P : Program} {w : World} {K : PySem.W.Frag} {mg : Str → Option Value} {base : Heap} {C : Ad}
theorem sc_is_text : FnScope ["value"] ["value"] (defScope s_is_text) := ⟨rfl, rfl, rfl, by decide +kernel, rfl, by decide +kernel, by decide +kernel⟩
theorem ok_is_text (T : Txt K w mg C) : Cal P w K mg base 1 "is_text" (spIs isTxJ) := by
  refine cal_of T.d_is_text sc_is_text (fun vs H Q E h => ?_) (fun f cdv A outer s H vs Q E hr h => ?_)
  · obtain ⟨v, j, rfl, _⟩ := h
    rfl
  · obtain ⟨v, j, rfl, hd, q⟩ := h
    obtain ⟨t, ty, k1, k2, k3, k4, k5⟩ := j_ty (K := K) hd
    exact ⟨_, (pss_one (ps_ret (pe_callB call_isi (by rfl) T.z_isinstance (by decide +kernel) (pa_cons (pv 0) (pa_cons (pe_bltn (v := .ty "str") (by rfl) T.z_str (by decide +kernel) rfl) pa_nil))))), ⟨_, rfl, v, .ty "str", _, _, _, rfl, .ty _, ty, kit_ty k1, q⟩⟩
theorem sc_is_list : FnScope ["value"] ["value"] (defScope s_is_list) := ⟨rfl, rfl, rfl, by decide +kernel, rfl, by decide +kernel, by decide +kernel⟩
theorem ok_is_list (T : Txt K w mg C) : Cal P w K mg base 1 "is_list" (spIs isLiJ) := by
  refine cal_of T.d_is_list sc_is_list (fun vs H Q E h => ?_) (fun f cdv A outer s H vs Q E hr h => ?_)
  · obtain ⟨v, j, rfl, _⟩ := h
    rfl
  · obtain ⟨v, j, rfl, hd, q⟩ := h
    obtain ⟨t, ty, k1, k2, k3, k4, k5⟩ := j_ty (K := K) hd
    exact ⟨_, (pss_one (ps_ret (pe_callB call_isi (by rfl) T.z_isinstance (by decide +kernel) (pa_cons (pv 0) (pa_cons (pe_bltn (v := .ty "list") (by rfl) T.z_list (by decide +kernel) rfl) pa_nil))))), ⟨_, rfl, v, .ty "list", _, _, _, rfl, .ty _, ty, kit_ty k2, q⟩⟩
theorem sc_is_record : FnScope ["value"] ["value"] (defScope s_is_record) := ⟨rfl, rfl, rfl, by decide +kernel, rfl, by decide +kernel, by decide +kernel⟩
theorem ok_is_record (T : Txt K w mg C) : Cal P w K mg base 1 "is_record" (spIs isReJ) := by
  refine cal_of T.d_is_record sc_is_record (fun vs H Q E h => ?_) (fun f cdv A outer s H vs Q E hr h => ?_)
  · obtain ⟨v, j, rfl, _⟩ := h
    rfl
  · obtain ⟨v, j, rfl, hd, q⟩ := h
    obtain ⟨t, ty, k1, k2, k3, k4, k5⟩ := j_ty (K := K) hd
    exact ⟨_, (pss_one (ps_ret (pe_callB call_isi (by rfl) T.z_isinstance (by decide +kernel) (pa_cons (pv 0) (pa_cons (pe_bltn (v := .ty "dict") (by rfl) T.z_dict (by decide +kernel) rfl) pa_nil))))), ⟨_, rfl, v, .ty "dict", _, _, _, rfl, .ty _, ty, kit_ty k3, q⟩⟩
theorem sc_quoted : FnScope ["text", "inner"] ["text"] (defScope s_quoted) := ⟨rfl, rfl, rfl, by decide +kernel, rfl, by decide +kernel, by decide +kernel⟩
theorem ok_quoted (T : Txt K w mg C) : Cal P w K mg base 1 "quoted" spQuo := by
  refine cal_ofT T.d_quoted sc_quoted (by decide +kernel) (by decide) (fun vs H Q E h => ?_) (fun f cdv A outer s H vs Q E hr h => ?_)
  · obtain ⟨l, rfl, _⟩ := h
    rfl
  · obtain ⟨l, rfl, hl, q⟩ := h
    have h1 := rep_len (c := 92) (z := [92, 92]) (k := 2) (by decide) (by decide) l
    have h2 := rep_len (c := 34) (z := [92, 34]) (k := 2) (by decide) (by decide) (rep1 92 [92, 92] l)
    have h3 := rep_len (c := 10) (z := [92, 110]) (k := 2) (by decide) (by decide) (rep1 34 [92, 34] (rep1 92 [92, 92] l))
    rw [rep_eTx] at h3
    have big : 10000000 < sizeLine := by decide
    refine ⟨_, psst_cons (pst_set (i := 1) sc_quoted.nd rfl (Or.inl rfl) (CwR.pet_replT (CwR.pet_replT (CwR.pet_replC (pv 0))))) (PSsT.of (pss_one (ps_ret (pe_op op_add_str (pe_op op_add_str pe_str (pv 1)) pe_str)))), ?_⟩
    refine ⟨_, rfl, _, rfl, ?_, ?_⟩
    · rw [TX_len]
      show l.length + (l.length + 1) * 2 ≤ _
      omega
    rw [rep_eq k_bs k_bsbs]
    refine ⟨_, rfl, ?_, ?_⟩
    · rw [TX_len]
      show (rep1 92 [92, 92] l).length + ((rep1 92 [92, 92] l).length + 1) * 2 ≤ _
      omega
    rw [rep_eq k_q k_bsq]
    refine ⟨_, rfl, ?_, ?_⟩
    · rw [TX_len]
      show (rep1 34 [92, 34] (rep1 92 [92, 92] l)).length + ((rep1 34 [92, 34] (rep1 92 [92, 92] l)).length + 1) * 2 ≤ _
      omega
    rw [rep_eq k_nl k_bsn, rep_eTx]
    refine ⟨_, rfl, _, _, rfl, rfl, ?_, _, _, rfl, rfl, ?_, ?_⟩
    · rw [k_q, TX_len, TX_len]
      show 1 + _ ≤ _
      omega
    · rw [k_q, TX_cat, TX_len, TX_len, List.length_append]
      show 1 + _ + 1 ≤ _
      omega
    · rw [k_q, TX_cat, TX_cat]
      exact q
theorem sc_value_text : FnScope ["value", "member", "name"] ["value"] (defScope s_value_text) := ⟨rfl, rfl, rfl, by decide +kernel, rfl, by decide +kernel, by decide +kernel⟩
theorem join_sep : ∀ ls : List (List Nat), Txt.join (TX [44]) (ls.map TX) = TX (sepJ ls) := by
  intro ls
  rw [TL.join_eq]
  induction ls with
  | nil => rfl
  | cons a r ih =>
    cases r with
    | nil =>
      show TX a = _
      simp [sepJ, tailJ]
    | cons b r =>
      show TX a ++ TX [44] ++ Str.join (TX [44]) ((b :: r).map TX) = _
      rw [ih, TX_cat, TX_cat]
      simp [sepJ, tailJ]
theorem len_sep (ls : List (List Nat)) : ls.flatten.length + ls.length ≤ (sepJ ls).length + 1 := by
  have key : ∀ l : List (List Nat), (tailJ l).length = l.flatten.length + l.length := by
    intro l
    induction l with
    | nil => rfl
    | cons a l ih => simp only [tailJ, List.length_cons, List.length_append, ih, List.flatten_cons]; omega
  cases ls with
  | nil => simp [sepJ]
  | cons a l =>
    have := key l
    simp only [sepJ, List.flatten_cons, List.length_append, List.length_cons]
    omega
theorem mem_sep {x : List Nat} {ls : List (List Nat)} (h : x ∈ ls) : x.length ≤ (sepJ ls).length := by
  have : x.length ≤ ls.flatten.length := by
    obtain ⟨a, b, rfl⟩ := List.append_of_mem h
    simp only [List.flatten_append, List.flatten_cons, List.length_append]
    omega
  have l1 := len_sep ls
  have : 1 ≤ ls.length := List.length_pos_of_mem h
  omega
theorem eTx_len (l : List Nat) : l.length ≤ (eTx l).length := by
  induction l with
  | nil => exact Nat.zero_le _
  | cons c l ih =>
    have e : eTx (c :: l) = eCh c ++ eTx l := by simp [eTx]
    have : 1 ≤ (eCh c).length := by
      unfold eCh
      split
      · simp
      · split
        · simp
        · split <;> simp
    rw [e, List.length_append, List.length_cons]
    omega
theorem value_0 (T : Txt K w mg C) {k : Nat} : Cal P w K mg base (k + 1) "value_text" spFalse := cal_of T.d_value_text sc_value_text (fun vs H Q E h => h.elim) (fun f cdv A outer s H vs Q E hr h => h.elim)
theorem value_S (T : Txt K w mg C) {n : Nat} {sp : Sp} (hsp : ∀ m, m + 1 = n → sp = spVal m) (Gvalue_text : Cal P w K mg base (n + 2) "value_text" sp) : Cal P w K mg base (n + 3) "value_text" (spVal n) := by
  have Gis_text := ok_is_text (P := P) (base := base) T
  have Gis_list := ok_is_list (P := P) (base := base) T
  have Gis_record := ok_is_record (P := P) (base := base) T
  have Gquoted := ok_quoted (P := P) (base := base) T
  refine cal_of T.d_value_text sc_value_text (fun vs H Q E h => ?_) (fun f cdv A outer s H vs Q E hr h => ?_)
  · obtain ⟨v, j, rfl, _⟩ := h
    rfl
  · obtain ⟨v, j, rfl, hd, hg, hn, hl, q⟩ := h
    have hu := hu_of hr
    have big : 10000000 < sizeLine := by decide
    refine ⟨_, (pss_cons (ps_if (pt_cmp (pc_isN (pv 0))) (pss_one (ps_ret pe_str)) pss_nil) (pss_cons (ps_if (pt_cmpR op_isBl (pv 0) pe_bl (nomark _)) (pss_one (ps_ret pe_str)) pss_nil) (pss_cons (ps_if (pt_cmpR op_isBl (pv 0) pe_bl (nomark _)) (pss_one (ps_ret pe_str)) pss_nil) (pss_cons (ps_if (pt_val (pe_c Gis_text hr (by omega) (by rfl) (pa_cons (pv 0) pa_nil))) (pss_one (ps_ret (pe_c Gquoted hr (by omega) (by rfl) (pa_cons (pv 0) pa_nil)))) pss_nil) (pss_cons (ps_if (pt_val (pe_c Gis_list hr (by omega) (by rfl) (pa_cons (pv 0) pa_nil))) (pss_one (ps_ret (pe_op op_add_str (pe_op op_add_str pe_str (pe_join pe_str (pe_lc (own := [("member", 1)]) (g := gName 1) (tt := tYes) rfl sc_value_text.nd (pi_list (pv 0)) (blkOk_by (N := ["value", "member", "name"]) (sc := (defScope s_value_text)) (by decide +kernel)) (fun _ _ _ _ _ => pg_name (i := 1) sc_value_text.nd rfl (Or.inl rfl)) (fun _ _ _ _ _ => pts_nil) (fun _ _ _ _ _ => (pe_c Gvalue_text hr (by omega) (by rfl) (pa_cons (pv 1) pa_nil)))))) pe_str))) pss_nil) (pss_cons (ps_if (pt_val (pe_c Gis_record hr (by omega) (by rfl) (pa_cons (pv 0) pa_nil))) (pss_one (ps_ret (pe_op op_add_str (pe_op op_add_str pe_str (pe_join pe_str (pe_lock (pe_lc (own := [("name", 2)]) (g := gName 2) (tt := tYes) rfl sc_value_text.nd (pi_keys (pv 0)) (blkOk_by (N := ["value", "member", "name"]) (sc := (defScope s_value_text)) (by decide +kernel)) (fun _ _ _ _ _ => pg_name (i := 2) sc_value_text.nd rfl (Or.inl rfl)) (fun _ _ _ _ _ => pts_nil) (fun _ _ _ _ _ => (pe_joinedT (PJ.cons (pe_fmt (pe_c Gquoted hr (by omega) (by rfl) (pa_cons (pv 2) pa_nil))) (PJ.cons pe_str (PJ.cons (pe_fmt (pe_c Gvalue_text hr (by omega) (by rfl) (pa_cons (pe_dget hu (pv 0) (pv 2) (fun _ _ => rfl)) pa_nil))) PJ.nil))))))))) pe_str))) pss_nil) (pss_one (ps_ret (pe_callTy call_str_int (by rfl) T.z_str (by decide +kernel) (pa_cons (pv 0) pa_nil)))))))))), ?_⟩
    have q0 := q H (Same.refl _)
    cases j with
    | nul =>
      simp only [encJ] at hd
      cases hd
      refine ⟨_, rfl, true, rfl, iteT ?_⟩
      exact q0
    | bo b =>
      simp only [encJ] at hd
      cases hd
      refine ⟨_, rfl, false, rfl, iteF ?_⟩
      refine ⟨_, rfl, _, rfl, _, rfl, ?_⟩
      cases b with
      | true => exact ite2 (fun _ => q0) (fun c => absurd (by simp) c)
      | false =>
        refine ite2 (fun c => absurd c (by simp)) (fun _ => ?_)
        refine ⟨_, rfl, _, rfl, _, rfl, ?_⟩
        exact ite2 (fun _ => q0) (fun c => absurd (by simp) c)
    | nu i =>
      have hd0 := hd
      simp only [encJ] at hd
      cases hd
      refine ⟨_, rfl, false, rfl, iteF ?_⟩
      refine ⟨_, rfl, _, rfl, _, rfl, ite2 (fun c => absurd c (by simp)) (fun _ => ?_)⟩
      refine ⟨_, rfl, _, rfl, _, rfl, ite2 (fun c => absurd c (by simp)) (fun _ => ?_)⟩
      refine ⟨_, rfl, _, _, rfl, hd0, _, rfl, iteF ?_⟩
      refine ⟨_, rfl, _, _, rfl, hd0, _, rfl, iteF ?_⟩
      refine ⟨_, rfl, _, _, rfl, hd0, _, rfl, iteF ?_⟩
      refine ⟨_, rfl, _, rfl, log_ok (by simpa only [gv] using hg), ?_⟩
      rw [nuT_TX]
      exact q0
    | tx l =>
      have hd0 := hd
      simp only [encJ] at hd
      cases hd
      have ll := eTx_len l
      simp only [wr, qT, List.length_cons, List.length_append] at hl
      refine ⟨_, rfl, false, rfl, iteF ?_⟩
      refine ⟨_, rfl, _, rfl, _, rfl, ite2 (fun c => absurd c (by simp)) (fun _ => ?_)⟩
      refine ⟨_, rfl, _, rfl, _, rfl, ite2 (fun c => absurd c (by simp)) (fun _ => ?_)⟩
      refine ⟨_, rfl, _, _, rfl, hd0, _, rfl, iteT ?_⟩
      exact ⟨_, rfl, l, rfl, by omega, q0⟩
    | li vs =>
      have hd0 := hd
      simp only [encJ] at hd
      obtain ⟨a, xs, rfl, ha, da⟩ := dq_list hd
      refine ⟨_, rfl, false, rfl, iteF ?_⟩
      refine ⟨_, rfl, _, rfl, _, rfl, ite2 (fun c => absurd c (by simp)) (fun _ => ?_)⟩
      refine ⟨_, rfl, _, rfl, _, rfl, ite2 (fun c => absurd c (by simp)) (fun _ => ?_)⟩
      refine ⟨_, rfl, _, _, rfl, hd0, _, rfl, iteF ?_⟩
      refine ⟨_, rfl, _, _, rfl, hd0, _, rfl, iteT ?_⟩
      have xl := da.len
      rw [encJs_len] at xl
      simp only [wr, List.length_cons, List.length_append] at hl
      have ls := len_sep (wrs vs)
      have wl : (wrs vs).length = vs.length := by rw [wrs_map, List.length_map]
      have hg' : gvs vs := by simpa only [gv] using hg
      simp only [dv] at hn
      obtain ⟨m, rfl⟩ : ∃ m, n = m + 1 := ⟨n - 1, by omega⟩
      have e := hsp m rfl
      subst e
      refine ⟨⟨_, rfl⟩, _, rfl, a, rfl, ⟨_, SqL.of ha⟩, fun D hD => ?_⟩
      refine lc_it (walk_list (K := K) (a := a) (xs := xs)) (fun i H' => Same H H' ∧ H' D = some (.lst (((wrs (vs.take i)).map TX).map V.str))) ⟨Sm.new hD, by simp only [List.take_zero, wrs]; exact upd_same⟩ (fun i H' _ z => SqL.of (z.1 _ _ ha)) ?_ ?_
      · rintro i x H1 H2 hi ⟨s1, h1⟩ ⟨rfl, hx⟩
        have hi' : i < vs.length := by omega
        have hvi := List.getElem?_eq_getElem hi'
        obtain ⟨x', hx2, dx⟩ := dqAll_at da (by rw [encJs_map, List.getElem?_map, hvi]; rfl)
        have : x' = x := by rw [hx2] at hx; exact Option.some.inj hx
        subst this
        have tk : vs.take (i + 1) = vs.take i ++ [vs[i]] := by rw [List.take_add_one, hvi]; rfl
        have hm : vs[i] ∈ vs := List.getElem_mem hi'
        have wm : wr vs[i] ∈ wrs vs := by rw [wrs_map]; exact List.mem_map.mpr ⟨_, hm, rfl⟩
        have wml := mem_sep wm
        refine ⟨rfl, ?_⟩
        refine ⟨_, rfl, x', vs[i], rfl, dx.same s1, gvs_mem hg' hm, Nat.le_trans (dvs_mem hm) (by omega), by omega, fun H3 s3 => ?_⟩
        refine ⟨_, s3 _ _ h1, ?_, fun b o eb => ?_, ?_⟩
        · simp only [List.length_map, wrs_map, List.length_take]
          omega
        · rw [upd_ne (ne_of_none eb hD)]
          exact s3 _ _ (s1 _ _ eb)
        · rw [upd_same, tk, wrs_map, wrs_map, List.map_append, List.map_append, List.map_append]
          rfl
      · rintro H1 ⟨s1, h1⟩
        rw [xl, List.take_length] at h1
        refine ⟨_, D, _, rfl, rfl, .inl (SqL.of h1), ?_, ?_⟩
        · rw [sum_TX, k_cm, TX_len, List.length_map]
          show _ + _ * 1 ≤ _
          omega
        rw [k_cm, join_sep]
        refine ⟨_, _, rfl, rfl, ?_, _, _, rfl, rfl, ?_, ?_⟩
        · rw [k_lb, TX_len, TX_len]
          show 1 + _ ≤ _
          omega
        · rw [k_lb, k_rb, TX_cat, TX_len, TX_len, List.length_append]
          show 1 + _ + 1 ≤ _
          omega
        · rw [k_lb, k_rb, TX_cat, TX_cat]
          exact q _ s1
    | re ks vs =>
      have hd0 := hd
      obtain ⟨kl, knd, hg'⟩ : ks.length = vs.length ∧ ks.Nodup ∧ gvs vs := by simpa only [gv] using hg
      obtain ⟨a, tks, rfl, R⟩ := rec_of kl hd
      refine ⟨_, rfl, false, rfl, iteF ?_⟩
      refine ⟨_, rfl, _, rfl, _, rfl, ite2 (fun c => absurd c (by simp)) (fun _ => ?_)⟩
      refine ⟨_, rfl, _, rfl, _, rfl, ite2 (fun c => absurd c (by simp)) (fun _ => ?_)⟩
      refine ⟨_, rfl, _, _, rfl, hd0, _, rfl, iteF ?_⟩
      refine ⟨_, rfl, _, _, rfl, hd0, _, rfl, iteF ?_⟩
      refine ⟨_, rfl, _, _, rfl, hd0, _, rfl, iteT ?_⟩
      have tl := R.vals.len
      rw [List.length_map, encJs_len] at tl
      have wl : (wrs vs).length = vs.length := by rw [wrs_map, List.length_map]
      simp only [wr, List.length_cons, List.length_append] at hl
      have ls := len_sep (List.zipWith fldT ks (wrs vs))
      have zl : (List.zipWith fldT ks (wrs vs)).length = vs.length := by rw [List.length_zipWith, wl, kl, Nat.min_self]
      simp only [dv] at hn
      obtain ⟨m, rfl⟩ : ∃ m, n = m + 1 := ⟨n - 1, by omega⟩
      have e := hsp m rfl
      subst e
      refine ⟨⟨_, rfl⟩, a, _, R.at_, trivial, fun od => ?_⟩
      have hlk : upd H a (.frz od (.dK tks)) a = some (.frz od (.dK tks)) := upd_same
      refine ⟨_, rfl, a, od, rfl, .inl ⟨_, hlk, fun D hD => ?_⟩⟩
      have hDa : D ≠ a := fun z => by rw [z, upd_same] at hD; cases hD
      have hDn : H D = none := by rw [upd_ne hDa] at hD; exact hD
      refine lc_it (walk_keys (d := a) (o := od) (kvs := tks)) (fun i H' => Same (upd H a (.frz od (.dK tks))) H' ∧ H' D = some (.lst (((List.zipWith fldT (ks.take i) (wrs (vs.take i))).map TX).map V.str))) ⟨Sm.new hD, by simp only [List.take_zero, wrs]; exact upd_same⟩ (fun i H' _ z => z.1 _ _ hlk) ?_ ?_
      · rintro i x H1 H2 hi ⟨s1, h1⟩ ⟨rfl, k, v, hkv, rfl⟩
        have hi' : i < vs.length := by omega
        have hvi := List.getElem?_eq_getElem hi'
        have hki := List.getElem?_eq_getElem (show i < ks.length by omega)
        obtain ⟨v', hv2, dv0⟩ := dqAll_at R.vals (i := i) (by rw [encJs_map, List.getElem?_map, hvi]; rfl)
        have : v' = v := by
          rw [List.getElem?_map, hkv] at hv2
          exact (Option.some.inj hv2).symm
        subst this
        have ek : k = .inr (TX (ks[i]'(by omega))) := by
          have := congrArg (fun l => l[i]?) R.keys
          simp only [List.getElem?_map, hkv, hki, Option.map_some] at this
          exact Option.some.inj this
        subst ek
        have tk : vs.take (i + 1) = vs.take i ++ [vs[i]] := by rw [List.take_add_one, hvi]; rfl
        have tk2 : ks.take (i + 1) = ks.take i ++ [ks[i]'(by omega)] := by rw [List.take_add_one, hki]; rfl
        have hm : vs[i] ∈ vs := List.getElem_mem hi'
        have zi : (List.zipWith fldT ks (wrs vs))[i]? = some (fldT (ks[i]'(by omega)) (wr vs[i])) := by
          rw [List.getElem?_zipWith, hki, wrs_map, List.getElem?_map, hvi]
          rfl
        have wml := mem_sep (List.mem_of_getElem? zi)
        have e9 : (fldT (ks[i]'(by omega)) (wr vs[i])).length = (eTx (ks[i]'(by omega))).length + 2 + 1 + (wr vs[i]).length := by simp [fldT, qT]; omega
        have ee := eTx_len (ks[i]'(by omega))
        generalize ks[i]'(by omega) = kk at *
        have dv2 : Dq H2 v' (encJ vs[i]) := (dv0.upd hd0 (by
          have h1 : PyData.depth (encJ vs[i]) ≤ PyData.depthAll (encJs vs) := mem_depth (by rw [encJs_map]; exact List.mem_map.mpr ⟨_, hm, rfl⟩)
          have h2 := dKv_le tks (encJs vs) (by rw [encJs_len]; exact tl)
          have h3 : encJ (.re ks vs) = .dict (zipK tks (encJs vs)) := by
            simp only [encJ]
            rw [zipK_zip]
            congr 2
            have := congrArg (List.map enK) R.keys
            rw [List.map_map, List.map_map] at this
            exact this.symm
          rw [h3]
          show _ < PyData.depthKv (zipK tks (encJs vs)) + 1
          omega)).same s1
        refine ⟨rfl, ?_⟩
        refine ⟨_, rfl, kk, rfl, by omega, .inl ⟨_, rfl, ?_, _, rfl, ?_, _, rfl, ?_, _, rfl, _, rfl, a, v', rfl, (by rw [← valV_nd R.nd hkv]; exact dget_fz (k := .inr (TX kk)) (s1 _ _ hlk)), v', vs[i], rfl, dv2, gvs_mem hg' hm, Nat.le_trans (dvs_mem hm) (by omega), by omega, fun H3 s3 => .inl ⟨_, rfl, ?_, _, rfl, ?_, ?_⟩⟩⟩
        · simp only [TX_len, qT, List.length_cons, List.length_append, List.length_nil]
          omega
        · simp only [strApp, TX_len, k_0, qT, List.length_cons, List.length_append, List.length_nil]
          omega
        · simp only [strApp, TX_len, k_0, k_co, qT, List.length_cons, List.length_append, List.length_nil]
          omega
        · simp only [TX_len]
          omega
        · simp only [strApp, TX_len, k_0, k_co, qT, List.length_cons, List.length_append, List.length_nil]
          omega
        refine ⟨_, s3 _ _ h1, ?_, fun b o eb => ?_, ?_⟩
        · simp only [List.length_map, List.length_zipWith, wrs_map, List.length_take]
          omega
        · rw [upd_ne (ne_of_none eb hD)]
          exact s3 _ _ (s1 _ _ eb)
        · rw [upd_same, tk, tk2, wrs_map, wrs_map, List.map_append, List.zipWith_append (by rw [List.length_map, List.length_take, List.length_take]; omega), List.map_append, List.map_append]
          simp only [k_0, k_co, TX_cat]
          simp [fldT]
      · rintro H1 ⟨s1, h1⟩
        rw [tl, List.take_length, ← kl, List.take_length] at h1
        refine ⟨s1 _ _ hlk, ?_⟩
        have hD2 : upd H1 a (.dK tks) D = some (.lst (((List.zipWith fldT ks (wrs vs)).map TX).map V.str)) := by rw [upd_ne hDa]; exact h1
        refine ⟨_, D, _, rfl, rfl, .inl (SqL.of hD2), ?_, ?_⟩
        · rw [sum_TX, k_cm, TX_len, List.length_map]
          show _ + _ * 1 ≤ _
          omega
        rw [k_cm, join_sep]
        refine ⟨_, _, rfl, rfl, ?_, _, _, rfl, rfl, ?_, ?_⟩
        · rw [k_lc, TX_len, TX_len]
          show 1 + _ ≤ _
          omega
        · rw [k_lc, k_rc, TX_cat, TX_len, TX_len, List.length_append]
          show 1 + _ + 1 ≤ _
          omega
        · rw [k_lc, k_rc, TX_cat, TX_cat]
          refine q _ fun b o eb => ?_
          by_cases e : b = a
          · subst e
            rw [upd_same, ← R.at_, eb]
          · rw [upd_ne e]
            exact s1 _ _ (by rw [upd_ne e]; exact eb)
theorem value_N (T : Txt K w mg C) : ∀ n : Nat, Cal P w K mg base (n + 3) "value_text" (spVal n)
  | 0 => value_S T (n := 0) (sp := spFalse) (fun m h => by omega) (value_0 T)
  | n + 1 => value_S T (n := n + 1) (sp := spVal n) (fun m h => by rw [Nat.succ.inj h]) (value_N T n)
theorem sc_write_call : FnScope ["name", "values"] ["name", "values"] (defScope s_write_call) := ⟨rfl, rfl, rfl, by decide +kernel, rfl, by decide +kernel, by decide +kernel⟩
theorem ok_wc (T : Txt K w mg C) (n : Nat) : Cal P w K mg base (n + 5) "write_call" (spWC n) := by
  have Gvalue_text := value_N (P := P) (base := base) T (n + 1)
  refine cal_of T.d_write_call sc_write_call (fun vs H Q E h => ?_) (fun f cdv A outer s H vs Q E hr h => ?_)
  · obtain ⟨a, nm, js, rfl, _⟩ := h
    rfl
  · obtain ⟨a, nm, js, rfl, hd, hg, hn, hl, q⟩ := h
    obtain ⟨b, xs, e, ha, da⟩ := dq_list hd
    cases e
    have big : 10000000 < sizeLine := by decide
    have xl := da.len
    rw [encJs_len] at xl
    have jl : js.length ≤ 1000000 := by
      have h1 := len_sep (wrs (.tx nm :: js))
      simp only [wr, List.length_cons, List.length_append] at hl
      have h2 : (wrs (.tx nm :: js)).length = js.length + 1 := by rw [wrs_map, List.length_map, List.length_cons]
      omega
    refine ⟨_, (pss_one (ps_ret (pe_c Gvalue_text hr (by omega) (by rfl) (pa_cons (pe_lst (pa_cons (pv 0) (StX.pa_star (pv 1) pa_nil))) pa_nil)))), ?_⟩
    refine ⟨_, rfl, _, rfl, a, _, rfl, .inr (SqL.of ha), ?_, fun p hp => ?_⟩
    · show (V.str (TX nm) :: (xs ++ [])).length ≤ _
      simp only [List.append_nil, List.length_cons]
      omega
    · have s1 := Sm.new (o := .lst (V.str (TX nm) :: (xs ++ []))) hp
      refine ⟨.ref p, .li (.tx nm :: js), rfl, ?_, by simp only [gv, gvs]; exact ⟨trivial, hg⟩, by simp only [dv, dvs]; omega, hl, fun H' s' => q H' (Same.trans s1 s')⟩
      simp only [encJ, encJs]
      rw [List.append_nil] at s1 ⊢
      exact .lst upd_same (.cons (.str _) (da.same s1))
end
end VL

set_option Elab.async false
set_option linter.all false
set_option pp.maxSteps 700
set_option maxRecDepth 100000
set_option maxHeartbeats 4000000
namespace VL
open PySem PySem.Spec PyProof.Rows L2
/-! ### the reader -/
abbrev fsR (T : List Nat) (n : Nat) : List (Str × V) := [("text", .str (TX T)), ("at", .int (n : Int))]
theorem fs_CallReader_text {T : List Nat} {n : Nat} : (fsR T n).lookup ("text" : Str) = some (V.str (TX T)) := rfl
theorem fs_CallReader_at {T : List Nat} {n : Nat} : (fsR T n).lookup ("at" : Str) = some (V.int (n : Int)) := rfl
theorem put_at {T : List Nat} {n m : Nat} {z : Int} (h : z = (m : Int)) : putF "at" (.int z) (fsR T n) = fsR T m := by subst h; rfl
abbrev RD (C : Ad) (dx : Addr) (T : List Nat) (n : Nat) : HO := .ins C.CallReader dx (fsR T n)
theorem upd_id {H : Hp} {p : Addr} {o : HO} (h : H p = some o) : upd H p o = H := by
  funext b
  by_cases e : b = p
  · rw [e, upd_same, h]
  · rw [upd_ne e]
theorem cut_take {pre R : List Nat} {i j : Int} {k : Nat} (hi : i = (pre.length : Int)) (hj : j = ((pre.length + k : Nat) : Int)) : cutS (TX (pre ++ R)) (some i) (some j) = TX (R.take k) := by
  subst hi hj
  unfold cutS
  rw [TX_len, HT.sIx_nat, HT.sIx_nat, TX_tl]
  have e1 : min pre.length (pre ++ R).length = pre.length := by simp
  rw [e1]
  refine congrArg TX ?_
  rw [List.drop_left, List.length_append]
  by_cases h : k ≤ R.length
  · rw [Nat.min_eq_left (by omega), Nat.add_sub_cancel_left]
  · rw [Nat.min_eq_right (by omega), Nat.add_sub_cancel_left, List.take_length, List.take_of_length_le (by omega)]
theorem starts_take {pre R m : List Nat} {i : Int} (hi : i = (pre.length : Int)) : Txt.startswith3 (TX (pre ++ R)) (TX m) i = (R.take m.length == m) := starts_at hi
/-- where the reader stands -/
structure At (C : Ad) (H : Hp) (p dx : Addr) (cs R : List Nat) : Prop where
  h : H p = some (RD C dx (cs ++ R) cs.length)
  l : (cs ++ R).length ≤ 1000000
def spSign (C : Ad) : Sp := fun vs H Q _ => ∃ (p dx : Addr) (cs R : List Nat), vs = [.ref p] ∧ At C H p dx cs R ∧ Q (.str (TX (R.take 1))) H
def spHas (C : Ad) : Sp := fun vs H Q _ => ∃ (p dx : Addr) (cs R m : List Nat), vs = [.ref p, .str (TX m)] ∧ At C H p dx cs R ∧ m.length ≤ 100 ∧
  (R.take m.length = m → Q (.bl true) (upd H p (RD C dx (cs ++ R) (cs.length + m.length)))) ∧ (R.take m.length ≠ m → Q (.bl false) H)
def spNeed (C : Ad) : Sp := fun vs H Q E => ∃ (p dx : Addr) (cs R m : List Nat), vs = [.ref p, .str (TX m)] ∧ At C H p dx cs R ∧ m.length ≤ 100 ∧
  (R.take m.length = m → Q .non (upd H p (RD C dx (cs ++ R) (cs.length + m.length)))) ∧ (R.take m.length ≠ m → E (.ref C.InvalidCall) none H)
theorem At.go {C : Ad} {H : Hp} {p dx : Addr} {cs R : List Nat} {k : Nat} (a : At C H p dx cs R) (hk : k ≤ R.length) : At C (upd H p (RD C dx (cs ++ R) (cs.length + k))) p dx (cs ++ R.take k) (R.drop k) := by
  have e : cs ++ R.take k ++ R.drop k = cs ++ R := by rw [List.append_assoc, List.take_append_drop]
  refine ⟨?_, by rw [e]; exact a.l⟩
  rw [upd_same, e, List.length_append, List.length_take, Nat.min_eq_left hk]
section
variable {P : Program} {w : World} {K : PySem.W.Frag} {mg : Str → Option Value} {base : Heap} {C : Ad}
theorem sc_CallReader___init__ : FnScope ["self", "text"] ["self", "text"] (defScope s_CallReader___init__) := ⟨rfl, rfl, rfl, by decide +kernel, rfl, by decide +kernel, by decide +kernel⟩
def spInit (C : Ad) : Sp := fun vs H Q _ => ∃ (p dx : Addr) (T : List Nat), vs = [.ref p, .str (TX T)] ∧ H p = some (.ins C.CallReader dx []) ∧ Q .non (upd H p (RD C dx T 0))
theorem ok_init (T : Txt K w mg C) : Mak P w K mg base 1 "CallReader" C.CallReader (spInit C) := by
  refine mak_of T.i_CallReader sc_CallReader___init__ (fun vs H Q E h => ?_) (fun f cdv A outer s H vs Q E hr h => ?_)
  · obtain ⟨p, dx, t, rfl, _⟩ := h
    rfl
  · obtain ⟨p, dx, t, rfl, h0, q⟩ := h
    refine ⟨_, (pss_cons (ps_fld (pv 0) (pv 1) rfl) (pss_one (ps_fld (pv 0) pe_int rfl))), ?_⟩
    refine ⟨_, rfl, _, rfl, p, _, dx, _, rfl, h0, T.cl_CallReader, T.n_CallReader_text, (by show 0 < 1000; decide), ?_⟩
    refine ⟨_, rfl, p, _, dx, _, rfl, upd_same, T.cl_CallReader, T.n_CallReader_at, (by show 1 < 1000; decide), ?_⟩
    rw [upd_upd]
    exact q
theorem sc_CallReader_sign : FnScope ["self"] ["self"] (defScope s_CallReader_sign) := ⟨rfl, rfl, rfl, by decide +kernel, rfl, by decide +kernel, by decide +kernel⟩
theorem ok_sign (T : Txt K w mg C) : Met P w K mg base 1 C.CallReader "sign" (spSign C) := by
  refine met_of T.m_CallReader_sign T.cl_CallReader sc_CallReader_sign (fun vs H Q E h => ?_) (fun f cdv A outer s H vs Q E hr h => ?_)
  · obtain ⟨p, dx, cs, R, rfl, _⟩ := h
    rfl
  · obtain ⟨p, dx, cs, R, rfl, a, q⟩ := h
    have h1 := a.h
    have big : 10000000 < sizeLine := by decide
    have al := a.l
    refine ⟨_, (pss_one (ps_ret (pe_slice sl_str (pe_fld (pv 0) rfl) (po_some (pe_fld (pv 0) rfl)) (po_some (pe_op op_add (pe_fld (pv 0) rfl) pe_int))))), ?_⟩
    refine ⟨_, rfl, p, _, dx, _, _, rfl, h1, T.cl_CallReader, T.n_CallReader_text, fs_CallReader_text, _, rfl, p, _, dx, _, _, rfl, h1, T.cl_CallReader, T.n_CallReader_at, fs_CallReader_at, _, rfl, _, rfl, p, _, dx, _, _, rfl, h1, T.cl_CallReader, T.n_CallReader_at, fs_CallReader_at, _, _, rfl, rfl, _, rfl, _, rfl, by rw [TX_len]; omega, ?_⟩
    have e := cut_take (pre := cs) (R := R) (k := 1) (i := (cs.length : Int)) (j := (cs.length : Int) + 1) rfl (by omega)
    rw [e]
    exact q
theorem sc_CallReader_has : FnScope ["self", "mark"] ["self", "mark"] (defScope s_CallReader_has) := ⟨rfl, rfl, rfl, by decide +kernel, rfl, by decide +kernel, by decide +kernel⟩
theorem ok_has (T : Txt K w mg C) : Met P w K mg base 1 C.CallReader "has" (spHas C) := by
  refine met_of T.m_CallReader_has T.cl_CallReader sc_CallReader_has (fun vs H Q E h => ?_) (fun f cdv A outer s H vs Q E hr h => ?_)
  · obtain ⟨p, dx, cs, R, m, rfl, _⟩ := h
    rfl
  · obtain ⟨p, dx, cs, R, m, rfl, a, hm, q1, q2⟩ := h
    have h1 := a.h
    have big : 10000000 < sizeLine := by decide
    have al := a.l
    refine ⟨_, (pss_cons (ps_if (pt_not (pt_val (pe_bm PySem.F.plainAttrs_str PySem.F.slot_str_startswith PySem.F.type_str_startswith mt_startswith3 (pe_fld (pv 0) rfl) (pa_cons (pv 1) (pa_cons (pe_fld (pv 0) rfl) pa_nil))))) (pss_one (ps_ret pe_bl)) pss_nil) (pss_cons (ps_fldaug (pv 0) (pe_callB call_len_str (by rfl) T.z_len PySem.boot_len (pa_cons (pv 1) pa_nil)) in_add) (pss_one (ps_ret pe_bl)))), ?_⟩
    refine ⟨_, rfl, p, _, dx, _, _, rfl, h1, T.cl_CallReader, T.n_CallReader_text, fs_CallReader_text, rfl, _, rfl, _, rfl, p, _, dx, _, _, rfl, h1, T.cl_CallReader, T.n_CallReader_at, fs_CallReader_at, _, _, _, rfl, rfl, _, rfl, ?_⟩
    rw [starts_take rfl]
    by_cases e : R.take m.length = m
    · have e2 : (R.take m.length == m) = true := by rw [e]; simp
      rw [e2]
      refine iteF ?_
      refine ⟨_, rfl, p, _, dx, _, _, rfl, h1, T.cl_CallReader, T.n_CallReader_at, fs_CallReader_at, _, rfl, _, rfl, by rw [TX_len]; omega, _, _, rfl, rfl, dx, _, h1, (by show 2 < 1000; decide), ?_⟩
      rw [put_at (m := cs.length + m.length) (by rw [TX_len]; omega)]
      exact q1 e
    · have e2 : (R.take m.length == m) = false := by simpa using e
      rw [e2]
      exact iteT (q2 e)
theorem sc_CallReader_need : FnScope ["self", "mark"] ["self", "mark"] (defScope s_CallReader_need) := ⟨rfl, rfl, rfl, by decide +kernel, rfl, by decide +kernel, by decide +kernel⟩
theorem ok_need (T : Txt K w mg C) : MetX P w K mg base 2 C.CallReader "need" (spNeed C) := by
  have Mhas := ok_has (P := P) (base := base) T
  refine metX_of T.m_CallReader_need T.cl_CallReader sc_CallReader_need (fun vs H Q E h => ?_) (fun f cdv A outer s H vs Q E hr h => ?_)
  · obtain ⟨p, dx, cs, R, m, rfl, _⟩ := h
    rfl
  · obtain ⟨p, dx, cs, R, m, rfl, a, hm, q1, q2⟩ := h
    have big : 10000000 < sizeLine := by decide
    refine ⟨_, (pss_one (ps_if (pt_not (pt_val (pe_mt Mhas hr (by decide) (pv 0) (pa_cons (pv 1) pa_nil)))) (pss_one (ps_raise rfl takeX (SkE.pmk_own1 PySem.F.excBase_ValueError T.x_InvalidCall.xx T.x_InvalidCall.g T.x_InvalidCall.kp (raises_own T.x_InvalidCall.bP T.x_InvalidCall.tP) (by rfl) (pe_joinedT (PJ.cons (pe_fmt (pv 1)) (PJ.cons pe_str PJ.nil)))))) pss_nil)), ?_⟩
    refine ⟨_, rfl, p, dx, _, rfl, a.h, rfl, _, rfl, p, dx, cs, R, m, rfl, a, hm, fun e => ⟨_, rfl, iteF (q1 e)⟩, fun e => ⟨_, rfl, iteT ?_⟩⟩
    refine ⟨_, rfl, .inl ⟨_, rfl, ?_, _, rfl, ?_, _, rfl, ?_, q2 e⟩⟩
    · rw [TX_len]
      omega
    · simp only [k_0, strApp, TX_len, List.length_nil]
      omega
    · have e11 : ((" is missing" : Str)).length = 11 := rfl
      simp only [k_0, strApp, TX_len, e11, List.length_nil]
      omega
theorem sc_is_digit : FnScope ["sign"] ["sign"] (defScope s_is_digit) := ⟨rfl, rfl, rfl, by decide +kernel, rfl, by decide +kernel, by decide +kernel⟩
def spDigit : Sp := fun vs H Q _ => ∃ l : List Nat, vs = [.str (TX l)] ∧ l.length ≤ 1 ∧ Q (.bl (l.any isDg)) H
theorem le_lo {c d : Nat} : (!decide ([c] < [d])) = decide (d ≤ c) := by
  by_cases h : c < d
  · rw [decide_eq_true (lt_one.mpr h), decide_eq_false (by omega)]; rfl
  · rw [decide_eq_false (fun q => h (lt_one.mp q)), decide_eq_true (by omega)]; rfl
theorem ok_digit (T : Txt K w mg C) : Cal P w K mg base 1 "is_digit" spDigit := by
  refine cal_of T.d_is_digit sc_is_digit (fun vs H Q E h => ?_) (fun f cdv A outer s H vs Q E hr h => ?_)
  · obtain ⟨l, rfl, _⟩ := h
    rfl
  · obtain ⟨l, rfl, hl, q⟩ := h
    refine ⟨_, (pss_one (ps_ret (pe_chain op_le_str op_le_str pe_str (pv 0) pe_str))), ?_⟩
    cases l with
    | nil =>
      refine ⟨_, rfl, _, _, rfl, rfl, false, ?_, ?_⟩
      · show V.bl (!decide (([] : List Nat) < [48])) = _
        rw [decide_eq_true (by exact List.Lex.nil)]
        rfl
      · exact q
    | cons c r =>
      cases r with
      | nil =>
        refine ⟨_, rfl, _, _, rfl, rfl, _, rfl, ?_⟩
        show if (!decide ([c] < [48])) = true then _ else _
        rw [le_lo]
        simp only [List.any_cons, List.any_nil, Bool.or_false, isDg] at q
        by_cases h : 48 ≤ c
        · rw [if_pos (decide_eq_true h)]
          rw [decide_eq_true h] at q
          refine ⟨_, _, rfl, rfl, ?_⟩
          show Q (.bl (!decide ([57] < [c]))) H
          rw [le_lo]
          exact q
        · rw [if_neg (by simp [h])]
          rw [decide_eq_false h] at q
          exact q
      | cons d r => simp at hl
theorem sc_CallReader_take_escaped : FnScope ["self", "sign"] ["self"] (defScope s_CallReader_take_escaped) := ⟨rfl, rfl, rfl, by decide +kernel, rfl, by decide +kernel, by decide +kernel⟩
def spEsc (C : Ad) : Sp := fun vs H Q E => ∃ (p dx : Addr) (cs R : List Nat), vs = [.ref p] ∧ At C H p dx cs R ∧
  (∀ e R' u, R = e :: R' → unE e = some u → Q (.str (TX [u])) (upd H p (RD C dx (cs ++ R) (cs.length + 1)))) ∧ ((∀ e R' u, R = e :: R' → unE e ≠ some u) → E (.ref C.InvalidCall) none H)
theorem ok_esc (T : Txt K w mg C) : MetX P w K mg base 2 C.CallReader "take_escaped" (spEsc C) := by
  have Msign := ok_sign (P := P) (base := base) T
  obtain ⟨aE, es, n, gE, kE, ⟨u1, e1, r1⟩, ⟨u2, e2, r2⟩, ⟨u3, e3, r3⟩⟩ := T.k_ESCAPES
  refine metX_of T.m_CallReader_take_escaped T.cl_CallReader sc_CallReader_take_escaped (fun vs H Q E h => ?_) (fun f cdv A outer s H vs Q E hr h => ?_)
  · obtain ⟨p, dx, cs, R, rfl, _⟩ := h
    rfl
  · obtain ⟨p, dx, cs, R, rfl, a, q1, q2⟩ := h
    have h1 := a.h
    refine ⟨_, (pss_cons (ps_set (i := 1) sc_CallReader_take_escaped.nd rfl (Or.inl rfl) (pe_mt0 Msign hr (by decide) (pv 0))) (pss_cons (ps_if (pt_cmpR (op_notIn_kd kE.kd) (pv 1) (C8.pe_gc (by rfl) gE) rfl) (pss_one (ps_raise rfl takeX (SkE.pmk_own1 PySem.F.excBase_ValueError T.x_InvalidCall.xx T.x_InvalidCall.g T.x_InvalidCall.kp (raises_own T.x_InvalidCall.bP T.x_InvalidCall.tP) (by rfl) pe_str))) pss_nil) (pss_cons (ps_fldaug (pv 0) pe_int in_add) (pss_one (ps_ret (pe_ix ix_kdict (C8.pe_gc (by rfl) gE) (pv 1) (fun _ _ => rfl))))))), ?_⟩
    refine ⟨_, rfl, p, dx, _, rfl, h1, rfl, p, dx, cs, R, rfl, a, ?_⟩
    have miss : ∀ z : Str, z ∉ [("\"" : Str), "\\", "n"] → z = TX (R.take 1) → PySem.W.nsIn K aE (TX (R.take 1)) = some none := fun z hz e => by rw [← e]; exact kE.none hz
    cases R with
    | nil =>
      refine ⟨_, rfl, _, none, rfl, rfl, miss (TX []) (by decide +kernel) rfl, true, rfl, iteT ?_⟩
      exact q2 fun e R' u h => nomatch h
    | cons e R' =>
      have hit : ∀ (u : Nat) (uu : Value), unE e = some u → PySem.W.nsIn K aE (TX [e]) = some (some uu) → RelV (.str (TX [u])) uu → Q (.str (TX [u])) (upd H p (RD C dx (cs ++ e :: R') (cs.length + 1))) ∧ KDct K w aE (TX [e]) (.str (TX [u])) := fun u uu hu hn hr =>
        ⟨q1 e R' u rfl hu, es, n, uu, kE.kd.at_, kE.kd.lit, hn, hr⟩
      by_cases c1 : e = 34
      · subst c1
        obtain ⟨g1, g2⟩ := hit 34 u1 rfl e1 r1
        refine ⟨_, rfl, _, some u1, rfl, rfl, e1, false, rfl, iteF ?_⟩
        refine ⟨_, rfl, p, _, dx, _, _, rfl, h1, T.cl_CallReader, T.n_CallReader_at, fs_CallReader_at, _, _, rfl, rfl, dx, _, h1, (by show 2 < 1000; decide), ?_⟩
        exact ⟨_, rfl, aE, _, _, rfl, rfl, g2, g1⟩
      by_cases c2 : e = 92
      · subst c2
        obtain ⟨g1, g2⟩ := hit 92 u2 rfl e2 r2
        refine ⟨_, rfl, _, some u2, rfl, rfl, e2, false, rfl, iteF ?_⟩
        refine ⟨_, rfl, p, _, dx, _, _, rfl, h1, T.cl_CallReader, T.n_CallReader_at, fs_CallReader_at, _, _, rfl, rfl, dx, _, h1, (by show 2 < 1000; decide), ?_⟩
        exact ⟨_, rfl, aE, _, _, rfl, rfl, g2, g1⟩
      by_cases c3 : e = 110
      · subst c3
        obtain ⟨g1, g2⟩ := hit 10 u3 rfl e3 r3
        refine ⟨_, rfl, _, some u3, rfl, rfl, e3, false, rfl, iteF ?_⟩
        refine ⟨_, rfl, p, _, dx, _, _, rfl, h1, T.cl_CallReader, T.n_CallReader_at, fs_CallReader_at, _, _, rfl, rfl, dx, _, h1, (by show 2 < 1000; decide), ?_⟩
        exact ⟨_, rfl, aE, _, _, rfl, rfl, g2, g1⟩
      have nm : TX [e] ∉ [("\"" : Str), "\\", "n"] := fun z => by
        simp only [List.mem_cons, List.not_mem_nil, or_false] at z
        rcases z with z | z | z
        · exact c1 (by simpa using TX_inj (a := [e]) (b := [34]) z)
        · exact c2 (by simpa using TX_inj (a := [e]) (b := [92]) z)
        · exact c3 (by simpa using TX_inj (a := [e]) (b := [110]) z)
      refine ⟨_, rfl, _, none, rfl, rfl, miss _ nm rfl, true, rfl, iteT ?_⟩
      refine q2 fun e' R2 u h hu => ?_
      cases h
      unfold unE at hu
      rw [if_neg c1, if_neg c2, if_neg c3] at hu
      exact nomatch hu
/-! a text -/
/-- what follows, where the reader has moved, and others are as they were -/
def Gone (C : Ad) (p dx : Addr) (T : List Nat) (G : Hp) (M : List (Addr × HO)) (Q : Nat → Hp → Hp → Prop) : Prop := ∀ (n : Nat) (G' H' : Hp), Sb G' H' ((p, RD C dx T n) :: M) → Same G G' → Q n G' H'
def qTx (R : List Nat) : Option (List Nat × List Nat) := if R.head? = some 34 then pTxt R.tail else none
def spText (C : Ad) : Sp := fun vs H Q E => ∃ (p dx : Addr) (cs R : List Nat) (G : Hp) (M : List (Addr × HO)), vs = [.ref p] ∧ Sb G H ((p, RD C dx (cs ++ R) cs.length) :: M) ∧ (cs ++ R).length ≤ 1000000 ∧
  (∀ l R' cs', qTx R = some (l, R') → cs ++ R = cs' ++ R' → Gone C p dx (cs ++ R) G M (fun n _ H' => n = cs'.length → Q (.str (TX l)) H')) ∧ (qTx R = none → Gone C p dx (cs ++ R) G M (fun _ _ H' => E (.ref C.InvalidCall) none H'))
theorem pTxt_len : ∀ (n : Nat) (R l R' : List Nat), R.length ≤ n → pTxt R = some (l, R') → ∃ cs, R = cs ++ R' := fun n R l R' hn h => ⟨eTx l ++ [34], by rw [pTxt_back n R l R' hn h]; simp⟩
theorem sc_CallReader_take_text : FnScope ["self", "signs", "sign"] ["self"] (defScope s_CallReader_take_text) := ⟨rfl, rfl, rfl, by decide +kernel, rfl, by decide +kernel, by decide +kernel⟩
theorem inV_str (n : Str) : ∀ ns : List Str, inV (.str n) (ns.map V.str) = decide (n ∈ ns)
  | [] => rfl
  | m :: ns => by
    have ih := inV_str n ns
    unfold inV at ih ⊢
    rw [List.map_cons, List.any_cons, ih]
    by_cases e : m = n
    · subst e
      simp [eqV]
    · have e' : ¬ n = m := fun z => e z.symm
      simp [eqV, e, e']
theorem ok_text (T : Txt K w mg C) : MetX P w K mg base 3 C.CallReader "take_text" (spText C) := by
  have Msign := ok_sign (P := P) (base := base) T
  have Mhas := ok_has (P := P) (base := base) T
  have Xneed := ok_need (P := P) (base := base) T
  have Xtake_escaped := ok_esc (P := P) (base := base) T
  refine metX_of T.m_CallReader_take_text T.cl_CallReader sc_CallReader_take_text (fun vs H Q E h => ?_) (fun f cdv A outer s H vs Q E hr h => ?_)
  · obtain ⟨p, dx, cs, R, G, M, rfl, _⟩ := h
    rfl
  · obtain ⟨p, dx, cs, R, G, M, rfl, S, hl, q1, q2⟩ := h
    have big : 10000000 < sizeLine := by decide
    have a0 : At C H p dx cs R := ⟨S.hd, hl⟩
    refine ⟨_, (pss_cons (ps_expr (pe_mtX thruX Xneed hr (by decide) (pv 0) (pa_cons pe_str pa_nil))) (pss_cons (ps_set (i := 1) sc_CallReader_take_text.nd rfl (Or.inl rfl) (pe_lst pa_nil)) (pss_cons (ps_while (passes_of rfl) (pt_not (pt_val (pe_mt Mhas hr (by decide) (pv 0) (pa_cons pe_str pa_nil)))) (pss_cons (ps_set (i := 2) sc_CallReader_take_text.nd rfl (Or.inl rfl) (pe_mt0 Msign hr (by decide) (pv 0))) (pss_cons (ps_if (pt_cmpR op_in_seq (pv 2) (pe_tup (pa_cons pe_str (pa_cons pe_str pa_nil))) rfl) (pss_one (ps_raise rfl takeX (SkE.pmk_own1 PySem.F.excBase_ValueError T.x_InvalidCall.xx T.x_InvalidCall.g T.x_InvalidCall.kp (raises_own T.x_InvalidCall.bP T.x_InvalidCall.tP) (by rfl) pe_str))) pss_nil) (pss_cons (ps_fldaug (pv 0) pe_int in_add) (pss_cons (ps_if (pt_cmpR op_eq (pv 2) pe_str (nomark _)) (pss_one (ps_set (i := 2) sc_CallReader_take_text.nd rfl (Or.inl rfl) (pe_mtX0 thruX Xtake_escaped hr (by decide) (pv 0)))) pss_nil) (pss_one (ps_expr (pe_bm PySem.F.plainAttrs_list PySem.F.slot_list_append PySem.F.type_list_append mt_append (pv 1) (pa_cons (pv 2) pa_nil))))))))) (pss_one (ps_ret (pe_join pe_str (pv 1))))))), ?_⟩
    by_cases hh : R.head? = some 34
    case neg =>
      refine ⟨_, rfl, p, dx, _, rfl, a0.h, rfl, p, dx, cs, R, [34], rfl, a0, by decide, fun e => ?_, fun e => ?_⟩
      · refine absurd ?_ hh
        cases R with
        | nil => simp at e
        | cons c r => simpa using e
      · exact q2 (if_neg hh) _ G H S (Same.refl _)
    obtain ⟨R0, rfl⟩ : ∃ R0, R = 34 :: R0 := ⟨_, head_of hh⟩
    refine ⟨_, rfl, p, dx, _, rfl, a0.h, rfl, p, dx, cs, _, [34], rfl, a0, by decide, fun e => ?_, fun e => absurd rfl e⟩
    have S1 := S.put (u := RD C dx (cs ++ 34 :: R0) (cs.length + 1))
    refine ⟨by show 0 ≤ sizeLine; decide, fun D hD => ?_⟩
    have S2 := S1.add (o := .lst []) hD
    have qe : qTx (34 :: R0) = pTxt R0 := rfl
    rw [qe] at q1 q2
    refine ⟨fun m σ H' => ∃ (c1 R1 l0 : List Nat) (G1 : Hp) (y : Option V), m = R1.length ∧ cs ++ 34 :: R0 = c1 ++ R1 ∧ pTxt R0 = (pTxt R1).map (fun q => (l0 ++ q.1, q.2)) ∧ l0.length ≤ c1.length ∧ Sb G1 H' ((D, .lst ((l0.map fun c => TX [c]).map V.str)) :: (p, RD C dx (cs ++ 34 :: R0) c1.length) :: M) ∧ Same G G1 ∧ σ = [some (.ref p), some (.ref D), y], ⟨_, cs ++ [34], R0, [], G, none, rfl, by simp, by cases pTxt R0 <;> simp, Nat.zero_le _, by rw [List.length_append]; exact S2, Same.refl _, rfl⟩, ?_⟩
    rintro m σ H1 ⟨c1, R1, l0, G1, y, rfl, hT, hp, hl0, S3, g3, rfl⟩
    rw [hT] at hl
    have a1 : At C H1 p dx c1 R1 := ⟨by rw [← hT]; exact S3.hd2, hl⟩
    have fail : pTxt R1 = none → ∀ (n : Nat) (G2 H2 : Hp) (ds : List V), Sb G2 H2 ((D, .lst ds) :: (p, RD C dx (cs ++ 34 :: R0) n) :: M) → Same G G2 → E (.ref C.InvalidCall) none H2 := fun e n G2 H2 ds S4 g4 => by
      obtain ⟨S5, g5⟩ := S4.drop
      exact q2 (by rw [hp, e]; rfl) n _ H2 S5 (Same.trans g4 g5)
    have ok : ∀ (k : Nat) (lk R2 : List Nat) (G2 : Hp) (H2 : Hp) (y : Option V), R1.drop k = R2 → k ≤ R1.length → 1 ≤ k → lk.length ≤ k → pTxt R1 = (pTxt R2).map (fun q => (lk ++ q.1, q.2)) → Sb G2 H2 ((D, .lst (((l0 ++ lk).map fun c => TX [c]).map V.str)) :: (p, RD C dx (cs ++ 34 :: R0) (c1.length + k)) :: M) → Same G G2 →
        ∃ m', m' < R1.length ∧ ∃ (c1 R1 l0 : List Nat) (G1 : Hp) (z : Option V), m' = R1.length ∧ cs ++ 34 :: R0 = c1 ++ R1 ∧ pTxt R0 = (pTxt R1).map (fun q => (l0 ++ q.1, q.2)) ∧ l0.length ≤ c1.length ∧ Sb G1 H2 ((D, .lst ((l0.map fun c => TX [c]).map V.str)) :: (p, RD C dx (cs ++ 34 :: R0) c1.length) :: M) ∧ Same G G1 ∧ [some (V.ref p), some (.ref D), y] = [some (.ref p), some (.ref D), z] := by
      intro k lk R2 G2 H2 y hd hk hk1 hlk hp2 S4 g4
      refine ⟨R2.length, by rw [← hd, List.length_drop]; omega, c1 ++ R1.take k, R2, l0 ++ lk, G2, y, rfl, ?_, ?_, ?_, ?_, g4, rfl⟩
      · rw [hT, ← hd, List.append_assoc, List.take_append_drop]
      · rw [hp, hp2]
        cases pTxt R2 <;> simp
      · rw [List.length_append, List.length_append, List.length_take]
        omega
      · rw [List.length_append, List.length_take, Nat.min_eq_left hk]
        exact S4
    cases R1 with
    | nil =>
      have pn := pTxt_nil
      refine ⟨_, rfl, p, dx, _, rfl, a1.h, rfl, p, dx, c1, _, [34], rfl, a1, by decide, fun e => (by simp at e), fun e => ⟨_, rfl, iteT ?_⟩⟩
      refine ⟨fun _ _ => False, fun _ _ z => z.elim, ?_⟩
      refine ⟨_, rfl, p, dx, _, rfl, a1.h, rfl, p, dx, c1, _, rfl, a1, ?_⟩
      refine ⟨_, rfl, by show 2 ≤ sizeLine; decide, fun t ht => ⟨t, _, rfl, .inr (SqT.of upd_same), rfl, rfl, true, ?_, iteT ?_⟩⟩
      · show V.bl (inV (V.str (TX [])) ([("" : Str), "\n"].map V.str)) = _
        rw [inV_str]
        rfl
      · obtain ⟨G4, S4, g4⟩ : ∃ G4, Sb G4 _ _ ∧ Same G1 G4 := ⟨_, S3.alloc (o := .tup [.str "", .str "\n"]) ht, S3.grow ht⟩
        exact fail pn _ _ _ _ S4 (Same.trans g3 g4)
    | cons c R2 =>
      have pc := pTxt_cons c R2
      by_cases c34 : c = 34
      · subst c34
        rw [if_pos rfl] at pc
        refine ⟨_, rfl, p, dx, _, rfl, a1.h, rfl, p, dx, c1, _, [34], rfl, a1, by decide, fun e => ⟨_, rfl, iteF ?_⟩, fun e => absurd rfl e⟩
        have e0 : RD C dx (c1 ++ 34 :: R2) (c1.length + [34].length) = RD C dx (cs ++ 34 :: R0) (c1.length + 1) := by rw [hT]; rfl
        rw [e0]
        have S4 := S3.put2 (u := RD C dx (cs ++ 34 :: R0) (c1.length + 1))
        obtain ⟨S5, g5⟩ := S4.drop
        have fl := flat_one l0
        have em : (l0.map fun c => TX [c]) = (l0.map fun c => [c]).map TX := by rw [List.map_map]; rfl
        have hD4 := S4.hd
        rw [em] at hD4
        refine ⟨⟨_, rfl⟩, _, rfl, _, D, _, rfl, rfl, .inl (SqL.of hD4), ?_, ?_⟩
        · rw [sum_TX, fl]
          rw [List.length_append] at hl
          show _ + _ * 0 ≤ _
          omega
        rw [k_00, join_TX, fl]
        have q3 := q1 (l0 ++ []) R2 (c1 ++ [34]) (by rw [hp, pc]; rfl) (by rw [hT]; simp) _ _ _ S5 (Same.trans g3 g5) (by simp)
        rw [List.append_nil] at q3
        exact q3
      · rw [if_neg c34] at pc
        refine ⟨_, rfl, p, dx, _, rfl, a1.h, rfl, p, dx, c1, _, [34], rfl, a1, by decide, fun e => absurd (by simpa using e) c34, fun _ => ⟨_, rfl, iteT ?_⟩⟩
        have S3 := S3
        refine ⟨fun σ' H' => ∃ m', m' < (c :: R2).length ∧ ∃ (c1 R1 l0 : List Nat) (G1 : Hp) (z : Option V), m' = R1.length ∧ cs ++ 34 :: R0 = c1 ++ R1 ∧ pTxt R0 = (pTxt R1).map (fun q => (l0 ++ q.1, q.2)) ∧ l0.length ≤ c1.length ∧ Sb G1 H' ((D, .lst ((l0.map fun c => TX [c]).map V.str)) :: (p, RD C dx (cs ++ 34 :: R0) c1.length) :: M) ∧ Same G G1 ∧ σ' = [some (V.ref p), some (.ref D), z], fun σ' H' z => z, ?_⟩
        refine ⟨_, rfl, p, dx, _, rfl, a1.h, rfl, p, dx, c1, _, rfl, a1, ?_⟩
        refine ⟨_, rfl, by show 2 ≤ sizeLine; decide, fun t ht => ⟨t, _, rfl, .inr (SqT.of upd_same), rfl, rfl, decide (TX [c] ∈ [("" : Str), "\n"]), ?_, ite2 (fun m => ?_) (fun m => ?_)⟩⟩
        · show V.bl (inV (V.str (TX [c])) ([("" : Str), "\n"].map V.str)) = _
          rw [inV_str]
        · have c10 : c = 10 := by
            have := of_decide_eq_true m
            simp only [List.mem_cons, List.not_mem_nil, or_false] at this
            rcases this with z | z
            · exact absurd (TX_inj (a := [c]) (b := []) z) (by simp)
            · simpa using TX_inj (a := [c]) (b := [10]) z
          rw [if_pos c10] at pc
          exact fail pc _ _ _ _ (S3.alloc (o := .tup [.str "", .str "\n"]) ht) (Same.trans g3 (S3.grow ht))
        · have c10 : c ≠ 10 := fun z => m (decide_eq_true (by subst z; simp only [List.mem_cons, List.not_mem_nil, or_false]; exact .inr rfl))
          rw [if_neg c10] at pc
          have S4 := S3.alloc (o := .tup [.str "", .str "\n"]) ht
          have g4 := S3.grow (o := .tup [.str "", .str "\n"]) ht
          generalize upd H1 t (.tup [.str "", .str "\n"]) = H4 at S4 ⊢
          generalize upd G1 t (.tup [.str "", .str "\n"]) = G4 at S4 g4
          have S5 := S4.put2 (u := RD C dx (cs ++ 34 :: R0) (c1.length + 1))
          refine ⟨_, rfl, p, _, dx, _, _, rfl, S4.hd2, T.cl_CallReader, T.n_CallReader_at, fs_CallReader_at, _, _, rfl, rfl, dx, _, S4.hd2, (by show 2 < 1000; decide), ?_⟩
          rw [put_at (m := c1.length + 1) (by omega)]
          have l0s : l0.length ≤ 1000000 := by
            rw [List.length_append] at hl
            omega
          refine ⟨_, rfl, rfl, _, rfl, ite2 (fun c92 => ?_) (fun c92 => ?_)⟩
          · have e92 : c = 92 := by
              have := of_decide_eq_true c92
              simpa using TX_inj (a := [c]) (b := [92]) (V.str.inj this)
            rw [if_pos e92] at pc
            have a5 : At C (upd H4 p (RD C dx (cs ++ 34 :: R0) (c1.length + 1))) p dx (c1 ++ [c]) R2 := ⟨by rw [upd_same, hT]; simp, by simpa using hl⟩
            refine ⟨_, rfl, p, dx, _, rfl, upd_same, rfl, p, dx, c1 ++ [c], R2, rfl, a5, fun e R3 u hR hu => ?_, fun hno => ?_⟩
            · subst hR
              simp only [hu] at pc
              have e6 : RD C dx (c1 ++ [c] ++ e :: R3) ((c1 ++ [c]).length + 1) = RD C dx (cs ++ 34 :: R0) (c1.length + 2) := by rw [hT]; simp
              rw [e6, upd_upd]
              have S6 := S4.put2 (u := RD C dx (cs ++ 34 :: R0) (c1.length + 2))
              refine ⟨_, rfl, .inl ⟨rfl, _, SqL.of S6.hd⟩, _, rfl, D, _, _, rfl, rfl, S6.hd, by simp only [List.length_map]; omega, ?_⟩
              refine ok 2 [u] R3 G4 _ _ rfl (by simp) (by decide) (by simp) pc ?_ (Same.trans g3 g4)
              have S7 := S6.put (u := .lst ((l0.map fun c => TX [c]).map V.str ++ [V.str (TX [u])]))
              rw [List.map_append, List.map_append]
              exact S7
            · have pf : pTxt (c :: R2) = none := by
                rw [pc]
                cases R2 with
                | nil => rfl
                | cons e R3 =>
                  cases hu : unE e with
                  | none => simp [hu]
                  | some u => exact absurd hu (hno e R3 u rfl)
              exact fail pf _ _ _ _ S5 (Same.trans g3 g4)
          · have e92 : c ≠ 92 := fun z => c92 (decide_eq_true (by subst z; rfl))
            rw [if_neg e92] at pc
            refine ⟨_, rfl, .inl ⟨rfl, _, SqL.of S5.hd⟩, _, rfl, D, _, _, rfl, rfl, S5.hd, by simp only [List.length_map]; omega, ?_⟩
            refine ok 1 [c] R2 G4 _ _ rfl (by simp) (by decide) (by simp) pc ?_ (Same.trans g3 g4)
            have S7 := S5.put (u := .lst ((l0.map fun c => TX [c]).map V.str ++ [V.str (TX [c])]))
            rw [List.map_append, List.map_append]
            exact S7
end
end VL

set_option Elab.async false
set_option linter.all false
set_option pp.maxSteps 700
set_option maxRecDepth 100000
set_option maxHeartbeats 4000000
namespace VL
open PySem PySem.Spec PyProof.Rows L2
/-! ### numbers -/
def spNum (C : Ad) : Sp := fun vs H Q E => ∃ (p dx : Addr) (cs R : List Nat), vs = [.ref p] ∧ At C H p dx cs R ∧
  (∀ i R' cs', pNum R = some (.nu i, R') → cs ++ R = cs' ++ R' → Q (.int i) (upd H p (RD C dx (cs ++ R) cs'.length))) ∧ (pNum R = none → ∀ n, E (.ref C.InvalidCall) none (upd H p (RD C dx (cs ++ R) n)))
theorem len_tw (R : List Nat) : (R.takeWhile isDg).length ≤ R.length := by
  have := congrArg List.length (List.takeWhile_append_dropWhile (p := isDg) (l := R))
  rw [List.length_append] at this
  omega
section
variable {P : Program} {w : World} {K : PySem.W.Frag} {mg : Str → Option Value} {base : Heap} {C : Ad}
theorem sc_CallReader_take_number : FnScope ["self", "is_negative", "begin", "digits", "number"] ["self"] (defScope s_CallReader_take_number) := ⟨rfl, rfl, rfl, by decide +kernel, rfl, by decide +kernel, by decide +kernel⟩
theorem ok_num (T : Txt K w mg C) : MetX P w K mg base 2 C.CallReader "take_number" (spNum C) := by
  have Msign := ok_sign (P := P) (base := base) T
  have Mhas := ok_has (P := P) (base := base) T
  have Gis_digit := ok_digit (P := P) (base := base) T
  refine metX_of T.m_CallReader_take_number T.cl_CallReader sc_CallReader_take_number (fun vs H Q E h => ?_) (fun f cdv A outer s H vs Q E hr h => ?_)
  · obtain ⟨p, dx, cs, R, rfl, _⟩ := h
    rfl
  · obtain ⟨p, dx, cs, R, rfl, a, q1, q2⟩ := h
    have big : 10000000 < sizeLine := by decide
    refine ⟨_, (C8.pss_cut (ps_set (i := 1) sc_CallReader_take_number.nd rfl (Or.inl rfl) (pe_mt Mhas hr (by decide) (pv 0) (pa_cons pe_str pa_nil))) (pss_cons (ps_set (i := 2) sc_CallReader_take_number.nd rfl (Or.inl rfl) (pe_fld (pv 0) rfl)) (C8.pss_cut (ps_while (passes_of rfl) (pt_val (pe_c Gis_digit hr (by decide) (by rfl) (pa_cons (pe_mt0 Msign hr (by decide) (pv 0)) pa_nil))) (pss_one (ps_fldaug (pv 0) pe_int in_add))) (pss_cons (ps_set (i := 3) sc_CallReader_take_number.nd rfl (Or.inl rfl) (pe_slice sl_str (pe_fld (pv 0) rfl) (po_some (pv 2)) (po_some (pe_fld (pv 0) rfl)))) (C8.pss_cut (ps_if (PW.pt (pw_or (pt_not (pt_truth (pv 3) (fun _ => rfl))) (pw_or (pt_cmpR op_gt (pe_callB call_len_str (by rfl) T.z_len PySem.boot_len (pa_cons (pv 3) pa_nil)) (C8.pe_gc (by rfl) T.g_MOST_DIGITS) (nomark _)) (pw_or1 (PW.pt (pw_and (pt_cmpR op_eq (pe_ix ix_str (pv 3) pe_int (fun _ _ => rfl)) pe_str (nomark _)) (pw_and1 (PW.pt (pw_or (pt_val (pv 1)) (pw_or1 (pt_cmpR op_ne (pv 3) pe_str (nomark _)))))))))))) (pss_one (ps_raise rfl takeX (SkE.pmk_own1 PySem.F.excBase_ValueError T.x_InvalidCall.xx T.x_InvalidCall.g T.x_InvalidCall.kp (raises_own T.x_InvalidCall.bP T.x_InvalidCall.tP) (by rfl) pe_str))) pss_nil) (pss_cons (ps_set (i := 4) sc_CallReader_take_number.nd rfl (Or.inl rfl) (pe_callTy call_int_str (by rfl) T.z_int (by decide +kernel) (pa_cons (pv 3) pa_nil))) (pss_cons (ps_if (pt_cmpR op_gt (pv 4) (C8.pe_gc (by rfl) T.g_LARGEST_NUMBER) (nomark _)) (pss_one (ps_raise rfl takeX (SkE.pmk_own1 PySem.F.excBase_ValueError T.x_InvalidCall.xx T.x_InvalidCall.g T.x_InvalidCall.kp (raises_own T.x_InvalidCall.bP T.x_InvalidCall.tP) (by rfl) pe_str))) pss_nil) (pss_one (ps_ret (pe_ifExp (pt_val (pv 1)) (pe_un un_neg (pv 4)) (pv 4))))))))))), ?_⟩
    have al := a.l
    refine ⟨fun σ' H' => ∃ (neg : Bool) (c1 R1 : List Nat), (R.head? == some 45) = neg ∧ R1 = (if neg then R.tail else R) ∧ cs ++ R = c1 ++ R1 ∧ H' = upd H p (RD C dx (cs ++ R) c1.length) ∧ σ' = [some (.ref p), some (.bl neg), none, none, none], ?_, ?_⟩
    · refine ⟨_, rfl, p, dx, _, rfl, a.h, rfl, p, dx, cs, R, [45], rfl, a, by decide, fun e => ?_, fun e => ?_⟩
      · have hh : R.head? = some 45 := by
          cases R with
          | nil => simp at e
          | cons c r => simpa using e
        refine ⟨true, cs ++ [45], R.tail, by simp [hh], rfl, ?_, by rw [List.length_append], rfl⟩
        rw [List.append_assoc]
        exact congrArg (cs ++ ·) (head_of hh)
      · have hh : ¬ R.head? = some 45 := fun z => e (by rw [head_of z]; rfl)
        exact ⟨false, cs, R, by simpa using hh, rfl, rfl, (upd_id a.h).symm, rfl⟩
    · rintro σ' H1 ⟨neg, c1, R1, e1, e2, e3, rfl, rfl⟩
      have tw := List.takeWhile_append_dropWhile (p := isDg) (l := R1)
      have ad := all_tw R1
      have hpn : pNum R = (if R1.takeWhile isDg = [] then none else if 31 < (R1.takeWhile isDg).length then none else if (R1.takeWhile isDg).head? = some 48 ∧ (neg = true ∨ R1.takeWhile isDg ≠ [48]) then none
          else if 10 ^ 30 < NumText.digitsVal (R1.takeWhile isDg) then none else some (.nu (if neg then -((NumText.digitsVal (R1.takeWhile isDg) : Nat) : Int) else ((NumText.digitsVal (R1.takeWhile isDg) : Nat) : Int)), R1.dropWhile isDg)) := by
        rw [e2]
        unfold pNum
        simp only [e1]
      have dh : ∀ c, (R1.dropWhile isDg).head? = some c → isDg c = false := fun c hc => by
        have h1 : R1.dropWhile isDg ≠ [] := fun z => by rw [z] at hc; exact nomatch hc
        have := List.head_dropWhile_not (p := isDg) (l := R1) h1
        rw [List.head?_eq_some_head h1] at hc
        cases hc
        simpa using this
      have l1 : (c1 ++ R1).length ≤ 1000000 := by rw [← e3]; exact al
      generalize R1.takeWhile isDg = ds at *
      generalize R1.dropWhile isDg = R2 at *
      subst tw
      have test : ∀ k, k ≤ ds.length → (((ds ++ R2).drop k).take 1).any isDg = decide (k < ds.length) := fun k hk => by
        by_cases h : k < ds.length
        · have e := List.drop_eq_getElem_cons h
          rw [decide_eq_true h, List.drop_append_of_le_length hk, e]
          show [ds[k]].any isDg = true
          simp [ad _ (List.getElem_mem h)]
        · have : k = ds.length := by omega
          subst this
          rw [decide_eq_false h, List.drop_left]
          cases R2 with
          | nil => rfl
          | cons c r => simp [dh c rfl]
      refine ⟨_, rfl, p, _, dx, _, _, rfl, upd_same, T.cl_CallReader, T.n_CallReader_at, fs_CallReader_at, ?_⟩
      refine ⟨fun σ' H' => H' = upd H p (RD C dx (cs ++ R) (c1.length + ds.length)) ∧ σ' = [some (.ref p), some (.bl neg), some (.int (c1.length : Int)), none, none], ?_, ?_⟩
      · refine ⟨fun m σ' H' => ∃ k, m = ds.length - k ∧ k ≤ ds.length ∧ H' = upd H p (RD C dx (cs ++ R) (c1.length + k)) ∧ σ' = [some (.ref p), some (.bl neg), some (.int (c1.length : Int)), none, none], ⟨_, 0, rfl, Nat.zero_le _, rfl, rfl⟩, ?_⟩
        rintro m σ' H2 ⟨k, rfl, hk, rfl, rfl⟩
        have ak : At C (upd H p (RD C dx (cs ++ R) (c1.length + k))) p dx (c1 ++ (ds ++ R2).take k) ((ds ++ R2).drop k) := by
          refine ⟨?_, ?_⟩
          · rw [upd_same, List.append_assoc, List.take_append_drop, e3, List.length_append, List.length_take, Nat.min_eq_left (by rw [List.length_append]; omega)]
          · rw [List.append_assoc, List.take_append_drop]; exact l1
        refine ⟨_, rfl, p, dx, _, rfl, ak.h, rfl, p, dx, _, _, rfl, ak, _, rfl, by rw [List.length_take]; omega, _, rfl, ?_⟩
        rw [test k hk]
        refine ite2 (fun c => ?_) (fun c => ?_)
        · have hlt := of_decide_eq_true c
          refine ⟨fun σ' H' => ∃ m', m' < ds.length - k ∧ ∃ k, m' = ds.length - k ∧ k ≤ ds.length ∧ H' = upd H p (RD C dx (cs ++ R) (c1.length + k)) ∧ σ' = [some (.ref p), some (.bl neg), some (.int (c1.length : Int)), none, none], fun σ' H' z => z, ?_⟩
          refine ⟨_, rfl, p, _, dx, _, _, rfl, upd_same, T.cl_CallReader, T.n_CallReader_at, fs_CallReader_at, _, _, rfl, rfl, dx, _, upd_same, (by show 2 < 1000; decide), ?_⟩
          rw [put_at (m := c1.length + (k + 1)) (by omega), upd_upd]
          exact ⟨ds.length - (k + 1), by omega, k + 1, rfl, hlt, rfl, rfl⟩
        · have : k = ds.length := by
            have : ¬ k < ds.length := fun z => c (decide_eq_true z)
            omega
          subst this
          exact ⟨rfl, rfl⟩
      · rintro σ' H2 ⟨rfl, rfl⟩
        have cz : (TX (cs ++ R)).length ≤ sizeLine := by rw [TX_len]; omega
        refine ⟨_, rfl, p, _, dx, _, _, rfl, upd_same, T.cl_CallReader, T.n_CallReader_text, fs_CallReader_text, _, rfl, _, rfl, _, rfl, p, _, dx, _, _, rfl, upd_same, T.cl_CallReader, T.n_CallReader_at, fs_CallReader_at, _, rfl, _, rfl, cz, ?_⟩
        have ecut : cutS (TX (cs ++ R)) (some (c1.length : Int)) (some ((c1.length + ds.length : Nat) : Int)) = TX ds := by
          rw [e3, cut_take (k := ds.length) rfl rfl, List.take_left]
        rw [ecut]
        have l1' : c1.length + (ds.length + R2.length) ≤ 1000000 := by simpa using l1
        have dl : (TX ds).length ≤ sizeLine := by rw [TX_len]; omega
        refine ⟨fun σ' H' => (ds ≠ [] ∧ ¬ 31 < ds.length ∧ ¬ (ds.head? = some 48 ∧ (neg = true ∨ ds ≠ [48]))) ∧ H' = upd H p (RD C dx (cs ++ R) (c1.length + ds.length)) ∧ σ' = [some (.ref p), some (.bl neg), some (.int (c1.length : Int)), some (.str (TX ds)), none], ?_, ?_⟩
        · cases ds with
          | nil =>
            rw [if_pos rfl] at hpn
            exact ⟨_, rfl, false, ⟨dl, rfl⟩, iteT (iteT (q2 hpn _))⟩
          | cons c r =>
            rw [if_neg (by simp)] at hpn
            have hat : atI (TX (c :: r)).cps.toList 0 = some c := at_mid (pre := []) rfl
            refine ⟨_, rfl, true, ⟨dl, by rw [TX_len, List.length_cons]; simp; omega⟩, iteF ?_⟩
            refine ⟨_, rfl, _, rfl, dl, _, _, rfl, rfl, _, rfl, ite2 (fun c1 => iteT ?_) (fun c1 => ?_)⟩
            · have c1' := of_decide_eq_true c1
              rw [TX_len] at c1'
              rw [if_pos (by omega)] at hpn
              exact q2 hpn _
            have c1' : ¬ 31 < (c :: r).length := fun z => c1 (by rw [TX_len]; exact decide_eq_true (by omega))
            rw [if_neg c1'] at hpn
            refine ⟨_, rfl, _, _, c, rfl, rfl, dl, hat, rfl, _, rfl, ite2 (fun c2 => ?_) (fun c2 => ?_)⟩
            · have c48 : c = 48 := by
                have := V.str.inj (of_decide_eq_true c2)
                simpa using TX_inj (a := [c]) (b := [48]) this
              subst c48
              cases neg with
              | true =>
                rw [if_pos ⟨rfl, .inl rfl⟩] at hpn
                exact ⟨_, rfl, _, rfl, iteT (iteT (q2 hpn _))⟩
              | false =>
                refine ⟨_, rfl, _, rfl, iteF ⟨_, rfl, rfl, _, rfl, ite2 (fun c3 => ?_) (fun c3 => ?_)⟩⟩
                · have c3' : (48 :: r) ≠ [48] := fun z => by rw [z] at c3; exact absurd c3 (by decide)
                  rw [if_pos ⟨rfl, .inr c3'⟩] at hpn
                  exact q2 hpn _
                · have c3' : (48 :: r) = [48] := by
                    by_cases z : (48 :: r) = [48]
                    · exact z
                    · refine absurd ?_ c3
                      have : ¬ (V.str (TX (48 :: r)) = V.str ("0" : Str)) := fun y => z (TX_inj (a := 48 :: r) (b := [48]) (V.str.inj y))
                      rw [decide_eq_false this]
                      rfl
                  exact ⟨⟨by simp, c1', fun z => z.2.elim (fun y => nomatch y) (fun y => y c3')⟩, rfl, rfl⟩
            · have c48 : c ≠ 48 := fun z => c2 (decide_eq_true (by subst z; rfl))
              refine iteF ?_
              exact ⟨⟨by simp, c1', fun z => c48 (by simpa using z.1)⟩, rfl, rfl⟩
        · rintro σ' H3 ⟨⟨d1, d2, d3⟩, rfl, rfl⟩
          rw [if_neg d1, if_neg d2, if_neg d3] at hpn
          have it : PySem.intText? (TX ds) = some ((NumText.digitsVal ds : Nat) : Int) := SX.int_S (List.all_eq_true.mpr fun c hc => ad c hc) d1 (by omega)
          refine ⟨_, rfl, _, _, rfl, it, by rw [TX_len]; omega, ?_⟩
          refine ⟨_, rfl, _, _, rfl, rfl, _, rfl, ite2 (fun c => ?_) (fun c => ?_)⟩
          · have c' := of_decide_eq_true c
            rw [if_pos (by omega)] at hpn
            exact q2 hpn _
          · have c' : ¬ (1000000000000000000000000000000 < ((NumText.digitsVal ds : Nat) : Int)) := fun z => c (decide_eq_true z)
            rw [if_neg (by omega)] at hpn
            have q3 := q1 _ _ (c1 ++ ds) hpn (by rw [e3, List.append_assoc])
            rw [List.length_append] at q3
            cases neg with
            | true => exact ⟨_, rfl, _, rfl, iteT ⟨_, rfl, _, rfl, q3⟩⟩
            | false => exact ⟨_, rfl, _, rfl, iteF ⟨_, rfl, q3⟩⟩
end
end VL

set_option Elab.async false
set_option linter.all false
set_option pp.maxSteps 700
set_option maxRecDepth 100000
set_option maxHeartbeats 4000000
namespace VL
open PySem PySem.Spec PyProof.Rows L2
/-- success: the value stands, the reader is behind it -/
def Told (C : Ad) (p dx : Addr) (T : List Nat) (G : Hp) (M : List (Addr × HO)) (j : Jv) (n : Nat) (Q : VK) : Prop := ∀ (v : V) (G' H' : Hp), Sb G' H' ((p, RD C dx T n) :: M) → Same G G' → Dq G' v (encJ j) → Q v H'
def Fails (C : Ad) (p dx : Addr) (T : List Nat) (G : Hp) (M : List (Addr × HO)) (E : XK) : Prop := ∀ (n : Nat) (G' H' : Hp), Sb G' H' ((p, RD C dx T n) :: M) → Same G G' → E (.ref C.InvalidCall) none H'
def spV (C : Ad) (f : Nat) : Sp := fun vs H Q E => ∃ (p dx : Addr) (lv : Int) (cs R : List Nat) (G : Hp) (M : List (Addr × HO)), vs = [.ref p, .int lv] ∧ lv + f = 21 ∧ Sb G H ((p, RD C dx (cs ++ R) cs.length) :: M) ∧ (cs ++ R).length ≤ 1000000 ∧
  (∀ j R' cs', pV f R = some (j, R') → cs ++ R = cs' ++ R' → Told C p dx (cs ++ R) G M j cs'.length Q) ∧ (pV f R = none → Fails C p dx (cs ++ R) G M E)
def spL (C : Ad) (f : Nat) : Sp := fun vs H Q E => ∃ (p dx : Addr) (lv : Int) (cs R : List Nat) (G : Hp) (M : List (Addr × HO)), vs = [.ref p, .int lv] ∧ lv + f = 20 ∧ Sb G H ((p, RD C dx (cs ++ R) cs.length) :: M) ∧ (cs ++ R).length ≤ 1000000 ∧ R.head? = some 91 ∧
  (∀ j R' cs', pList (pV f) R.tail = some (j, R') → cs ++ R = cs' ++ R' → Told C p dx (cs ++ R) G M j cs'.length Q) ∧ (pList (pV f) R.tail = none → Fails C p dx (cs ++ R) G M E)
def spR (C : Ad) (f : Nat) : Sp := fun vs H Q E => ∃ (p dx : Addr) (lv : Int) (cs R : List Nat) (G : Hp) (M : List (Addr × HO)), vs = [.ref p, .int lv] ∧ lv + f = 20 ∧ Sb G H ((p, RD C dx (cs ++ R) cs.length) :: M) ∧ (cs ++ R).length ≤ 1000000 ∧ R.head? = some 123 ∧
  (∀ j R' cs', pRec (pV f) R.tail = some (j, R') → cs ++ R = cs' ++ R' → Told C p dx (cs ++ R) G M j cs'.length Q) ∧ (pRec (pV f) R.tail = none → Fails C p dx (cs ++ R) G M E)
def keysAre (kvs : List (Key × V)) (ks : List (List Nat)) : Prop := kvs.map (·.1) = ks.map fun k => (Sum.inr (TX k) : Key)
def spF (C : Ad) (f : Nat) : Sp := fun vs H Q E => ∃ (p dx d : Addr) (lv : Int) (cs R : List Nat) (ks : List (List Nat)) (kvs : List (Key × V)) (G : Hp) (M : List (Addr × HO)), vs = [.ref p, .ref d, .int lv] ∧ lv + f = 20 ∧ Sb G H ((d, .dK kvs) :: (p, RD C dx (cs ++ R) cs.length) :: M) ∧ (cs ++ R).length ≤ 1000000 ∧ keysAre kvs ks ∧ kvs.length ≤ cs.length ∧
  (∀ k j R' cs', fld (pV f) ks R = some ((k, j), R') → cs ++ R = cs' ++ R' → ∀ (v : V) (G' H' : Hp), Sb G' H' ((d, .dK (kvs ++ [(.inr (TX k), v)])) :: (p, RD C dx (cs ++ R) cs'.length) :: M) → Same G G' → Dq G' v (encJ j) → Q .non H') ∧
  (fld (pV f) ks R = none → ∀ (n : Nat) (kvs' : List (Key × V)) (G' H' : Hp), Sb G' H' ((d, .dK kvs') :: (p, RD C dx (cs ++ R) n) :: M) → Same G G' → E (.ref C.InvalidCall) none H')
theorem hd1 {R : List Nat} {c : Nat} : decide (V.str (TX (R.take 1)) = V.str (TX [c])) = decide (R.head? = some c) := by
  rw [vstr_TX]
  cases R with
  | nil => simp
  | cons d r =>
    by_cases e : d = c
    · subst e; simp
    · simp [e]
theorem tk1 {R : List Nat} {c : Nat} (h : R.head? = some c) : R.take [c].length = [c] := by rw [head_of h]; rfl
theorem tk1n {R : List Nat} {c : Nat} (h : ¬ R.head? = some c) : R.take [c].length ≠ [c] := fun e => h (by
  cases R with
  | nil => simp at e
  | cons d r => simpa using e)
theorem pV_suf {f : Nat} {R R' : List Nat} {j : Jv} (h : pV f R = some (j, R')) : ∃ m, R = m ++ R' ∧ 1 ≤ m.length := by
  obtain ⟨e, _, _⟩ := pV_back f _ _ _ h
  obtain ⟨c, r, hc, _⟩ := wr_head j
  exact ⟨wr j, e, by rw [hc]; simp⟩
section
variable {P : Program} {w : World} {K : PySem.W.Frag} {mg : Str → Option Value} {base : Heap} {C : Ad}
theorem sc_CallReader_take_value : FnScope ["self", "level", "word", "meant", "sign"] ["self", "level"] (defScope s_CallReader_take_value) := ⟨rfl, rfl, rfl, by decide +kernel, rfl, by decide +kernel, by decide +kernel⟩
theorem tv_0 (T : Txt K w mg C) : MetX P w K mg base 4 C.CallReader "take_value" (spV C 0) := by
  have Msign := ok_sign (P := P) (base := base) T
  have Mhas := ok_has (P := P) (base := base) T
  have Xtake_text := ok_text (P := P) (base := base) T
  have Xtake_number := ok_num (P := P) (base := base) T
  have Xtake_list : MetX P w K mg base 1 C.CallReader "take_list" spFalse := metX_of T.m_CallReader_take_list T.cl_CallReader (show FnScope ["self", "level", "members"] ["self", "level"] (defScope s_CallReader_take_list) from ⟨rfl, rfl, rfl, by decide +kernel, rfl, by decide +kernel, by decide +kernel⟩) (fun vs H Q E h => h.elim) (fun f cdv A outer s H vs Q E hr h => h.elim)
  have Xtake_record : MetX P w K mg base 1 C.CallReader "take_record" spFalse := metX_of T.m_CallReader_take_record T.cl_CallReader (show FnScope ["self", "level", "record"] ["self", "level"] (defScope s_CallReader_take_record) from ⟨rfl, rfl, rfl, by decide +kernel, rfl, by decide +kernel, by decide +kernel⟩) (fun vs H Q E h => h.elim) (fun f cdv A outer s H vs Q E hr h => h.elim)
  obtain ⟨aW, a0, a1, a2, gW, hW, hW0, hW1, hW2⟩ := T.g_WORDS
  refine metX_of T.m_CallReader_take_value T.cl_CallReader sc_CallReader_take_value (fun vs H Q E h => ?_) (fun f cdv A outer s H vs Q E hr h => ?_)
  · obtain ⟨p, dx, lv, cs, R, G, M, rfl, _⟩ := h
    rfl
  · obtain ⟨p, dx, lv, cs, R, G, M, rfl, hlv, S, hl, q1, q2⟩ := h
    refine ⟨_, (pss_cons (ps_if (pt_cmpR op_gt (pv 1) (C8.pe_gc (by rfl) T.g_LOWEST_LEVEL) (nomark _)) (pss_one (ps_raise rfl takeX (SkE.pmk_own1 PySem.F.excBase_ValueError T.x_InvalidCall.xx T.x_InvalidCall.g T.x_InvalidCall.kp (raises_own T.x_InvalidCall.bP T.x_InvalidCall.tP) (by rfl) pe_str))) pss_nil) (pss_cons (ps_for (passes_of rfl) rfl (pi_tup (C8.pe_gc (by rfl) gW)) (pg_tup rfl (pgs_cons (pg_name (i := 2) sc_CallReader_take_value.nd rfl (Or.inl rfl)) (pgs_cons (pg_name (i := 3) sc_CallReader_take_value.nd rfl (Or.inl rfl)) pgs_nil))) (pss_one (ps_if (pt_val (pe_mt Mhas hr (by omega) (pv 0) (pa_cons (pv 2) pa_nil))) (pss_one (ps_ret (pv 3))) pss_nil))) (pss_cons (ps_set (i := 4) sc_CallReader_take_value.nd rfl (Or.inl rfl) (pe_mt0 Msign hr (by omega) (pv 0))) (pss_cons (ps_if (pt_cmpR op_eq (pv 4) pe_str (nomark _)) (pss_one (ps_ret (pe_mtX thruX Xtake_list hr (by omega) (pv 0) (pa_cons (pv 1) pa_nil)))) pss_nil) (pss_cons (ps_if (pt_cmpR op_eq (pv 4) pe_str (nomark _)) (pss_one (ps_ret (pe_mtX thruX Xtake_record hr (by omega) (pv 0) (pa_cons (pv 1) pa_nil)))) pss_nil) (pss_cons (ps_if (pt_cmpR op_eq (pv 4) pe_str (nomark _)) (pss_one (ps_ret (pe_mtX0 thruX Xtake_text hr (by omega) (pv 0)))) pss_nil) (pss_one (ps_ret (pe_mtX0 thruX Xtake_number hr (by omega) (pv 0)))))))))), ?_⟩
    refine ⟨_, rfl, _, _, rfl, rfl, _, rfl, ite2 (fun c => ?_) (fun c => absurd (decide_eq_true (by omega)) c)⟩
    exact q2 rfl _ G H S (Same.refl _)
theorem tv_S (T : Txt K w mg C) {f k : Nat} (hk : 3 ≤ k) (Xtake_list : MetX P w K mg base k C.CallReader "take_list" (spL C f)) (Xtake_record : MetX P w K mg base k C.CallReader "take_record" (spR C f)) : MetX P w K mg base (k + 1) C.CallReader "take_value" (spV C (f + 1)) := by
  have Msign := ok_sign (P := P) (base := base) T
  have Mhas := ok_has (P := P) (base := base) T
  have Xtake_text := ok_text (P := P) (base := base) T
  have Xtake_number := ok_num (P := P) (base := base) T
  obtain ⟨aW, a0, a1, a2, gW, hW, hW0, hW1, hW2⟩ := T.g_WORDS
  refine metX_of T.m_CallReader_take_value T.cl_CallReader sc_CallReader_take_value (fun vs H Q E h => ?_) (fun f' cdv A outer s H vs Q E hr h => ?_)
  · obtain ⟨p, dx, lv, cs, R, G, M, rfl, _⟩ := h
    rfl
  · obtain ⟨p, dx, lv, cs, R, G, M, rfl, hlv, S, hl, q1, q2⟩ := h
    have a : At C H p dx cs R := ⟨S.hd, hl⟩
    have word : ∀ (m : List Nat) (j : Jv) (v : V), pV (f + 1) R = some (j, R.drop m.length) → R.take m.length = m → (∀ G, Dq G v (encJ j)) → Q v (upd H p (RD C dx (cs ++ R) (cs.length + m.length))) := fun m j v hp e dq => by
      have q3 := q1 j (R.drop m.length) (cs ++ m) hp (by
        rw [List.append_assoc]
        refine congrArg (cs ++ ·) ?_
        conv => lhs; rw [← List.take_append_drop m.length R]
        rw [e])
      rw [List.length_append] at q3
      exact q3 v G _ S.put (Same.refl _) (dq G)
    refine ⟨_, (pss_cons (ps_if (pt_cmpR op_gt (pv 1) (C8.pe_gc (by rfl) T.g_LOWEST_LEVEL) (nomark _)) (pss_one (ps_raise rfl takeX (SkE.pmk_own1 PySem.F.excBase_ValueError T.x_InvalidCall.xx T.x_InvalidCall.g T.x_InvalidCall.kp (raises_own T.x_InvalidCall.bP T.x_InvalidCall.tP) (by rfl) pe_str))) pss_nil) (pss_cons (ps_for (passes_of rfl) rfl (pi_tup (C8.pe_gc (by rfl) gW)) (pg_tup rfl (pgs_cons (pg_name (i := 2) sc_CallReader_take_value.nd rfl (Or.inl rfl)) (pgs_cons (pg_name (i := 3) sc_CallReader_take_value.nd rfl (Or.inl rfl)) pgs_nil))) (pss_one (ps_if (pt_val (pe_mt Mhas hr (by omega) (pv 0) (pa_cons (pv 2) pa_nil))) (pss_one (ps_ret (pv 3))) pss_nil))) (pss_cons (ps_set (i := 4) sc_CallReader_take_value.nd rfl (Or.inl rfl) (pe_mt0 Msign hr (by omega) (pv 0))) (pss_cons (ps_if (pt_cmpR op_eq (pv 4) pe_str (nomark _)) (pss_one (ps_ret (pe_mtX thruX Xtake_list hr (by omega) (pv 0) (pa_cons (pv 1) pa_nil)))) pss_nil) (pss_cons (ps_if (pt_cmpR op_eq (pv 4) pe_str (nomark _)) (pss_one (ps_ret (pe_mtX thruX Xtake_record hr (by omega) (pv 0) (pa_cons (pv 1) pa_nil)))) pss_nil) (pss_cons (ps_if (pt_cmpR op_eq (pv 4) pe_str (nomark _)) (pss_one (ps_ret (pe_mtX0 thruX Xtake_text hr (by omega) (pv 0)))) pss_nil) (pss_one (ps_ret (pe_mtX0 thruX Xtake_number hr (by omega) (pv 0)))))))))), ?_⟩
    refine ⟨_, rfl, _, _, rfl, rfl, _, rfl, ite2 (fun c => absurd (of_decide_eq_true c) (by omega)) (fun _ => ?_)⟩
    refine ⟨aW, rfl, ⟨_, hW H⟩, ?_⟩
    refine for_it (walk_tup (K := K) (a := aW) (xs := [.ref a0, .ref a1, .ref a2])) (fun i σ H' => H' = H ∧ (1 ≤ i → R.take 4 ≠ wNull) ∧ (2 ≤ i → R.take 4 ≠ wTrue) ∧ (3 ≤ i → R.take 5 ≠ wFalse) ∧ ∃ y2 y3, σ = [some (.ref p), some (.int lv), y2, y3, none]) ⟨rfl, fun z => by omega, fun z => by omega, fun z => by omega, _, _, rfl⟩ (fun i σ H' _ _ => hW H') ?_ ?_
    · rintro i x σ H1 H2 hi ⟨rfl, b1, b2, b3, y2, y3, rfl⟩ ⟨rfl, hx⟩
      have hi3 : i < 3 := hi
      match i, hi3, hx, b1, b2, b3 with
      | 0, _, hx, b1, b2, b3 =>
        cases (show V.ref a0 = x from Option.some.inj hx)
        refine ⟨_, _, rfl, hW0 _, rfl, _, _, rfl, _, _, rfl, rfl, ?_⟩
        refine ⟨_, rfl, p, dx, _, rfl, a.h, rfl, _, rfl, p, dx, cs, R, wNull, rfl, a, by decide, fun e => ⟨_, rfl, iteT ?_⟩, fun e => ⟨_, rfl, iteF ?_⟩⟩
        · exact ⟨_, rfl, word wNull .nul .non (by rw [pV_eq, if_pos (show R.take 4 = wNull from e)]; rfl) e fun G => by simp only [encJ]; exact .non⟩
        · exact ⟨rfl, fun _ => e, fun z => by omega, fun z => by omega, _, _, rfl⟩
      | 1, _, hx, b1, b2, b3 =>
        cases (show V.ref a1 = x from Option.some.inj hx)
        have b1 := b1 (Nat.le_refl _)
        refine ⟨_, _, rfl, hW1 _, rfl, _, _, rfl, _, _, rfl, rfl, ?_⟩
        refine ⟨_, rfl, p, dx, _, rfl, a.h, rfl, _, rfl, p, dx, cs, R, wTrue, rfl, a, by decide, fun e => ⟨_, rfl, iteT ?_⟩, fun e => ⟨_, rfl, iteF ?_⟩⟩
        · exact ⟨_, rfl, word wTrue (.bo true) (.bl true) (by rw [pV_eq, if_neg b1, if_pos (show R.take 4 = wTrue from e)]; rfl) e fun G => by simp only [encJ]; exact .bl true⟩
        · exact ⟨rfl, fun _ => b1, fun _ => e, fun z => by omega, _, _, rfl⟩
      | 2, _, hx, b1, b2, b3 =>
        cases (show V.ref a2 = x from Option.some.inj hx)
        have b1 := b1 (by decide)
        have b2 := b2 (by decide)
        refine ⟨_, _, rfl, hW2 _, rfl, _, _, rfl, _, _, rfl, rfl, ?_⟩
        refine ⟨_, rfl, p, dx, _, rfl, a.h, rfl, _, rfl, p, dx, cs, R, wFalse, rfl, a, by decide, fun e => ⟨_, rfl, iteT ?_⟩, fun e => ⟨_, rfl, iteF ?_⟩⟩
        · exact ⟨_, rfl, word wFalse (.bo false) (.bl false) (by rw [pV_eq, if_neg b1, if_neg b2, if_pos (show R.take 5 = wFalse from e)]; rfl) e fun G => by simp only [encJ]; exact .bl false⟩
        · exact ⟨rfl, fun _ => b1, fun _ => b2, fun _ => e, _, _, rfl⟩
    · rintro σ H1 ⟨rfl, b1, b2, b3, y2, y3, rfl⟩
      have b1 := b1 (by show 1 ≤ 3; decide)
      have b2 := b2 (by show 2 ≤ 3; decide)
      have b3 := b3 (by show 3 ≤ 3; decide)
      rw [pV_eq, if_neg b1, if_neg b2, if_neg b3] at q1 q2
      refine ⟨_, rfl, p, dx, _, rfl, a.h, rfl, p, dx, cs, R, rfl, a, ?_⟩
      refine ⟨_, rfl, rfl, _, rfl, ?_⟩
      rw [k_lb, hd1]
      refine ite2 (fun c => ?_) (fun c => ?_)
      · have hh := of_decide_eq_true c
        rw [if_pos hh] at q1 q2
        exact ⟨_, rfl, p, dx, _, rfl, a.h, rfl, _, rfl, p, dx, lv, cs, R, G, M, rfl, by omega, S, hl, hh, q1, q2⟩
      have h1 : ¬ R.head? = some 91 := fun z => c (decide_eq_true z)
      rw [if_neg h1] at q1 q2
      refine ⟨_, rfl, rfl, _, rfl, ?_⟩
      rw [k_lc, hd1]
      refine ite2 (fun c => ?_) (fun c => ?_)
      · have hh := of_decide_eq_true c
        rw [if_pos hh] at q1 q2
        exact ⟨_, rfl, p, dx, _, rfl, a.h, rfl, _, rfl, p, dx, lv, cs, R, G, M, rfl, by omega, S, hl, hh, q1, q2⟩
      have h2 : ¬ R.head? = some 123 := fun z => c (decide_eq_true z)
      rw [if_neg h2] at q1 q2
      refine ⟨_, rfl, rfl, _, rfl, ?_⟩
      rw [k_q, hd1]
      refine ite2 (fun c => ?_) (fun c => ?_)
      · have hh := of_decide_eq_true c
        rw [if_pos hh] at q1 q2
        have qe : qTx R = pTxt R.tail := if_pos hh
        refine ⟨_, rfl, p, dx, _, rfl, a.h, rfl, p, dx, cs, R, G, M, rfl, S, hl, fun l R' cs' e1 e2 n G' H' S' g' en => ?_, fun e1 n G' H' S' g' => ?_⟩
        · rw [qe] at e1
          subst en
          exact q1 (.tx l) R' cs' (by rw [e1]; rfl) e2 _ G' H' S' g' (by simp only [encJ]; exact .str _)
        · rw [qe] at e1
          exact q2 (by rw [e1]; rfl) n G' H' S' g'
      have h3 : ¬ R.head? = some 34 := fun z => c (decide_eq_true z)
      rw [if_neg h3] at q1 q2
      refine ⟨_, rfl, p, dx, _, rfl, a.h, rfl, p, dx, cs, R, rfl, a, fun i R' cs' e1 e2 => ?_, fun e1 n => ?_⟩
      · exact q1 (.nu i) R' cs' e1 e2 _ G _ S.put (Same.refl _) (by simp only [encJ]; exact .int i)
      · exact q2 e1 n G _ S.put (Same.refl _)
theorem sc_CallReader_take_list : FnScope ["self", "level", "members"] ["self", "level"] (defScope s_CallReader_take_list) := ⟨rfl, rfl, rfl, by decide +kernel, rfl, by decide +kernel, by decide +kernel⟩
theorem tl_S (T : Txt K w mg C) {f k : Nat} (hk : 2 ≤ k) (Xtake_value : MetX P w K mg base k C.CallReader "take_value" (spV C f)) : MetX P w K mg base (k + 1) C.CallReader "take_list" (spL C f) := by
  have Mhas := ok_has (P := P) (base := base) T
  have Xneed := ok_need (P := P) (base := base) T
  refine metX_of T.m_CallReader_take_list T.cl_CallReader sc_CallReader_take_list (fun vs H Q E h => ?_) (fun f' cdv A outer s H vs Q E hr h => ?_)
  · obtain ⟨p, dx, lv, cs, R, G, M, rfl, _⟩ := h
    rfl
  · obtain ⟨p, dx, lv, cs, R, G, M, rfl, hlv, S, hl, hh, q1, q2⟩ := h
    have big : 10000000 < sizeLine := by decide
    obtain ⟨R0, rfl⟩ : ∃ R0, R = 91 :: R0 := ⟨_, head_of hh⟩
    have a : At C H p dx cs (91 :: R0) := ⟨S.hd, hl⟩
    refine ⟨_, (pss_cons (ps_expr (pe_mtX thruX Xneed hr (by omega) (pv 0) (pa_cons pe_str pa_nil))) (pss_cons (ps_set (i := 2) sc_CallReader_take_list.nd rfl (Or.inl rfl) (pe_lst pa_nil)) (pss_cons (ps_if (pt_val (pe_mt Mhas hr (by omega) (pv 0) (pa_cons pe_str pa_nil))) (pss_one (ps_ret (pv 2))) pss_nil) (pss_cons (ps_expr (pe_bm PySem.F.plainAttrs_list PySem.F.slot_list_append PySem.F.type_list_append mt_append (pv 2) (pa_cons (pe_mtX thruX Xtake_value hr (by omega) (pv 0) (pa_cons (pe_op op_add (pv 1) pe_int) pa_nil)) pa_nil))) (pss_cons (ps_while (passes_of rfl) (pt_val (pe_mt Mhas hr (by omega) (pv 0) (pa_cons pe_str pa_nil))) (pss_one (ps_expr (pe_bm PySem.F.plainAttrs_list PySem.F.slot_list_append PySem.F.type_list_append mt_append (pv 2) (pa_cons (pe_mtX thruX Xtake_value hr (by omega) (pv 0) (pa_cons (pe_op op_add (pv 1) pe_int) pa_nil)) pa_nil))))) (pss_cons (ps_expr (pe_mtX thruX Xneed hr (by omega) (pv 0) (pa_cons pe_str pa_nil))) (pss_one (ps_ret (pv 2))))))))), ?_⟩
    refine ⟨_, rfl, p, dx, _, rfl, a.h, rfl, p, dx, cs, _, [91], rfl, a, by decide, fun _ => ?_, fun e => absurd rfl e⟩
    have S1 := S.put (u := RD C dx (cs ++ 91 :: R0) (cs.length + 1))
    refine ⟨by show 0 ≤ sizeLine; decide, fun D hD => ?_⟩
    have S2 := S1.add (o := .lst []) hD
    have e0 : cs ++ 91 :: R0 = (cs ++ [91]) ++ R0 := by simp
    simp only [List.tail_cons] at q1 q2
    have pst : ∀ (c1 R1 : List Nat) (H1 G1 : Hp) (ds : List V), cs ++ 91 :: R0 = c1 ++ R1 → Sb G1 H1 ((D, .lst ds) :: (p, RD C dx (cs ++ 91 :: R0) c1.length) :: M) → At C H1 p dx c1 R1 := fun c1 R1 H1 G1 ds e S => ⟨by rw [← e]; exact S.hd2, by rw [← e]; exact hl⟩
    have a2 := pst (cs ++ [91]) R0 _ G [] e0 (by rw [List.length_append]; exact S2)
    have fail : pList (pV f) R0 = none → ∀ (n : Nat) (G2 H2 : Hp) (ds : List V), Sb G2 H2 ((D, .lst ds) :: (p, RD C dx (cs ++ 91 :: R0) n) :: M) → Same G G2 → E (.ref C.InvalidCall) none H2 := fun e n G2 H2 ds S4 g4 => by
      obtain ⟨S5, g5⟩ := S4.drop
      exact q2 e n _ H2 S5 (Same.trans g4 g5)
    have fin : ∀ (vs : List Jv) (c1 R1 : List Nat) (G2 H2 : Hp) (ds : List V), pList (pV f) R0 = some (.li vs, R1) → cs ++ 91 :: R0 = c1 ++ R1 → Sb G2 H2 ((D, .lst ds) :: (p, RD C dx (cs ++ 91 :: R0) c1.length) :: M) → Same G G2 → DqAll G2 ds (encJs vs) → Q (.ref D) H2 := fun vs c1 R1 G2 H2 ds e1 e2 S4 g4 dq => by
      obtain ⟨S5, g5⟩ := S4.drop
      refine q1 (.li vs) R1 c1 e1 e2 (.ref D) _ H2 S5 (Same.trans g4 g5) ?_
      simp only [encJ]
      exact .lst upd_same (dq.same g5)
    by_cases h93 : R0.head? = some 93
    · refine ⟨_, rfl, p, dx, _, rfl, a2.h, rfl, p, dx, _, _, [93], rfl, a2, by decide, fun _ => ⟨_, rfl, iteT ?_⟩, fun e => absurd (tk1 h93) e⟩
      have S3 := S2.put2 (u := RD C dx (cs ++ 91 :: R0) ((cs ++ [91]).length + [93].length))
      rw [← e0]
      refine ⟨_, rfl, fin [] (cs ++ [91, 93]) R0.tail G _ [] (by unfold pList; rw [if_pos h93]) ?_ (by simp only [List.length_append, List.length_cons, List.length_nil] at S3 ⊢; exact S3) (Same.refl _) (by simp only [encJs]; exact .nil)⟩
      rw [head_of h93]
      simp
    refine ⟨_, rfl, p, dx, _, rfl, a2.h, rfl, p, dx, _, _, [93], rfl, a2, by decide, fun e => absurd e (tk1n h93), fun _ => ⟨_, rfl, iteF ?_⟩⟩
    have S2' : Sb G (upd (upd H p (RD C dx (cs ++ 91 :: R0) (cs.length + 1))) D (.lst [])) ((p, RD C dx ((cs ++ [91]) ++ R0) (cs ++ [91]).length) :: (D, .lst []) :: M) := by
      rw [← e0, List.length_append]
      exact S2.swap
    have hl' : ((cs ++ [91]) ++ R0).length ≤ 1000000 := by rw [← e0]; exact hl
    refine ⟨_, rfl, .inl ⟨rfl, _, SqL.of S2.hd⟩, _, rfl, p, dx, _, rfl, a2.h, rfl, _, rfl, _, _, rfl, rfl, p, dx, lv + 1, cs ++ [91], R0, G, (D, .lst []) :: M, rfl, by omega, S2', hl', fun j R' cs' e1 e2 v G' H' S3 g3 dv => ?ok, fun e1 n G' H' S3 g3 => ?bad⟩
    case bad =>
      rw [← e0] at S3
      exact fail (by unfold pList; rw [if_neg h93, e1]) n G' H' [] S3.swap g3
    rw [← e0] at S3 e2
    have S3 := S3.swap
    refine ⟨D, _, _, rfl, rfl, S3.hd, by show 0 < sizeLine; decide, ?_⟩
    have S4 := S3.put (u := .lst ([] ++ [v]))
    have hpl : pList (pV f) R0 = match moreL (pV f) R'.length R' with | none => none | some (vs, R2) => if R2.head? = some 93 then some (.li (j :: vs), R2.tail) else none := by unfold pList; rw [if_neg h93, e1] <;> rfl
    refine ⟨fun m σ H' => ∃ (n : Nat) (c1 R1 : List Nat) (w : List Jv) (ds : List V) (G1 : Hp), m = R1.length ∧ R1.length ≤ n ∧ cs ++ 91 :: R0 = c1 ++ R1 ∧ moreL (pV f) R'.length R' = (moreL (pV f) n R1).map (fun q => (w ++ q.1, q.2)) ∧ ds.length ≤ c1.length ∧ Sb G1 H' ((D, .lst ds) :: (p, RD C dx (cs ++ 91 :: R0) c1.length) :: M) ∧ Same G G1 ∧ DqAll G1 ds (encJs (j :: w)) ∧ σ = [some (.ref p), some (.int lv), some (.ref D)],
      ⟨_, R'.length, cs', R', [], [v], G', rfl, Nat.le_refl _, e2, by cases moreL (pV f) R'.length R' <;> simp, ?_, S4, g3, by simp only [encJs]; exact .cons dv .nil, rfl⟩, ?_⟩
    · obtain ⟨m, hm, hm1⟩ := pV_suf e1
      have := congrArg List.length e2
      rw [e0, hm] at this
      simp only [List.length_append, List.length_cons, List.length_nil] at this ⊢
      omega
    rintro m σ H1 ⟨n, c1, R1, w', ds, G1, rfl, hn, e3, hm, hds, S5, g5, dq, rfl⟩
    have a5 := pst c1 R1 H1 G1 ds e3 S5
    by_cases h44 : R1.head? = some 44
    · obtain ⟨R2, rfl⟩ : ∃ R2, R1 = 44 :: R2 := ⟨_, head_of h44⟩
      refine ⟨_, rfl, p, dx, _, rfl, a5.h, rfl, p, dx, _, _, [44], rfl, a5, by decide, fun _ => ⟨_, rfl, iteT ?_⟩, fun e => absurd rfl e⟩
      refine ⟨fun σ' H' => ∃ m', m' < (44 :: R2).length ∧ ∃ (n : Nat) (c1 R1 : List Nat) (w : List Jv) (ds : List V) (G1 : Hp), m' = R1.length ∧ R1.length ≤ n ∧ cs ++ 91 :: R0 = c1 ++ R1 ∧ moreL (pV f) R'.length R' = (moreL (pV f) n R1).map (fun q => (w ++ q.1, q.2)) ∧ ds.length ≤ c1.length ∧ Sb G1 H' ((D, .lst ds) :: (p, RD C dx (cs ++ 91 :: R0) c1.length) :: M) ∧ Same G G1 ∧ DqAll G1 ds (encJs (j :: w)) ∧ σ' = [some (.ref p), some (.int lv), some (.ref D)], fun σ' H' z => z, ?_⟩
      have S6 := S5.put2 (u := RD C dx (cs ++ 91 :: R0) (c1.length + 1))
      have e4 : cs ++ 91 :: R0 = (c1 ++ [44]) ++ R2 := by rw [e3]; simp
      have hl6 : ((c1 ++ [44]) ++ R2).length ≤ 1000000 := by rw [← e4]; exact hl
      have e5 : RD C dx (c1 ++ 44 :: R2) (c1.length + [44].length) = RD C dx (cs ++ 91 :: R0) (c1.length + 1) := by rw [e3]; rfl
      rw [e5]
      have S6' : Sb G1 (upd H1 p (RD C dx (cs ++ 91 :: R0) (c1.length + 1))) ((p, RD C dx ((c1 ++ [44]) ++ R2) (c1 ++ [44]).length) :: (D, .lst ds) :: M) := by
        rw [← e4, List.length_append]
        exact S6.swap
      obtain ⟨n', rfl⟩ : ∃ n', n = n' + 1 := ⟨n - 1, by simp at hn; omega⟩
      have hm2 : moreL (pV f) (n' + 1) (44 :: R2) = match pV f R2 with | none => none | some (v, R') => (moreL (pV f) n' R').map fun q => (v :: q.1, q.2) := by
        simp only [moreL, List.head?_cons, if_true, List.tail_cons] <;> rfl
      refine ⟨_, rfl, .inl ⟨rfl, _, SqL.of S6.hd⟩, _, rfl, p, dx, _, rfl, upd_same, rfl, _, rfl, _, _, rfl, rfl, p, dx, lv + 1, c1 ++ [44], R2, G1, (D, .lst ds) :: M, rfl, by omega, S6', hl6, fun j2 R3 c3 f1 f2 v2 G7 H7 S7 g7 dv2 => ?_, fun f1 n7 G7 H7 S7 g7 => ?_⟩
      · rw [← e4] at S7 f2
        have S7 := S7.swap
        obtain ⟨m3, hm3, hm4⟩ := pV_suf f1
        have cl : c3.length = c1.length + 1 + m3.length := by
          have := congrArg List.length f2
          rw [e4, hm3] at this
          simp only [List.length_append, List.length_cons, List.length_nil] at this
          omega
        have dl : ds.length ≤ 1000000 := by
          have := congrArg List.length e3
          rw [List.length_append] at this
          rw [List.length_append] at hl
          simp only [List.length_append, List.length_cons] at this
          simp only [List.length_cons] at hl
          omega
        refine ⟨D, _, _, rfl, rfl, S7.hd, by omega, ?_⟩
        refine ⟨R3.length, by rw [hm3]; simp only [List.length_cons, List.length_append]; omega, n', c3, R3, w' ++ [j2], ds ++ [v2], G7, rfl, ?_, f2, ?_, by rw [List.length_append, List.length_singleton]; omega, S7.put, Same.trans g5 g7, ?_, rfl⟩
        · rw [hm3] at hn
          simp only [List.length_cons, List.length_append] at hn
          omega
        · rw [hm, hm2, f1]
          simp only
          cases moreL (pV f) n' R3 <;> simp
        · have : encJs (j :: (w' ++ [j2])) = encJs (j :: w') ++ [encJ j2] := by simp [encJs, encJs_app]
          rw [this]
          exact dqAll_ap (dq.same g7) (.cons dv2 .nil)
      · rw [← e4] at S7
        refine fail ?_ n7 G7 H7 ds S7.swap (Same.trans g5 g7)
        rw [hpl, hm, hm2, f1]
        rfl
    · have hm0 : moreL (pV f) n R1 = some ([], R1) := by
        cases n with
        | zero => rfl
        | succ n => simp only [moreL]; rw [if_neg h44]
      rw [hm0] at hm
      rw [hm] at hpl
      simp only [Option.map_some, List.append_nil] at hpl
      refine ⟨_, rfl, p, dx, _, rfl, a5.h, rfl, p, dx, _, _, [44], rfl, a5, by decide, fun e => absurd e (tk1n h44), fun _ => ⟨_, rfl, iteF ?_⟩⟩
      by_cases hx : R1.head? = some 93
      · rw [if_pos hx] at hpl
        refine ⟨_, rfl, p, dx, _, rfl, a5.h, rfl, p, dx, _, _, [93], rfl, a5, by decide, fun _ => ?_, fun e => absurd (tk1 hx) e⟩
        have S6 := S5.put2 (u := RD C dx (cs ++ 91 :: R0) (c1.length + [93].length))
        rw [← e3]
        refine ⟨_, rfl, fin (j :: w') (c1 ++ [93]) R1.tail G1 _ ds hpl ?_ (by rw [List.length_append]; exact S6) g5 dq⟩
        rw [e3, List.append_assoc]
        exact congrArg (c1 ++ ·) (head_of hx)
      · rw [if_neg hx] at hpl
        refine ⟨_, rfl, p, dx, _, rfl, a5.h, rfl, p, dx, _, _, [93], rfl, a5, by decide, fun e => absurd e (tk1n hx), fun _ => ?_⟩
        exact fail hpl _ _ _ _ S5 g5
/-! records -/
theorem fld_q {p : List Nat → Option (Jv × List Nat)} {ks : List (List Nat)} {R : List Nat} : fld p ks R = match qTx R with | none => none | some (k, R1) => if k ∈ ks then none else if R1.head? = some 58 then (p R1.tail).map fun q => ((k, q.1), q.2) else none := by
  unfold fld qTx
  by_cases h : R.head? = some 34
  · rw [if_pos h, if_pos h] <;> (cases pTxt R.tail <;> rfl)
  · rw [if_neg h, if_neg h]
theorem qTx_suf {R l R' : List Nat} (h : qTx R = some (l, R')) : ∃ m, R = m ++ R' ∧ 2 ≤ m.length := by
  unfold qTx at h
  by_cases hh : R.head? = some 34
  · rw [if_pos hh] at h
    have e := pTxt_back _ _ _ _ (Nat.le_refl _) h
    refine ⟨34 :: (eTx l ++ [34]), ?_, by simp⟩
    rw [head_of hh, e]
    simp
  · rw [if_neg hh] at h
    exact nomatch h
theorem keys_val {kvs : List (Key × V)} {ks : List (List Nat)} (h : keysAre kvs ks) (k : List Nat) : (valV kvs (.inr (TX k))).isSome = decide (k ∈ ks) := by
  by_cases m : k ∈ ks
  · rw [decide_eq_true m]
    refine valV_in2 ?_
    rw [h]
    exact List.mem_map.mpr ⟨k, m, rfl⟩
  · rw [decide_eq_false m, valV_out (by
      rw [h]
      intro z
      obtain ⟨s, hs, e⟩ := List.mem_map.mp z
      exact m (by rw [← TX_inj (Sum.inr.inj e)]; exact hs))]
    rfl
theorem sc_CallReader_take_field : FnScope ["self", "record", "level", "name"] ["self", "record", "level"] (defScope s_CallReader_take_field) := ⟨rfl, rfl, rfl, by decide +kernel, rfl, by decide +kernel, by decide +kernel⟩
theorem tf_S (T : Txt K w mg C) {f k : Nat} (hk : 3 ≤ k) (Xtake_value : MetX P w K mg base k C.CallReader "take_value" (spV C f)) : MetX P w K mg base (k + 1) C.CallReader "take_field" (spF C f) := by
  have Xneed := ok_need (P := P) (base := base) T
  have Xtake_text := ok_text (P := P) (base := base) T
  refine metX_of T.m_CallReader_take_field T.cl_CallReader sc_CallReader_take_field (fun vs H Q E h => ?_) (fun f' cdv A outer s H vs Q E hr h => ?_)
  · obtain ⟨p, dx, d, lv, cs, R, ks, kvs, G, M, rfl, _⟩ := h
    rfl
  · obtain ⟨p, dx, d, lv, cs, R, ks, kvs, G, M, rfl, hlv, S, hl, hks, hkl, q1, q2⟩ := h
    have hu := hu_of hr
    have big : 10000000 < sizeLine := by decide
    rw [fld_q] at q1 q2
    refine ⟨_, (pss_cons (ps_set (i := 3) sc_CallReader_take_field.nd rfl (Or.inl rfl) (pe_mtX0 thruX Xtake_text hr (by omega) (pv 0))) (pss_cons (ps_if (pt_cmp (pc_din hu (pv 3) (pv 1))) (pss_one (ps_raise rfl takeX (SkE.pmk_own1 PySem.F.excBase_ValueError T.x_InvalidCall.xx T.x_InvalidCall.g T.x_InvalidCall.kp (raises_own T.x_InvalidCall.bP T.x_InvalidCall.tP) (by rfl) pe_str))) pss_nil) (pss_cons (ps_expr (pe_mtX thruX Xneed hr (by omega) (pv 0) (pa_cons pe_str pa_nil))) (pss_one (ps_dput hu (pv 1) (pv 3) (pe_mtX thruX Xtake_value hr (by omega) (pv 0) (pa_cons (pe_op op_add (pv 2) pe_int) pa_nil)) rfl))))), ?_⟩
    refine ⟨_, rfl, p, dx, _, rfl, S.hd2, rfl, p, dx, cs, R, G, (d, .dK kvs) :: M, rfl, S.swap, hl, fun l R1 c1 e1 e2 n G1 H1 S1 g1 en => ?ok, fun e1 n G1 H1 S1 g1 => ?bad⟩
    case bad =>
      rw [e1] at q2
      exact q2 rfl n kvs G1 H1 S1.swap g1
    subst en
    rw [e1] at q1 q2
    simp only at q1 q2
    have S1 := S1.swap
    refine ⟨_, rfl, _, rfl, d, _, rfl, DGet.k (k := .inr (TX l)) S1.hd, _, rfl, ?_⟩
    rw [keys_val hks]
    refine ite2 (fun c => ?_) (fun c => ?_)
    · rw [if_pos (of_decide_eq_true c)] at q2
      exact q2 rfl _ kvs _ _ S1 g1
    have hm : ¬ l ∈ ks := fun z => c (decide_eq_true z)
    rw [if_neg hm] at q1 q2
    have hl1 : (c1 ++ R1).length ≤ 1000000 := by rw [← e2]; exact hl
    have a1 : At C H1 p dx c1 R1 := ⟨by rw [← e2]; exact S1.hd2, hl1⟩
    by_cases h58 : R1.head? = some 58
    case neg =>
      rw [if_neg h58] at q2
      refine ⟨_, rfl, p, dx, _, rfl, a1.h, rfl, p, dx, _, _, [58], rfl, a1, by decide, fun e => absurd e (tk1n h58), fun _ => ?_⟩
      exact q2 rfl _ kvs _ _ S1 g1
    rw [if_pos h58] at q1 q2
    obtain ⟨R2, rfl⟩ : ∃ R2, R1 = 58 :: R2 := ⟨_, head_of h58⟩
    simp only [List.tail_cons] at q1 q2
    refine ⟨_, rfl, p, dx, _, rfl, a1.h, rfl, p, dx, _, _, [58], rfl, a1, by decide, fun _ => ?_, fun e => absurd (tk1 h58) e⟩
    have S2 := S1.put2 (u := RD C dx (cs ++ R) (c1.length + 1))
    have e3 : RD C dx (c1 ++ 58 :: R2) (c1.length + [58].length) = RD C dx (cs ++ R) (c1.length + 1) := by rw [e2]; rfl
    rw [e3]
    have e4 : cs ++ R = (c1 ++ [58]) ++ R2 := by rw [e2]; simp
    have S2' : Sb G1 (upd H1 p (RD C dx (cs ++ R) (c1.length + 1))) ((p, RD C dx ((c1 ++ [58]) ++ R2) (c1 ++ [58]).length) :: (d, .dK kvs) :: M) := by
      rw [← e4, List.length_append]
      exact S2.swap
    refine ⟨_, rfl, p, dx, _, rfl, upd_same, rfl, _, rfl, _, _, rfl, rfl, p, dx, lv + 1, c1 ++ [58], R2, G1, (d, .dK kvs) :: M, rfl, by omega, S2', by rw [← e4]; exact hl, fun j R3 c3 f1 f2 v G7 H7 S7 g7 dv => ?ok2, fun f1 n7 G7 H7 S7 g7 => ?bad2⟩
    case bad2 =>
      rw [← e4] at S7
      rw [f1] at q2
      exact q2 rfl n7 kvs G7 H7 S7.swap (Same.trans g1 g7)
    rw [← e4] at S7 f2
    have S7 := S7.swap
    have nv : valV kvs (.inr (TX l)) = none := by
      have := keys_val hks l
      rw [decide_eq_false hm] at this
      cases e : valV kvs (.inr (TX l)) with
      | none => rfl
      | some u => rw [e] at this; exact nomatch this
    have cl : cs.length ≤ 1000000 := by rw [List.length_append] at hl; omega
    refine ⟨_, rfl, _, rfl, d, _, rfl, DPut.k (k := .inr (TX l)) S7.hd (by omega), ?_⟩
    rw [putK_nw nv]
    exact q1 l j R3 c3 (by rw [f1]; rfl) f2 v G7 _ S7.put (Same.trans g1 g7) dv
theorem sc_CallReader_take_record : FnScope ["self", "level", "record"] ["self", "level"] (defScope s_CallReader_take_record) := ⟨rfl, rfl, rfl, by decide +kernel, rfl, by decide +kernel, by decide +kernel⟩
theorem fld_suf {f : Nat} {ks : List (List Nat)} {R R' : List Nat} {k : List Nat} {j : Jv} (h : fld (pV f) ks R = some ((k, j), R')) : ∃ m, R = m ++ R' ∧ 4 ≤ m.length := by
  obtain ⟨e, _, _, _⟩ := fld_back (pV_back f) h
  obtain ⟨c, r, hc, _⟩ := wr_head j
  refine ⟨fldT k (wr j), e, ?_⟩
  simp only [fldT, qT, hc, List.length_append, List.length_cons, List.length_nil]
  omega
theorem tr_S (T : Txt K w mg C) {f k : Nat} (hk : 2 ≤ k) (Xtake_field : MetX P w K mg base k C.CallReader "take_field" (spF C f)) : MetX P w K mg base (k + 1) C.CallReader "take_record" (spR C f) := by
  have Mhas := ok_has (P := P) (base := base) T
  have Xneed := ok_need (P := P) (base := base) T
  refine metX_of T.m_CallReader_take_record T.cl_CallReader sc_CallReader_take_record (fun vs H Q E h => ?_) (fun f' cdv A outer s H vs Q E hr h => ?_)
  · obtain ⟨p, dx, lv, cs, R, G, M, rfl, _⟩ := h
    rfl
  · obtain ⟨p, dx, lv, cs, R, G, M, rfl, hlv, S, hl, hh, q1, q2⟩ := h
    have big : 10000000 < sizeLine := by decide
    obtain ⟨R0, rfl⟩ : ∃ R0, R = 123 :: R0 := ⟨_, head_of hh⟩
    have a : At C H p dx cs (123 :: R0) := ⟨S.hd, hl⟩
    refine ⟨_, (pss_cons (ps_expr (pe_mtX thruX Xneed hr (by omega) (pv 0) (pa_cons pe_str pa_nil))) (pss_cons (ps_set (i := 2) sc_CallReader_take_record.nd rfl (Or.inl rfl) pe_dnewK) (pss_cons (ps_if (pt_val (pe_mt Mhas hr (by omega) (pv 0) (pa_cons pe_str pa_nil))) (pss_one (ps_ret (pv 2))) pss_nil) (pss_cons (ps_expr (pe_mtX thruX Xtake_field hr (by omega) (pv 0) (pa_cons (pv 2) (pa_cons (pv 1) pa_nil)))) (pss_cons (ps_while (passes_of rfl) (pt_val (pe_mt Mhas hr (by omega) (pv 0) (pa_cons pe_str pa_nil))) (pss_one (ps_expr (pe_mtX thruX Xtake_field hr (by omega) (pv 0) (pa_cons (pv 2) (pa_cons (pv 1) pa_nil)))))) (pss_cons (ps_expr (pe_mtX thruX Xneed hr (by omega) (pv 0) (pa_cons pe_str pa_nil))) (pss_one (ps_ret (pv 2))))))))), ?_⟩
    refine ⟨_, rfl, p, dx, _, rfl, a.h, rfl, p, dx, cs, _, [123], rfl, a, by decide, fun _ => ?_, fun e => absurd rfl e⟩
    have S1 := S.put (u := RD C dx (cs ++ 123 :: R0) (cs.length + 1))
    refine fun D hD => ?_
    have S2 := S1.add (o := .dK []) hD
    have e0 : cs ++ 123 :: R0 = (cs ++ [123]) ++ R0 := by simp
    simp only [List.tail_cons] at q1 q2
    have pst : ∀ (c1 R1 : List Nat) (H1 G1 : Hp) (ds : List (Key × V)), cs ++ 123 :: R0 = c1 ++ R1 → Sb G1 H1 ((D, .dK ds) :: (p, RD C dx (cs ++ 123 :: R0) c1.length) :: M) → At C H1 p dx c1 R1 := fun c1 R1 H1 G1 ds e S => ⟨by rw [← e]; exact S.hd2, by rw [← e]; exact hl⟩
    have a2 := pst (cs ++ [123]) R0 _ G [] e0 (by rw [List.length_append]; exact S2)
    have fail : pRec (pV f) R0 = none → ∀ (n : Nat) (G2 H2 : Hp) (ds : List (Key × V)), Sb G2 H2 ((D, .dK ds) :: (p, RD C dx (cs ++ 123 :: R0) n) :: M) → Same G G2 → E (.ref C.InvalidCall) none H2 := fun e n G2 H2 ds S4 g4 => by
      obtain ⟨S5, g5⟩ := S4.drop
      exact q2 e n _ H2 S5 (Same.trans g4 g5)
    have fin : ∀ (ks : List (List Nat)) (vs : List Jv) (c1 R1 : List Nat) (G2 H2 : Hp) (ds : List (Key × V)), ks.Nodup → pRec (pV f) R0 = some (.re ks vs, R1) → cs ++ 123 :: R0 = c1 ++ R1 → Sb G2 H2 ((D, .dK ds) :: (p, RD C dx (cs ++ 123 :: R0) c1.length) :: M) → Same G G2 → keysAre ds ks → DqAll G2 (ds.map (·.2)) (encJs vs) → Q (.ref D) H2 := fun ks vs c1 R1 G2 H2 ds nd e1 e2 S4 g4 hk dq => by
      obtain ⟨S5, g5⟩ := S4.drop
      refine q1 (.re ks vs) R1 c1 e1 e2 (.ref D) _ H2 S5 (Same.trans g4 g5) (rec_to (tks := ds) ⟨upd_same, ?_, hk, dq.same g5⟩)
      rw [hk]
      have key : ∀ l : List (List Nat), l.Nodup → (l.map fun k => (Sum.inr (TX k) : Key)).Nodup := by
        intro l
        induction l with
        | nil => intro _; exact List.nodup_nil
        | cons x l ih =>
          intro h
          rw [List.nodup_cons] at h
          rw [List.map_cons, List.nodup_cons]
          refine ⟨fun z => ?_, ih h.2⟩
          obtain ⟨y, hy, e⟩ := List.mem_map.mp z
          exact h.1 (by rw [← TX_inj (Sum.inr.inj e)]; exact hy)
      exact key ks nd
    by_cases h93 : R0.head? = some 125
    · refine ⟨_, rfl, p, dx, _, rfl, a2.h, rfl, p, dx, _, _, [125], rfl, a2, by decide, fun _ => ⟨_, rfl, iteT ?_⟩, fun e => absurd (tk1 h93) e⟩
      have S3 := S2.put2 (u := RD C dx (cs ++ 123 :: R0) ((cs ++ [123]).length + [125].length))
      rw [← e0]
      refine ⟨_, rfl, fin [] [] (cs ++ [123, 125]) R0.tail G _ [] List.nodup_nil (by unfold pRec; rw [if_pos h93]) ?_ (by simp only [List.length_append, List.length_cons, List.length_nil] at S3 ⊢; exact S3) (Same.refl _) rfl (by simp only [encJs]; exact .nil)⟩
      rw [head_of h93]
      simp
    refine ⟨_, rfl, p, dx, _, rfl, a2.h, rfl, p, dx, _, _, [125], rfl, a2, by decide, fun e => absurd e (tk1n h93), fun _ => ⟨_, rfl, iteF ?_⟩⟩
    have S2' : Sb G (upd (upd H p (RD C dx (cs ++ 123 :: R0) (cs.length + 1))) D (.dK [])) ((D, .dK []) :: (p, RD C dx ((cs ++ [123]) ++ R0) (cs ++ [123]).length) :: M) := by
      rw [← e0, List.length_append]
      exact S2
    have hl' : ((cs ++ [123]) ++ R0).length ≤ 1000000 := by rw [← e0]; exact hl
    refine ⟨_, rfl, p, dx, _, rfl, a2.h, rfl, _, rfl, _, rfl, p, dx, D, lv, cs ++ [123], R0, [], [], G, M, rfl, hlv, S2', hl', rfl, Nat.zero_le _, fun k1 j R' cs' e1 e2 v G' H' S3 g3 dv => ?ok, fun e1 n kvs' G' H' S3 g3 => ?bad⟩
    case bad =>
      rw [← e0] at S3
      exact fail (by unfold pRec; rw [if_neg h93, e1]) n G' H' kvs' S3 g3
    rw [← e0] at S3 e2
    have hpl : pRec (pV f) R0 = match moreF (pV f) R'.length [k1] R' with | none => none | some (fs, R2) => if R2.head? = some 125 then some (.re (((k1, j) :: fs).map (·.1)) (((k1, j) :: fs).map (·.2)), R2.tail) else none := by unfold pRec; rw [if_neg h93, e1] <;> rfl
    refine ⟨fun m σ H' => ∃ (n : Nat) (c1 R1 : List Nat) (w : List (List Nat × Jv)) (ds : List (Key × V)) (G1 : Hp), m = R1.length ∧ R1.length ≤ n ∧ cs ++ 123 :: R0 = c1 ++ R1 ∧ moreF (pV f) R'.length [k1] R' = (moreF (pV f) n (k1 :: w.map (·.1)) R1).map (fun q => (w ++ q.1, q.2)) ∧ ds.length ≤ c1.length ∧ Sb G1 H' ((D, .dK ds) :: (p, RD C dx (cs ++ 123 :: R0) c1.length) :: M) ∧ Same G G1 ∧ keysAre ds (k1 :: w.map (·.1)) ∧ (k1 :: w.map (·.1)).Nodup ∧ DqAll G1 (ds.map (·.2)) (encJs (j :: w.map (·.2))) ∧ σ = [some (.ref p), some (.int lv), some (.ref D)],
      ⟨_, R'.length, cs', R', [], _, G', rfl, Nat.le_refl _, e2, (show _ = (moreF (pV f) R'.length [k1] R').map (fun q => ([] ++ q.1, q.2)) from by generalize moreF (pV f) R'.length [k1] R' = z; cases z <;> simp), ?_, S3, g3, rfl, by simp, by simp only [List.map_nil, encJs]; exact .cons dv .nil, rfl⟩, ?_⟩
    · obtain ⟨m, hm, hm1⟩ := fld_suf e1
      have := congrArg List.length e2
      rw [e0, hm] at this
      simp only [List.length_append, List.length_cons, List.length_nil] at this ⊢
      omega
    rintro m σ H1 ⟨n, c1, R1, w', ds, G1, rfl, hn, e3, hm, hds, S5, g5, hks, nd, dq, rfl⟩
    have a5 := pst c1 R1 H1 G1 ds e3 S5
    by_cases h44 : R1.head? = some 44
    · obtain ⟨R2, rfl⟩ : ∃ R2, R1 = 44 :: R2 := ⟨_, head_of h44⟩
      refine ⟨_, rfl, p, dx, _, rfl, a5.h, rfl, p, dx, _, _, [44], rfl, a5, by decide, fun _ => ⟨_, rfl, iteT ?_⟩, fun e => absurd rfl e⟩
      refine ⟨fun σ' H' => ∃ m', m' < (44 :: R2).length ∧ ∃ (n : Nat) (c1 R1 : List Nat) (w : List (List Nat × Jv)) (ds : List (Key × V)) (G1 : Hp), m' = R1.length ∧ R1.length ≤ n ∧ cs ++ 123 :: R0 = c1 ++ R1 ∧ moreF (pV f) R'.length [k1] R' = (moreF (pV f) n (k1 :: w.map (·.1)) R1).map (fun q => (w ++ q.1, q.2)) ∧ ds.length ≤ c1.length ∧ Sb G1 H' ((D, .dK ds) :: (p, RD C dx (cs ++ 123 :: R0) c1.length) :: M) ∧ Same G G1 ∧ keysAre ds (k1 :: w.map (·.1)) ∧ (k1 :: w.map (·.1)).Nodup ∧ DqAll G1 (ds.map (·.2)) (encJs (j :: w.map (·.2))) ∧ σ' = [some (.ref p), some (.int lv), some (.ref D)], fun σ' H' z => z, ?_⟩
      have S6 := S5.put2 (u := RD C dx (cs ++ 123 :: R0) (c1.length + 1))
      have e4 : cs ++ 123 :: R0 = (c1 ++ [44]) ++ R2 := by rw [e3]; simp
      have e5 : RD C dx (c1 ++ 44 :: R2) (c1.length + [44].length) = RD C dx (cs ++ 123 :: R0) (c1.length + 1) := by rw [e3]; rfl
      rw [e5]
      have S6' : Sb G1 (upd H1 p (RD C dx (cs ++ 123 :: R0) (c1.length + 1))) ((D, .dK ds) :: (p, RD C dx ((c1 ++ [44]) ++ R2) (c1 ++ [44]).length) :: M) := by
        rw [← e4, List.length_append]
        exact S6
      obtain ⟨n', rfl⟩ : ∃ n', n = n' + 1 := ⟨n - 1, by simp at hn; omega⟩
      have hm2 : moreF (pV f) (n' + 1) (k1 :: w'.map (·.1)) (44 :: R2) = match fld (pV f) (k1 :: w'.map (·.1)) R2 with | none => none | some (g, R') => (moreF (pV f) n' ((k1 :: w'.map (·.1)) ++ [g.1]) R').map fun q => (g :: q.1, q.2) := by
        simp only [moreF, List.head?_cons, if_true, List.tail_cons] <;> rfl
      refine ⟨_, rfl, p, dx, _, rfl, upd_same, rfl, _, rfl, _, rfl, p, dx, D, lv, c1 ++ [44], R2, k1 :: w'.map (·.1), ds, G1, M, rfl, hlv, S6', by rw [← e4]; exact hl, hks, by rw [List.length_append]; omega, fun k2 j2 R3 c3 f1 f2 v2 G7 H7 S7 g7 dv2 => ?ok2, fun f1 n7 kvs' G7 H7 S7 g7 => ?bad2⟩
      case bad2 =>
        rw [← e4] at S7
        refine fail ?_ n7 G7 H7 kvs' S7 (Same.trans g5 g7)
        rw [hpl, hm, hm2, f1]
        rfl
      rw [← e4] at S7 f2
      obtain ⟨m3, hm3, hm4⟩ := fld_suf f1
      obtain ⟨_, k2n, _, _⟩ := fld_back (pV_back f) f1
      have cl : c3.length = c1.length + 1 + m3.length := by
        have := congrArg List.length f2
        rw [e4, hm3] at this
        simp only [List.length_append, List.length_cons, List.length_nil] at this
        omega
      refine ⟨R3.length, by rw [hm3]; simp only [List.length_cons, List.length_append]; omega, n', c3, R3, w' ++ [(k2, j2)], _, G7, rfl, ?_, f2, ?_, by rw [List.length_append, List.length_singleton]; omega, S7, Same.trans g5 g7, ?_, ?_, ?_, rfl⟩
      · rw [hm3] at hn
        simp only [List.length_cons, List.length_append] at hn
        omega
      · rw [hm, hm2, f1]
        simp only [List.map_append, List.map_cons, List.map_nil]
        have : k1 :: (w'.map (·.1) ++ [k2]) = (k1 :: w'.map (·.1)) ++ [k2] := by simp
        rw [this]
        cases moreF (pV f) n' ((k1 :: w'.map (·.1)) ++ [k2]) R3 <;> simp
      · unfold keysAre at hks ⊢
        rw [List.map_append, hks]
        simp
      · simp only [List.map_append, List.map_cons, List.map_nil]
        rw [← List.cons_append, List.nodup_append]
        refine ⟨nd, by simp, fun x hx y hy => ?_⟩
        rw [List.mem_singleton] at hy
        subst hy
        exact fun z => k2n (z ▸ hx)
      · have : encJs (j :: (w' ++ [(k2, j2)]).map (·.2)) = encJs (j :: w'.map (·.2)) ++ [encJ j2] := by simp [encJs, encJs_app]
        rw [this, List.map_append]
        exact dqAll_ap (dq.same g7) (.cons dv2 .nil)
    · have hm0 : moreF (pV f) n (k1 :: w'.map (·.1)) R1 = some ([], R1) := by
        cases n with
        | zero => rfl
        | succ n => simp only [moreF]; rw [if_neg h44]
      rw [hm0] at hm
      rw [hm] at hpl
      simp only [Option.map_some, List.append_nil] at hpl
      refine ⟨_, rfl, p, dx, _, rfl, a5.h, rfl, p, dx, _, _, [44], rfl, a5, by decide, fun e => absurd e (tk1n h44), fun _ => ⟨_, rfl, iteF ?_⟩⟩
      by_cases hx : R1.head? = some 125
      · rw [if_pos hx] at hpl
        refine ⟨_, rfl, p, dx, _, rfl, a5.h, rfl, p, dx, _, _, [125], rfl, a5, by decide, fun _ => ?_, fun e => absurd (tk1 hx) e⟩
        have S6 := S5.put2 (u := RD C dx (cs ++ 123 :: R0) (c1.length + [125].length))
        rw [← e3]
        refine ⟨_, rfl, fin _ _ (c1 ++ [125]) R1.tail G1 _ ds nd hpl ?_ (by rw [List.length_append]; exact S6) g5 hks dq⟩
        rw [e3, List.append_assoc]
        exact congrArg (c1 ++ ·) (head_of hx)
      · rw [if_neg hx] at hpl
        refine ⟨_, rfl, p, dx, _, rfl, a5.h, rfl, p, dx, _, _, [125], rfl, a5, by decide, fun e => absurd e (tk1n hx), fun _ => ?_⟩
        exact fail hpl _ _ _ _ S5 g5
/-- more room -/
theorem up {k j : Nat} {c : Addr} {m : Str} {sp : Sp} (h : MetX P w K mg base k c m sp) (hk : k ≤ j) : MetX P w K mg base j c m sp := by
  obtain ⟨f, fd, ps, a, b, F, d⟩ := h.ex
  exact ⟨f, fd, ps, a, b, F.mono hk, d⟩
/-- every level -/
theorem tv_N (T : Txt K w mg C) : ∀ f : Nat, MetX P w K mg base (3 * f + 4) C.CallReader "take_value" (spV C f)
  | 0 => tv_0 T
  | f + 1 => by
    have h := tv_N T f
    have hl := tl_S T (k := 3 * f + 5) (by omega) (up h (by omega))
    have hf := tf_S T (k := 3 * f + 4) (by omega) h
    have hr := tr_S T (k := 3 * f + 5) (by omega) hf
    exact tv_S T (k := 3 * f + 6) (by omega) hl hr
end
end VL

set_option Elab.async false
set_option linter.all false
set_option pp.maxSteps 700
set_option maxRecDepth 100000
set_option maxHeartbeats 4000000
namespace VL
open PySem PySem.Spec PyProof.Rows L2
def spRC : Sp := fun vs H Q _ => ∃ (R : List Nat) (G : Hp) (M : List (Addr × HO)), vs = [.str (TX R)] ∧ Sb G H M ∧ R.length ≤ 1000000 ∧
  (∀ n js, readC R = some (n, js) → ∀ (t a : Addr) (G' H' : Hp), Sb G' H' M → Same G G' → G' t = some (.tup [.str (TX n), .ref a]) → Dq G' (.ref a) (.list (encJs js)) → Q (.ref t) H') ∧ (readC R = none → ∀ G' H', Sb G' H' M → Same G G' → Q .non H')
theorem atI_hd (x : V) (xs : List V) : atI (x :: xs) 0 = some x := by
  unfold atI ixN
  rw [if_pos (by decide), if_pos (by simp only [List.length_cons]; omega)]
  rfl
theorem cutV_1 (x : V) (xs : List V) : cutV (x :: xs) (some 1) none = xs := by
  unfold cutV
  have h1 : HT.sIx (x :: xs).length 0 (some 1) = 1 := by
    have := HT.sIx_nat (n := (x :: xs).length) (d := 0) (k := 1)
    rw [show ((1 : Nat) : Int) = 1 from rfl] at this
    rw [this]
    simp only [List.length_cons]
    omega
  have h2 : HT.sIx (x :: xs).length (x :: xs).length none = (x :: xs).length := rfl
  rw [h1, h2, List.length_cons]
  simp
section
variable {P : Program} {w : World} {K : PySem.W.Frag} {mg : Str → Option Value} {base : Heap} {C : Ad}
theorem sc_read_call : FnScope ["text", "reader", "parts"] ["text"] (defScope s_read_call) := ⟨rfl, rfl, rfl, by decide +kernel, rfl, by decide +kernel, by decide +kernel⟩
theorem ok_rc (T : Txt K w mg C) : Cal P w K mg base 68 "read_call" spRC := by
  have KCallReader := ok_init (P := P) (base := base) T
  have Xtake_value := tv_N (P := P) (base := base) T 21
  have Gis_text := ok_is_text (P := P) (base := base) T
  have Gis_list := ok_is_list (P := P) (base := base) T
  refine cal_of T.d_read_call sc_read_call (fun vs H Q E h => ?_) (fun f cdv A outer s H vs Q E hr h => ?_)
  · obtain ⟨R, G, M, rfl, _⟩ := h
    rfl
  · obtain ⟨R, G, M, rfl, S, hl, q1, q2⟩ := h
    have big : 10000000 < sizeLine := by decide
    refine ⟨_, (pss_cons (ps_set (i := 1) sc_read_call.nd rfl (Or.inl rfl) (pe_mk KCallReader hr (by decide) (by rfl) (pa_cons (pv 0) pa_nil))) (pss_cons (ps_try_only rfl rfl ⟨rfl, by decide, .inl T.x_InvalidCall.g⟩ takes0 (fun W pn xe tk _ => (pss_one (ps_set (i := 2) sc_read_call.nd rfl (Or.inl rfl) (pe_mtXS Xtake_value hr (by decide) (fun σ => passAt tk σ) (pv 1) (pa_cons pe_int pa_nil))))) (fun a oe cls d pn hz hf => (pss_one (ps_ret pe_non)))) (pss_cons (ps_if (PW.pt (pw_or (pt_cmpR op_lt (pe_fld (pv 1) rfl) (pe_callB call_len_str (by rfl) T.z_len PySem.boot_len (pa_cons (pv 0) pa_nil)) (nomark _)) (pw_or (pt_not (pt_val (pe_c Gis_list hr (by decide) (by rfl) (pa_cons (pv 2) pa_nil)))) (pw_or1 (pt_not (pt_truth (pv 2) (fun _ => rfl))))))) (pss_one (ps_ret pe_non)) pss_nil) (pss_cons (ps_if (PW.pt (pw_or (pt_not (pt_val (pe_c Gis_text hr (by decide) (by rfl) (pa_cons (pe_ix ix_list (pv 2) pe_int (fun _ _ => rfl)) pa_nil)))) (pw_or1 (pt_cmpR op_eq (pe_ix ix_list (pv 2) pe_int (fun _ _ => rfl)) pe_str (nomark _))))) (pss_one (ps_ret pe_non)) pss_nil) (pss_one (ps_ret (pe_tup (pa_cons (pe_ix ix_list (pv 2) pe_int (fun _ _ => rfl)) (pa_cons (pe_slice sl_list (pv 2) (po_some pe_int) po_none) pa_nil))))))))), ?_⟩
    refine ⟨_, rfl, fun x dx hx hdx ne => ⟨x, dx, R, rfl, upd_same, rfl, ?_⟩⟩
    have SA := S.alloc (o := .own x) hdx
    have S0 := SA.add (t := x) (o := .ins C.CallReader dx []) (by rw [upd_ne (Ne.symm ne)]; exact hx)
    have S1 := S0.put (u := RD C dx R 0)
    have s0 : Same G (upd G dx (.own x)) := S.grow hdx
    generalize upd G dx (.own x) = G0 at S0 S1 s0 ⊢
    refine ⟨_, rfl, x, dx, _, rfl, S1.hd, rfl, x, dx, 0, [], R, G0, M, rfl, by decide, S1, by simpa using hl, fun j R' cs' e1 e2 v G' H' S' g' dv => ?ok, fun e1 n G' H' S' g' => ?bad⟩
    case bad =>
      refine ⟨true, T.x_InvalidCall.em, fun _ a' ha => ?_, fun q => nomatch q⟩
      obtain ⟨S2, g2⟩ := S'.drop
      exact q2 (by unfold readC; rw [e1]) _ _ S2 (Same.trans s0 (Same.trans g' g2))
    have e2 : R = cs' ++ R' := e2
    obtain ⟨S2, g2⟩ := S'.drop
    have s1 := Same.trans s0 (Same.trans g' g2)
    have dvF := dv.same g2
    have dv1 := dvF.same S2.s
    generalize upd G' x _ = G2 at S2 g2 s1 dvF
    have hno : (∀ n js, j ≠ .li (.tx n :: js)) → Q .non H' := fun h => q2 (by
      unfold readC
      rw [e1]
      split
      · rename_i n vs hq
        simp only [Option.some.injEq, Prod.mk.injEq] at hq
        exact absurd hq.1 (h n vs)
      · rfl) _ _ S2 s1
    refine ⟨_, rfl, x, _, dx, _, _, rfl, S'.hd, T.cl_CallReader, T.n_CallReader_at, fs_CallReader_at, _, rfl, _, rfl, by rw [TX_len]; omega, _, _, rfl, rfl, _, rfl, ite2 (fun c => iteT ?_) (fun c => ?_)⟩
    · have c' := of_decide_eq_true c
      refine q2 ?_ _ _ S2 s1
      have hR : R' ≠ [] := fun z => by
        subst z
        rw [TX_len, e2] at c'
        simp at c'
      unfold readC
      rw [e1]
      split
      · rename_i n vs hq
        simp only [Option.some.injEq, Prod.mk.injEq] at hq
        exact absurd hq.2 hR
      · rfl
    have hR : R' = [] := by
      have c' : ¬ ((cs'.length : Int) < ((TX R).length : Int)) := fun z => c (decide_eq_true z)
      rw [TX_len, e2, List.length_append] at c'
      exact List.length_eq_zero_iff.mp (by omega)
    subst hR
    refine ⟨_, rfl, v, j, rfl, dv1, _, rfl, ?_⟩
    cases j with
    | nul => exact iteT (iteT (hno fun _ _ h => nomatch h))
    | bo b => exact iteT (iteT (hno fun _ _ h => nomatch h))
    | nu i => exact iteT (iteT (hno fun _ _ h => nomatch h))
    | tx l => exact iteT (iteT (hno fun _ _ h => nomatch h))
    | re ks vs => exact iteT (iteT (hno fun _ _ h => nomatch h))
    | li vs =>
      refine iteF ?_
      simp only [encJ] at dv1
      simp only [encJ] at dvF
      obtain ⟨a, xs, rfl, haF, da⟩ := dq_list dvF
      have ha := S2.s _ _ haF
      cases vs with
      | nil =>
        have xs0 : xs = [] := by
          have := da.len
          simp only [encJs, List.length_nil] at this
          exact List.length_eq_zero_iff.mp this
        subst xs0
        refine ⟨_, rfl, false, .inl ⟨[], SqL.of ha, rfl⟩, iteT ?_⟩
        exact hno fun _ _ h => by simp at h
      | cons j0 js =>
        simp only [encJs] at da
        cases da with
        | @cons v0 xs' _ _ d0 dr =>
          refine ⟨_, rfl, true, .inl ⟨_, SqL.of ha, rfl⟩, iteF ?_⟩
          have at0 := atI_hd v0 xs'
          refine ⟨_, rfl, a, _, _, _, rfl, rfl, SqL.of ha, at0, v0, j0, rfl, d0.same S2.s, _, rfl, ?_⟩
          have hno2 : (∀ n, j0 ≠ .tx n) → Q .non H' := fun h => hno fun n js e => by
            simp only [Jv.li.injEq, List.cons.injEq] at e
            exact h n e.1
          cases j0 with
          | nul => exact iteT (iteT (hno2 fun _ h => nomatch h))
          | bo b => exact iteT (iteT (hno2 fun _ h => nomatch h))
          | nu i => exact iteT (iteT (hno2 fun _ h => nomatch h))
          | li vs => exact iteT (iteT (hno2 fun _ h => nomatch h))
          | re ks vs => exact iteT (iteT (hno2 fun _ h => nomatch h))
          | tx n =>
            refine iteF ?_
            simp only [encJ] at d0
            have ev := dq_strJ d0
            subst ev
            refine ⟨_, rfl, a, _, _, _, rfl, rfl, SqL.of ha, at0, rfl, _, rfl, ?_⟩
            rw [k_00, vstr_TX]
            refine ite2 (fun c => ?_) (fun c => ?_)
            · have n0 : n = [] := of_decide_eq_true c
              refine q2 ?_ _ _ S2 s1
              unfold readC
              rw [e1]
              simp [n0]
            · have n0 : n ≠ [] := fun z => c (decide_eq_true z)
              refine ⟨_, rfl, a, _, _, _, rfl, rfl, SqL.of ha, at0, _, rfl, _, rfl, a, _, rfl, SqL.of ha, fun b hb => ⟨by show 2 ≤ sizeLine; decide, fun t ht => ?_⟩⟩
              have ec : cutV (V.str (TX n) :: xs') (some 1) none = xs' := cutV_1 _ _
              rw [ec] at ht ⊢
              have S3 := S2.alloc (o := .lst xs') hb
              have S4 := S3.alloc (o := .tup [.str (TX n), .ref b]) ht
              have sb := S2.grow (o := .lst xs') hb
              have st := S3.grow (o := .tup [.str (TX n), .ref b]) ht
              refine q1 n js ?_ t b _ _ S4 (Same.trans s1 (Same.trans sb st)) upd_same (.lst (st _ _ upd_same) (dr.same (Same.trans sb st)))
              unfold readC
              rw [e1]
              simp [n0]
end
end VL

set_option Elab.async false
set_option linter.all false
set_option pp.maxSteps 700
set_option maxRecDepth 100000
set_option maxHeartbeats 4000000
namespace VL
open PySem PySem.Spec PyProof.Rows L2
def spRows (K : PySem.W.Frag) : Sp := fun vs H Q _ => ∃ (s : Addr) (ns : List Int) (m : Nat), vs = [.ref s, .int m] ∧ SqL K H s (ns.map V.int) ∧ ns.length ≤ 63 ∧ m ≤ 100 ∧ ∀ r (zs : List Int) H', Same H H' → H r = none → H' r = some (.lst (zs.map V.int)) → zs.length = m → Q (.ref r) H'
theorem map_int_atR {ns : List Int} {j : Int} (h0 : 0 ≤ j) (h1 : j < (ns.length : Int)) : ∃ z, atI (ns.map V.int) j = some (.int z) := by
  have hj : j.toNat < ns.length := by omega
  refine ⟨ns[j.toNat], ?_⟩
  unfold atI ixN
  rw [if_pos h0, if_pos (by rw [List.length_map]; exact h1)]
  show (ns.map V.int)[j.toNat]? = _
  rw [List.getElem?_map, List.getElem?_eq_getElem hj]
  rfl
section
variable {P : Program} {w : World} {K : PySem.W.Frag} {mg : Str → Option Value} {base : Heap} {C : Ad}
theorem sc__law_rows : FnScope ["script", "count", "rows", "k", "cell"] ["script", "count"] (defScope s__law_rows) := ⟨rfl, rfl, rfl, by decide +kernel, rfl, by decide +kernel, by decide +kernel⟩
theorem ok_rows (T : Txt K w mg C) : Cal P w K mg base 1 "_law_rows" (spRows K) := by
  refine cal_of T.d__law_rows sc__law_rows (fun vs H Q E h => ?_) (fun f cdv A outer s H vs Q E hr h => ?_)
  · obtain ⟨a, ns, m, rfl, _⟩ := h
    rfl
  · obtain ⟨a, ns, m, rfl, ha, hn, hm, k⟩ := h
    have hu := hu_of hr
    have big : 100000 < sizeLine := by decide
    refine ⟨_, (pss_cons (ps_set (i := 2) sc__law_rows.nd rfl (Or.inl rfl) (pe_lst pa_nil)) (pss_cons (ps_for PassesOwn.never rfl (pi_range1 (by rfl) T.z_range (pa_cons (pv 1) pa_nil)) (pg_name (i := 3) sc__law_rows.nd rfl (Or.inl rfl)) (pss_cons (ps_set (i := 4) sc__law_rows.nd rfl (Or.inl rfl) pe_int) (C8.pss_cut (ps_if (pt_cmpR op_gt (pe_callB call_len_seq (by rfl) T.z_len PySem.boot_len (pa_cons (pv 0) pa_nil)) pe_int (nomark _)) (pss_one (ps_set (i := 4) sc__law_rows.nd rfl (Or.inl rfl) (pe_callTy call_int1 (by rfl) T.z_int (by decide +kernel) (pa_cons (pe_ix ix_list (pv 0) (pe_op op_mod (pe_callTy call_int1 (by rfl) T.z_int (by decide +kernel) (pa_cons (pv 3) pa_nil)) (pe_callB call_len_seq (by rfl) T.z_len PySem.boot_len (pa_cons (pv 0) pa_nil))) (fun _ _ => rfl)) pa_nil)))) pss_nil) (C8.pss_cut (ps_if (pt_cmpR op_lt (pv 4) pe_int (nomark _)) (pss_one (ps_set (i := 4) sc__law_rows.nd rfl (Or.inl rfl) (pe_op op_sub pe_int (pe_op op_mul pe_int (pv 4))))) pss_nil) (C8.pss_cut (ps_if (PW.pt (pw_or (pt_cmpR op_ge (pv 3) (pe_callB call_len_seq (by rfl) T.z_len PySem.boot_len (pa_cons (pv 0) pa_nil)) (nomark _)) (pw_or1 (pt_cmpR op_lt (pv 4) pe_int (nomark _))))) (pss_cons (ps_set (i := 4) sc__law_rows.nd rfl (Or.inl rfl) (pe_op op_mod (pe_callTy call_int1 (by rfl) T.z_int (by decide +kernel) (pa_cons (pe_op op_add (pe_op op_mul (pe_op op_add (pe_op op_add (pv 4) (pe_op op_mul pe_int (pv 3))) pe_int) pe_int) (pe_op op_mul (pe_op op_mul (pv 3) (pv 3)) pe_int)) pa_nil)) pe_int)) (pss_one (ps_set (i := 4) sc__law_rows.nd rfl (Or.inl rfl) (pe_op op_mod (pe_callTy call_int1 (by rfl) T.z_int (by decide +kernel) (pa_cons (pe_op op_mul (pe_op op_add (pe_op op_add (pv 4) (pe_op op_mul pe_int (pv 3))) pe_int) pe_int) pa_nil)) pe_int)))) pss_nil) (pss_one (ps_expr (pe_bm PySem.F.plainAttrs_list PySem.F.slot_list_append PySem.F.type_list_append mt_append (pv 2) (pa_cons (pv 4) pa_nil))))))))) (pss_one (ps_ret (pv 2))))), ?_⟩
    refine ⟨by show 0 ≤ sizeLine; decide, fun r hr0 => ?_⟩
    refine ⟨_, rfl, _, rfl, by omega, by omega, ?_⟩
    refine for_range (lo := 0) (n := ((m : Nat) : Int).toNat) (fun i σ H' => ∃ (zs : List Int) (y1 y2 : Option V), Same H H' ∧ H' r = some (.lst (zs.map V.int)) ∧ zs.length = i ∧ σ = [some (.ref a), some (.int m), some (.ref r), y1, y2]) ⟨[], none, none, Sm.new hr0, upd_same, rfl, rfl⟩ ?_ ?_
    · rintro i σ H1 hi ⟨zs, y1, y2, s1, h1, zl, rfl⟩
      have hi' : i < m := by omega
      have ha1 := Same.seq s1 ha
      have hL : ((ns.map V.int).length : Int) = (ns.length : Int) := by rw [List.length_map]
      refine ⟨fun σ' H' => H' = H1 ∧ ∃ c : Int, σ' = [some (.ref a), some (.int m), some (.ref r), some (.int (0 + (i : Int))), some (.int c)], ?_, ?_⟩
      · refine ⟨_, rfl, a, _, rfl, .inl ha1, _, _, rfl, rfl, _, rfl, ?_⟩
        rw [hL]
        refine ite2 (fun q => ?_) (fun q => ⟨rfl, 0, rfl⟩)
        have q' : (0 : Int) < ns.length := of_decide_eq_true q
        obtain ⟨z, hz⟩ := map_int_atR (ns := ns) (j := (0 + (i : Int)) % (ns.length : Int)) (Int.emod_nonneg _ (by omega)) (Int.emod_lt_of_pos _ q')
        refine ⟨_, rfl, _, rfl, .inl ⟨_, rfl, _, rfl, a, _, rfl, .inl ha1, _, _, rfl, rfl, by rw [hL]; exact q', a, _, _, .int z, rfl, rfl, ha1, by rw [hL]; exact hz, .inl ⟨_, rfl, rfl, z, rfl⟩⟩⟩
      · rintro σ' H' ⟨eH, c, rfl⟩
        rw [eH]
        refine ⟨fun σ' H' => H' = H1 ∧ ∃ c : Int, σ' = [some (.ref a), some (.int m), some (.ref r), some (.int (0 + (i : Int))), some (.int c)], ?_, ?_⟩
        · refine ⟨_, rfl, _, _, rfl, rfl, _, rfl, ?_⟩
          refine ite2 (fun q => ?_) (fun q => ⟨rfl, c, rfl⟩)
          exact ⟨_, rfl, _, _, rfl, rfl, .inl ⟨by decide, by decide⟩, _, _, rfl, rfl, rfl, _, rfl⟩
        · rintro σ' H' ⟨eH, c, rfl⟩
          rw [eH]
          refine ⟨fun σ' H' => H' = H1 ∧ ∃ c : Int, σ' = [some (.ref a), some (.int m), some (.ref r), some (.int (0 + (i : Int))), some (.int c)], ?_, ?_⟩
          · refine ⟨_, rfl, _, rfl, a, _, rfl, .inl ha1, _, _, rfl, rfl, _, rfl, ?_⟩
            refine ite2 (fun q => ?_) (fun q => ?_)
            · refine ⟨_, rfl, _, rfl, _, _, rfl, rfl, .inl ⟨by decide, by decide⟩, _, _, rfl, rfl, _, _, rfl, rfl, _, _, rfl, rfl, .inr ⟨by decide, by decide⟩, _, rfl, _, rfl, _, _, rfl, rfl, .inl ⟨by omega, by omega⟩, _, _, rfl, rfl, .inr ⟨by decide, by decide⟩, _, _, rfl, rfl, .inl ⟨_, rfl, _, _, rfl, rfl, (by show (0 : Int) < 1000000007; decide), ?_⟩⟩
              exact ⟨_, rfl, _, rfl, _, _, rfl, rfl, .inl ⟨by decide, by decide⟩, _, _, rfl, rfl, _, _, rfl, rfl, _, _, rfl, rfl, .inr ⟨by decide, by decide⟩, .inl ⟨_, rfl, _, _, rfl, rfl, (by show (0 : Int) < 18446744073709551557; decide), rfl, _, rfl⟩⟩
            · refine ⟨_, rfl, _, _, rfl, rfl, _, rfl, ?_⟩
              refine ite2 (fun q => ?_) (fun q => ⟨rfl, c, rfl⟩)
              refine ⟨_, rfl, _, rfl, _, _, rfl, rfl, .inl ⟨by decide, by decide⟩, _, _, rfl, rfl, _, _, rfl, rfl, _, _, rfl, rfl, .inr ⟨by decide, by decide⟩, _, rfl, _, rfl, _, _, rfl, rfl, .inl ⟨by omega, by omega⟩, _, _, rfl, rfl, .inr ⟨by decide, by decide⟩, _, _, rfl, rfl, .inl ⟨_, rfl, _, _, rfl, rfl, (by show (0 : Int) < 1000000007; decide), ?_⟩⟩
              exact ⟨_, rfl, _, rfl, _, _, rfl, rfl, .inl ⟨by decide, by decide⟩, _, _, rfl, rfl, _, _, rfl, rfl, _, _, rfl, rfl, .inr ⟨by decide, by decide⟩, .inl ⟨_, rfl, _, _, rfl, rfl, (by show (0 : Int) < 18446744073709551557; decide), rfl, _, rfl⟩⟩
          · rintro σ' H' ⟨eH, c, rfl⟩
            rw [eH]
            refine ⟨_, rfl, .inl ⟨rfl, _, SqL.of h1⟩, _, rfl, r, _, _, rfl, rfl, h1, ?_, ?_⟩
            · rw [List.length_map]
              omega
            · refine ⟨zs ++ [c], _, _, fun b o eb => ?_, ?_, by rw [List.length_append, zl]; rfl, rfl⟩
              · rw [upd_ne (ne_of_none eb hr0)]
                exact s1 _ _ eb
              · rw [upd_same, List.map_append]
                rfl
    · rintro σ H1 ⟨zs, y1, y2, s1, h1, zl, rfl⟩
      exact ⟨_, rfl, k r zs H1 s1 hr0 h1 (by omega)⟩
/-! texts -/
def okL (m : Nat) (l : List Nat) : Prop := l.length ≤ m ∧ ∀ c ∈ l, c < 200
def spLText : Sp := fun vs H Q _ => ∃ r : Int, vs = [.int r] ∧ ∀ l H', okL 4 l → Same H H' → Q (.str (TX l)) H'
theorem at_small {z : Str} {n : Nat} (h : (List.range n).all (fun i => match atI z.cps.toList (i : Nat) with | some c => decide (c < 200) | none => false) = true) {k : Int} (h0 : 0 ≤ k) (h1 : k < n) : ∃ c, atI z.cps.toList k = some c ∧ c < 200 := by
  obtain ⟨m, rfl⟩ := Int.eq_ofNat_of_zero_le h0
  have := List.all_eq_true.mp h m (List.mem_range.mpr (by omega))
  cases e : atI z.cps.toList (m : Int) with
  | none => rw [e] at this; exact nomatch this
  | some c => rw [e] at this; exact ⟨c, rfl, of_decide_eq_true this⟩
theorem atI_mem {α : Type} {xs : List α} {k : Int} (h0 : 0 ≤ k) (h1 : k < xs.length) : ∃ x, atI xs k = some x ∧ x ∈ xs := by
  obtain ⟨m, rfl⟩ := Int.eq_ofNat_of_zero_le h0
  refine ⟨xs[m]'(by omega), ?_, List.getElem_mem _⟩
  unfold atI ixN
  rw [if_pos h0, if_pos h1]
  show xs[(m : Int).toNat]? = _
  rw [Int.toNat_natCast, List.getElem?_eq_getElem]
theorem sc__law_text : FnScope ["row", "signs", "j"] ["row"] (defScope s__law_text) := ⟨rfl, rfl, rfl, by decide +kernel, rfl, by decide +kernel, by decide +kernel⟩
theorem ok_ltext (T : Txt K w mg C) : Cal P w K mg base 1 "_law_text" spLText := by
  refine cal_of T.d__law_text sc__law_text (fun vs H Q E h => ?_) (fun f cdv A outer s H vs Q E hr h => ?_)
  · obtain ⟨r, rfl, _⟩ := h
    rfl
  · obtain ⟨r, rfl, q⟩ := h
    have big : 100000 < sizeLine := by decide
    have r0 : 0 ≤ r % 5 := Int.emod_nonneg _ (by decide)
    have r1 : r % 5 < 5 := Int.emod_lt_of_pos _ (by decide)
    refine ⟨_, (pss_cons (ps_set (i := 1) sc__law_text.nd rfl (Or.inr rfl) pe_str) (pss_one (ps_ret (pe_join pe_str (pe_lc (own := [("j", 2)]) (g := gName 2) (tt := tYes) rfl sc__law_text.nd (pi_range1 (by rfl) T.z_range (pa_cons (pe_op op_mod (pe_callTy call_int1 (by rfl) T.z_int (by decide +kernel) (pa_cons (pv 0) pa_nil)) pe_int) pa_nil)) (blkOk_by (N := ["row", "signs", "j"]) (sc := (defScope s__law_text)) (by decide +kernel)) (fun _ _ _ _ _ => pg_name (i := 2) sc__law_text.nd rfl (Or.inl rfl)) (fun _ _ _ _ _ => pts_nil) (fun _ _ _ _ _ => (pe_ix ix_str (pv 1) (pe_op op_mod (pe_callTy call_int1 (by rfl) T.z_int (by decide +kernel) (pa_cons (pe_op op_fdiv (pv 0) (pe_op op_add pe_int (pe_op op_mul pe_int (pv 2)))) pa_nil)) pe_int) (fun _ _ => rfl)))))))), ?_⟩
    refine ⟨⟨_, rfl⟩, _, rfl, .inl ⟨_, rfl, _, _, rfl, rfl, (by show (0 : Int) < 5; decide), _, rfl, by omega, by omega, fun D hD => ?_⟩⟩
    refine lc_it (walk_range (lo := 0) (n := (r % 5).toNat)) (fun i H' => Same H H' ∧ ∃ cs : List Nat, cs.length = i ∧ (∀ c ∈ cs, c < 200) ∧ H' D = some (.lst (((cs.map fun c => [c]).map TX).map V.str))) ⟨Sm.new hD, [], rfl, by simp, upd_same⟩ (fun i H' _ z => trivial) ?_ ?_
    · rintro i x H1 H2 hi ⟨s1, cs, cl, cb, hc⟩ ⟨rfl, rfl⟩
      have hi' : (i : Int) < 5 := by omega
      have k0 : 0 ≤ (r / (3 + 7 * (0 + (i : Int)))) % 15 := Int.emod_nonneg _ (by decide)
      have k1 : (r / (3 + 7 * (0 + (i : Int)))) % 15 < 15 := Int.emod_lt_of_pos _ (by decide)
      obtain ⟨c, hcc, hcb⟩ := at_small (z := "ab \"\\n[]{},:\n1-") (n := 15) (by decide +kernel) k0 k1
      refine ⟨rfl, ?_⟩
      refine ⟨_, rfl, _, rfl, _, rfl, _, _, rfl, rfl, .inl ⟨by decide, by decide⟩, _, _, rfl, rfl, _, _, rfl, rfl, ⟨by omega, by omega⟩, .inl ⟨_, rfl, _, _, rfl, rfl, (by show (0 : Int) < 15; decide), _, _, c, rfl, rfl, (by decide +kernel), hcc, ?_⟩⟩
      refine ⟨_, hc, by simp only [List.length_map]; omega, fun b o e => ?_, cs ++ [c], by simp [cl], fun x hx => ?_, ?_⟩
      · rw [upd_ne (ne_of_none e hD)]
        exact s1 _ _ e
      · rcases List.mem_append.mp hx with hx | hx
        · exact cb x hx
        · rw [List.mem_singleton.mp hx]; exact hcb
      · rw [upd_same, List.map_append, List.map_append, List.map_append]
        rfl
    · rintro H1 ⟨s1, cs, cl, cb, hc⟩
      have fl := flat_one cs
      refine ⟨_, D, _, rfl, rfl, .inl (SqL.of hc), ?_, ?_⟩
      · rw [sum_TX, fl]
        show _ + _ * 0 ≤ _
        omega
      · rw [k_00, join_TX, fl]
        exact q cs _ ⟨by omega, cb⟩ s1
/-! ### drawn values -/
def vB : Nat → Nat
  | 0 => 40
  | n + 1 => 50 + 3 * vB n
def vP : Nat → Nat
  | 0 => 50
  | n + 1 => 50 + 6 * vP n
theorem small_tx {m : Nat} {l : List Nat} (h : okL m l) : Small (10 * m + 2) 0 (.str (TX l)) := by
  refine ⟨rfl, Nat.le_refl _, ?_⟩
  have := fmt_piled [TX l] (fun y hy c hc => by
    rw [List.mem_singleton] at hy
    subst hy
    rw [TX_tl] at hc
    exact Nat.lt_trans (h.2 c hc) (by decide))
  have e1 : fmtCost [TX l] = 10 * l.length + 4 := by rw [fmtCost_cons, TX_len]; rfl
  have e2 : piled ([TX l].map reprText) = (reprText (TX l)).length + 2 := by simp [piled]
  have := h.1
  show (reprText (TX l)).length ≤ _
  omega
structure GoodJ (n : Nat) (j : Jv) : Prop where
  g : gv j
  d : dv j ≤ n
  l : (wr j).length ≤ vB n
  s : Small (vP n) n (encJ j)
theorem eCh_len (c : Nat) : (eCh c).length ≤ 2 := by
  unfold eCh
  split
  · simp
  · split
    · simp
    · split <;> simp
theorem eTx_le : ∀ l : List Nat, (eTx l).length ≤ 2 * l.length
  | [] => by simp [eTx]
  | c :: l => by
    have := eTx_le l
    have := eCh_len c
    have e : eTx (c :: l) = eCh c ++ eTx l := by simp [eTx]
    rw [e, List.length_append, List.length_cons]
    omega
theorem vB_le (n : Nat) : 40 ≤ vB n := by
  cases n with
  | zero => exact Nat.le_refl _
  | succ n => exact (show 40 ≤ 50 + 3 * vB n by omega)
theorem vP_le (n : Nat) : 50 ≤ vP n := by cases n <;> simp [vP]
theorem good_nul {n : Nat} : GoodJ n .nul := by
  have := vB_le n
  have := vP_le n
  exact ⟨by simp only [gv], Nat.zero_le _, by simp only [wr]; show 4 ≤ _; omega, ⟨rfl, Nat.zero_le _, Nat.le_trans (show _ ≤ 4 from by decide +kernel) (by omega)⟩⟩
theorem good_bo {n : Nat} (b : Bool) : GoodJ n (.bo b) := by
  have := vB_le n
  have := vP_le n
  refine ⟨by simp only [gv], Nat.zero_le _, ?_, ⟨rfl, Nat.zero_le _, ?_⟩⟩
  · cases b
    · show 5 ≤ _; omega
    · show 4 ≤ _; omega
  · cases b
    · exact Nat.le_trans (show _ ≤ 5 from by decide +kernel) (by omega)
    · exact Nat.le_trans (show _ ≤ 5 from by decide +kernel) (by omega)
theorem nuT_len {i : Int} (h : i.natAbs ≤ 10 ^ 30) : (nuT i).length ≤ 32 := by
  cases i with
  | ofNat n =>
    have := TL.numL_len (n := n) (k := 31) (by decide) (Nat.lt_of_le_of_lt h (by decide))
    show (TL.numL n).length ≤ 32
    omega
  | negSucc n =>
    have := TL.numL_len (n := n + 1) (k := 31) (by decide) (Nat.lt_of_le_of_lt h (by decide))
    show (TL.numL (n + 1)).length + 1 ≤ 32
    omega
theorem small_nu {i : Int} (h : i.natAbs ≤ 10 ^ 30) : Small 32 0 (.int i) := by
  refine ⟨?_, Nat.le_refl _, ?_⟩
  · have := log_ok h
    simpa [PyData.showable] using this
  · have := nuT_len h
    have e := nuT_TX i
    show (Str.ofString (toString i)).length ≤ 32
    rw [e, TX_len]
    exact this
theorem good_nu {n : Nat} {i : Int} (h : i.natAbs ≤ 10 ^ 30) : GoodJ n (.nu i) := by
  have := vB_le n
  have := vP_le n
  have := nuT_len h
  exact ⟨by simp only [gv]; exact h, Nat.zero_le _, by simp only [wr]; omega, by simp only [encJ]; exact (small_nu h).mono (by omega) (Nat.zero_le _)⟩
theorem good_txt {n : Nat} {l : List Nat} (h : okL 4 l) : GoodJ n (.tx l) := by
  have := vB_le n
  have := vP_le n
  have := eTx_le l
  have := h.1
  exact ⟨by simp only [gv], Nat.zero_le _, by simp only [wr, qT, List.length_cons, List.length_append, List.length_nil]; omega, by simp only [encJ]; exact (small_tx h).mono (by omega) (Nat.zero_le _)⟩
theorem flat_le {c : Nat} : ∀ {ls : List (List Nat)}, (∀ l ∈ ls, l.length ≤ c) → (sepJ ls).length ≤ ls.length * (c + 1)
  | [], _ => by simp [sepJ]
  | a :: ls, h => by
    have key : ∀ l : List (List Nat), (∀ x ∈ l, x.length ≤ c) → (tailJ l).length ≤ l.length * (c + 1) := by
      intro l
      induction l with
      | nil => intro _; simp [tailJ]
      | cons x l ih =>
        intro h
        have := ih fun y hy => h y (List.mem_cons_of_mem _ hy)
        have := h x List.mem_cons_self
        simp only [tailJ, List.length_cons, List.length_append, Nat.succ_mul]
        omega
    have := key ls fun y hy => h y (List.mem_cons_of_mem _ hy)
    have := h a List.mem_cons_self
    simp only [sepJ, List.length_append, List.length_cons, Nat.succ_mul]
    omega
theorem good_li {n : Nat} {js : List Jv} (h : ∀ j ∈ js, GoodJ n j) (hl : js.length ≤ 3) : GoodJ (n + 1) (.li js) := by
  have hw := flat_le (c := vB n) (ls := wrs js) (fun l hl => by
    rw [wrs_map] at hl
    obtain ⟨j, hj, rfl⟩ := List.mem_map.mp hl
    exact (h j hj).l)
  have wl : (wrs js).length = js.length := by rw [wrs_map, List.length_map]
  rw [wl] at hw
  have h3 := Nat.mul_le_mul_right (vB n + 1) hl
  refine ⟨by simp only [gv]; exact gvs_of fun v hv => (h v hv).g, by simp only [dv]; exact Nat.succ_le_succ (dvs_of fun v hv => (h v hv).d), ?_, ?_⟩
  · simp only [wr, vB, List.length_cons, List.length_append, List.length_nil]
    omega
  · simp only [encJ, vP]
    have := vP_le n
    exact (small_list (c := vP n) (k := n) (n := 3) (ds := encJs js) (fun d hd => by
      rw [encJs_map] at hd
      obtain ⟨j, hj, rfl⟩ := List.mem_map.mp hd
      exact (h j hj).s) (by rw [encJs_len]; exact hl)).mono (by omega) (Nat.le_refl _)
theorem good_re {n : Nat} {ks : List (List Nat)} {js : List Jv} (hk : ∀ k ∈ ks, okL 4 k) (nd : ks.Nodup) (kl : ks.length = js.length) (h : ∀ j ∈ js, GoodJ n j) (hl : js.length ≤ 3) : GoodJ (n + 1) (.re ks js) := by
  have wl : (wrs js).length = js.length := by rw [wrs_map, List.length_map]
  have zl : (List.zipWith fldT ks (wrs js)).length = js.length := by rw [List.length_zipWith, wl, kl, Nat.min_self]
  have key : ∀ x ∈ wrs js, x.length ≤ vB n := fun x hx => by
    rw [wrs_map] at hx
    obtain ⟨j, hj, rfl⟩ := List.mem_map.mp hx
    exact (h j hj).l
  have hw := flat_le (c := vB n + 12) (ls := List.zipWith fldT ks (wrs js)) (fun l hl => by
    obtain ⟨i, hi, e⟩ := List.getElem_of_mem hl
    rw [zl] at hi
    rw [List.getElem_zipWith] at e
    subst e
    have e1 := hk _ (List.getElem_mem (show i < ks.length by omega))
    have e2 : ((wrs js)[i]'(by omega)).length ≤ vB n := key _ (List.getElem_mem _)
    have e3 := eTx_le (ks[i]'(by omega))
    have := e1.1
    simp only [fldT, qT, List.length_append, List.length_cons, List.length_nil]
    omega)
  rw [zl] at hw
  have h3 := Nat.mul_le_mul_right (vB n + 12 + 1) hl
  have := vB_le n
  have := vP_le n
  refine ⟨by simp only [gv]; exact ⟨kl, nd, gvs_of fun v hv => (h v hv).g⟩, by simp only [dv]; exact Nat.succ_le_succ (dvs_of fun v hv => (h v hv).d), ?_, ?_⟩
  · simp only [wr, vB, List.length_cons, List.length_append, List.length_nil]
    omega
  · simp only [encJ, vP]
    exact (small_dict (c := vP n) (k := n) (n := 3) (kvs := List.zip (ks.map dKey) (encJs js)) (fun p hp => by
      have hp1 : p.1 ∈ ks.map dKey := (List.of_mem_zip (a := p.1) (b := p.2) hp).1
      have hp2 : p.2 ∈ encJs js := (List.of_mem_zip (a := p.1) (b := p.2) hp).2
      obtain ⟨k, hk1, e1⟩ := List.mem_map.mp hp1
      rw [encJs_map] at hp2
      obtain ⟨j, hj, e2⟩ := List.mem_map.mp hp2
      rw [← e1, ← e2]
      exact ⟨(small_tx (hk k hk1)).mono (by omega) (Nat.zero_le _), (h j hj).s⟩) (by rw [List.length_zip, List.length_map, encJs_len, kl, Nat.min_self]; exact hl)).mono (by omega) (Nat.le_refl _)
def wK2 (a b : Int) : List (Key × V) := [(.inr "at", .int a), (.inr "most", .int b)]
theorem dg_at {H : Hp} {d : Addr} {a b : Int} (h : H d = some (.dK (wK2 a b))) : DGet H d (.str "at") (some (.int a)) := by
  have := DGet.k (k := .inr "at") h
  exact this
theorem dg_most {H : Hp} {d : Addr} {a b : Int} (h : H d = some (.dK (wK2 a b))) : DGet H d (.str "most") (some (.int b)) := by
  have := DGet.k (k := .inr "most") h
  exact this
theorem put_js {G : Hp} {k : Key} {v : V} {j : Jv} (hv : Dq G v (encJ j)) : ∀ {kvs : List (Key × V)} {js : List Jv}, DqAll G (kvs.map (·.2)) (encJs js) → ∃ js', DqAll G ((kvs.map fun p => if p.1 = k then (p.1, v) else p).map (·.2)) (encJs js') ∧ js'.length = js.length ∧ ∀ x ∈ js', x ∈ js ∨ x = j
  | [], [], h => ⟨[], h, rfl, fun x hx => nomatch hx⟩
  | [], j0 :: js, h => by simp only [encJs] at h; cases h
  | p :: kvs, [], h => by simp only [encJs] at h; cases h
  | p :: kvs, j0 :: js, h => by
    simp only [encJs] at h
    cases h with
    | cons h1 h2 =>
      obtain ⟨js', d1, l1, m1⟩ := put_js hv h2
      by_cases e : p.1 = k
      · refine ⟨j :: js', ?_, by simp [l1], fun x hx => ?_⟩
        · simp only [List.map_cons, encJs, if_pos e]
          exact .cons hv d1
        · rcases List.mem_cons.mp hx with rfl | hx
          · exact .inr rfl
          · exact (m1 x hx).imp (List.mem_cons_of_mem _) id
      · refine ⟨j0 :: js', ?_, by simp [l1], fun x hx => ?_⟩
        · simp only [List.map_cons, encJs, if_neg e]
          exact .cons h1 d1
        · rcases List.mem_cons.mp hx with rfl | hx
          · exact .inl List.mem_cons_self
          · exact (m1 x hx).imp (List.mem_cons_of_mem _) id
/-- a record drawn so far -/
structure RecB (n m : Nat) (G : Hp) (kvs : List (Key × V)) (ks : List (List Nat)) (js : List Jv) : Prop where
  k : keysAre kvs ks
  nd : ks.Nodup
  ok : ∀ x ∈ ks, okL 4 x
  d : DqAll G (kvs.map (·.2)) (encJs js)
  g : ∀ j ∈ js, GoodJ n j
  l : js.length ≤ m
theorem RecB.kl {n m : Nat} {G : Hp} {kvs : List (Key × V)} {ks : List (List Nat)} {js : List Jv} (h : RecB n m G kvs ks js) : ks.length = js.length := by
  have h1 := h.d.len
  have h2 := congrArg List.length h.k
  rw [List.length_map, encJs_len] at h1
  rw [List.length_map, List.length_map] at h2
  omega
theorem RecB.put {n m : Nat} {G : Hp} {kvs : List (Key × V)} {ks : List (List Nat)} {js : List Jv} (h : RecB n m G kvs ks js) {x : List Nat} {v : V} {j : Jv} (hx : okL 4 x) (hv : Dq G v (encJ j)) (gj : GoodJ n j) : ∃ ks' js', RecB n (m + 1) G (putK kvs (.inr (TX x)) v) ks' js' := by
  have hkv := keys_val h.k x
  by_cases c : x ∈ ks
  · rw [decide_eq_true c] at hkv
    have e : putK kvs (.inr (TX x)) v = kvs.map fun p => if p.1 = .inr (TX x) then (p.1, v) else p := by
      unfold putK
      rw [valV_any]
      rw [hkv]
      exact if_pos rfl
    obtain ⟨js', d1, l1, m1⟩ := put_js (k := .inr (TX x)) hv h.d
    refine ⟨ks, js', ?_, h.nd, h.ok, by rw [e]; exact d1, fun y hy => (m1 y hy).elim (h.g y) (fun z => by rw [z]; exact gj), by have := h.l; omega⟩
    rw [e]
    unfold keysAre
    rw [← h.k, List.map_map]
    refine List.map_congr_left fun p _ => ?_
    show (if p.1 = _ then (p.1, v) else p).1 = p.1
    split <;> rfl
  · rw [decide_eq_false c] at hkv
    have nv : valV kvs (.inr (TX x)) = none := by
      cases e : valV kvs (.inr (TX x)) with
      | none => rfl
      | some u => rw [e] at hkv; exact nomatch hkv
    refine ⟨ks ++ [x], js ++ [j], ?_, ?_, fun y hy => ?_, ?_, fun y hy => ?_, by rw [List.length_append, List.length_singleton]; have := h.l; omega⟩
    · rw [putK_nw nv]
      unfold keysAre
      rw [List.map_append, h.k, List.map_append]
      rfl
    · rw [List.nodup_append]
      refine ⟨h.nd, by simp, fun a ha b hb => ?_⟩
      rw [List.mem_singleton] at hb
      subst hb
      exact fun z => c (z ▸ ha)
    · rcases List.mem_append.mp hy with hy | hy
      · exact h.ok y hy
      · rw [List.mem_singleton.mp hy]; exact hx
    · rw [putK_nw nv, List.map_append, encJs_app]
      exact dqAll_ap h.d (by simp only [encJs]; exact .cons hv .nil)
    · rcases List.mem_append.mp hy with hy | hy
      · exact h.g y hy
      · rw [List.mem_singleton.mp hy]; exact gj
end
end VL

set_option Elab.async false
set_option linter.all false
set_option pp.maxSteps 700
set_option maxRecDepth 100000
set_option maxHeartbeats 4000000
namespace VL
open PySem PySem.Spec PyProof.Rows L2
def spLVal (n : Nat) : Sp := fun vs H Q _ => ∃ (rl wd : Addr) (d : Int) (zs : List Int) (G : Hp) (M : List (Addr × HO)) (a b : Int), vs = [.ref rl, .ref wd, .int d] ∧ d + n = 5 ∧ Sb G H ((wd, .dK (wK2 a b)) :: M) ∧ G rl = some (.lst (zs.map V.int)) ∧ 0 < zs.length ∧
  ∀ v j G' H' a', Sb G' H' ((wd, .dK (wK2 a' b)) :: M) → Same G G' → Dq G' v (encJ j) → GoodJ n j → Q v H'
theorem consts3 {x : V} (h : x ∈ [V.non, .bl true, .bl false]) : ∃ j, (∀ G, Dq G x (encJ j)) ∧ ∀ n, GoodJ n j := by
  simp only [List.mem_cons, List.not_mem_nil, or_false] at h
  rcases h with rfl | rfl | rfl
  · exact ⟨.nul, fun G => by simp only [encJ]; exact .non, fun n => good_nul⟩
  · exact ⟨.bo true, fun G => by simp only [encJ]; exact .bl true, fun n => good_bo true⟩
  · exact ⟨.bo false, fun G => by simp only [encJ]; exact .bl false, fun n => good_bo false⟩
section
variable {P : Program} {w : World} {K : PySem.W.Frag} {mg : Str → Option Value} {base : Heap} {C : Ad}
theorem sc__law_value : FnScope ["rows", "world", "depth", "row", "kind", "many", "j", "record"] ["rows", "world", "depth"] (defScope s__law_value) := ⟨rfl, rfl, rfl, by decide +kernel, rfl, by decide +kernel, by decide +kernel⟩
theorem lv_0 (T : Txt K w mg C) {k : Nat} : Cal P w K mg base (k + 1) "_law_value" spFalse := cal_of T.d__law_value sc__law_value (fun vs H Q E h => h.elim) (fun f cdv A outer s H vs Q E hr h => h.elim)
theorem lv_S (T : Txt K w mg C) {n : Nat} {sp : Sp} (hsp : ∀ m, m + 1 = n → sp = spLVal m) (G_law_value : Cal P w K mg base (n + 2) "_law_value" sp) : Cal P w K mg base (n + 3) "_law_value" (spLVal n) := by
  have G_law_text := ok_ltext (P := P) (base := base) T
  refine cal_of T.d__law_value sc__law_value (fun vs H Q E h => ?_) (fun f cdv A outer s H vs Q E hr h => ?_)
  · obtain ⟨rl, wd, d, zs, G, M, a, b, rfl, _⟩ := h
    rfl
  · obtain ⟨rl, wd, d, zs, G, M, a, b, rfl, hdn, S, hrl, zl, q⟩ := h
    have hu := hu_of hr
    have big : 100000 < sizeLine := by decide
    have L0 : (0 : Int) < ((zs.map V.int).length : Int) := by rw [List.length_map]; omega
    have draw : ∀ j : Int, ∃ z, atI (zs.map V.int) (j % ((zs.map V.int).length : Int)) = some (.int z) := fun j => by
      rw [List.length_map] at L0 ⊢
      exact map_int_atR (Int.emod_nonneg _ (by omega)) (Int.emod_lt_of_pos _ L0)
    obtain ⟨z, hz⟩ := draw a
    have hrl1 := S.s _ _ hrl
    have S1 := S.put (u := .dK (wK2 (a + 1) b))
    refine ⟨_, (pss_cons (ps_set (i := 3) sc__law_value.nd rfl (Or.inl rfl) (pe_ix ix_list (pv 0) (pe_op op_mod (pe_dget hu (pv 1) pe_str (fun _ _ => rfl)) (pe_callB call_len_seq (by rfl) T.z_len PySem.boot_len (pa_cons (pv 0) pa_nil))) (fun _ _ => rfl))) (pss_cons (ps_dput hu (pv 1) pe_str (pe_op op_add (pe_dget hu (pv 1) pe_str (fun _ _ => rfl)) pe_int) rfl) (pss_cons (ps_set (i := 4) sc__law_value.nd rfl (Or.inl rfl) (pe_op op_mod (pe_callTy call_int1 (by rfl) T.z_int (by decide +kernel) (pa_cons (pv 3) pa_nil)) pe_int)) (pss_cons (ps_if (PW.pt (pw_or (pt_cmpR op_le (pv 4) pe_int (nomark _)) (pw_or1 (pt_cmpR op_gt (pe_dget hu (pv 1) pe_str (fun _ _ => rfl)) (pe_dget hu (pv 1) pe_str (fun _ _ => rfl)) (nomark _))))) (pss_one (ps_ret (pe_ix ix_list (pe_lst (pa_cons pe_non (pa_cons pe_bl (pa_cons pe_bl pa_nil)))) (pe_op op_mod (pe_callTy call_int1 (by rfl) T.z_int (by decide +kernel) (pa_cons (pe_op op_fdiv (pv 3) pe_int) pa_nil)) pe_int) (fun _ _ => rfl)))) pss_nil) (pss_cons (ps_if (pt_cmpR op_le (pv 4) pe_int (nomark _)) (pss_one (ps_ret (pe_ifExp (pt_cmpR op_gt (pe_op op_mod (pe_op op_fdiv (pv 3) pe_int) pe_int) pe_int (nomark _)) (pe_op op_sub (pe_op op_mod (pe_callTy call_int1 (by rfl) T.z_int (by decide +kernel) (pa_cons (pe_op op_fdiv (pv 3) pe_int) pa_nil)) pe_int) pe_int) (pe_op op_mod (pe_callTy call_int1 (by rfl) T.z_int (by decide +kernel) (pa_cons (pe_op op_fdiv (pv 3) pe_int) pa_nil)) pe_int)))) pss_nil) (pss_cons (ps_if (PW.pt (pw_or (pt_cmpR op_le (pv 4) pe_int (nomark _)) (pw_or1 (pt_cmpR op_ge (pv 2) pe_int (nomark _))))) (pss_one (ps_ret (pe_c G_law_text hr (by omega) (by rfl) (pa_cons (pe_op op_fdiv (pv 3) pe_int) pa_nil)))) pss_nil) (pss_cons (ps_set (i := 5) sc__law_value.nd rfl (Or.inl rfl) (pe_op op_mod (pe_callTy call_int1 (by rfl) T.z_int (by decide +kernel) (pa_cons (pe_op op_fdiv (pv 3) pe_int) pa_nil)) pe_int)) (pss_cons (ps_if (pt_cmpR op_le (pv 4) pe_int (nomark _)) (pss_one (ps_ret (pe_lc (own := [("j", 6)]) (g := gName 6) (tt := tYes) rfl sc__law_value.nd (pi_range1 (by rfl) T.z_range (pa_cons (pv 5) pa_nil)) (blkOk_by (N := ["rows", "world", "depth", "row", "kind", "many", "j", "record"]) (sc := (defScope s__law_value)) (by decide +kernel)) (fun _ _ _ _ _ => pg_name (i := 6) sc__law_value.nd rfl (Or.inl rfl)) (fun _ _ _ _ _ => pts_nil) (fun _ _ _ _ _ => (pe_c G_law_value hr (by omega) (by rfl) (pa_cons (pv 0) (pa_cons (pv 1) (pa_cons (pe_op op_add (pv 2) pe_int) pa_nil)))))))) pss_nil) (pss_cons (ps_set (i := 7) sc__law_value.nd rfl (Or.inl rfl) pe_dnewK) (pss_cons (ps_for PassesOwn.never rfl (pi_range1 (by rfl) T.z_range (pa_cons (pv 5) pa_nil)) (pg_name (i := 6) sc__law_value.nd rfl (Or.inl rfl)) (pss_one (ps_dput hu (pv 7) (pe_c G_law_text hr (by omega) (by rfl) (pa_cons (pe_op op_fdiv (pe_ix ix_list (pv 0) (pe_op op_mod (pe_op op_add (pe_dget hu (pv 1) pe_str (fun _ _ => rfl)) (pv 6)) (pe_callB call_len_seq (by rfl) T.z_len PySem.boot_len (pa_cons (pv 0) pa_nil))) (fun _ _ => rfl)) pe_int) pa_nil)) (pe_c G_law_value hr (by omega) (by rfl) (pa_cons (pv 0) (pa_cons (pv 1) (pa_cons (pe_op op_add (pv 2) pe_int) pa_nil)))) rfl))) (pss_one (ps_ret (pv 7))))))))))))), ?_⟩
    refine ⟨_, rfl, _, rfl, wd, _, rfl, dg_at S.hd, _, rfl, rl, _, rfl, .inl (SqL.of hrl1), _, _, rfl, rfl, L0, rl, _, _, _, rfl, rfl, SqL.of hrl1, hz, ?_⟩
    refine ⟨_, rfl, wd, _, rfl, dg_at S.hd, _, _, rfl, rfl, _, rfl, wd, _, rfl, DPut.k (k := .inr "at") S.hd (by show 2 < _; decide), ?_⟩
    refine ⟨_, rfl, .inl ⟨_, rfl, _, _, rfl, rfl, (by show (0 : Int) < 9; decide), ?_⟩⟩
    have small : ∀ (v : V) (j : Jv) (H' : Hp), Same (upd H wd (.dK (wK2 (a + 1) b))) H' → (∀ G, Dq G v (encJ j)) → GoodJ n j → Q v H' := fun v j H' s' dq gj => by
      obtain ⟨G', S', g'⟩ := S1.more s'
      exact q v j G' H' (a + 1) S' g' (dq G') gj
    have c3 : ∃ y j, atI [V.non, .bl true, .bl false] (z / 9 % 3) = some y ∧ (∀ G, Dq G y (encJ j)) ∧ ∀ n, GoodJ n j := by
      obtain ⟨y, hy, hm⟩ := atI_mem (xs := [V.non, .bl true, .bl false]) (k := z / 9 % 3) (Int.emod_nonneg _ (by decide)) (Int.emod_lt_of_pos _ (by decide))
      obtain ⟨j, h1, h2⟩ := consts3 hm
      exact ⟨y, j, hy, h1, h2⟩
    obtain ⟨y3, j3, hy3, dy3, gy3⟩ := c3
    have H2e : upd H wd (.dK (putK (wK2 a b) (.inr "at") (.int (a + 1)))) = upd H wd (.dK (wK2 (a + 1) b)) := rfl
    refine ⟨_, rfl, _, _, rfl, rfl, _, rfl, ite2 (fun k1 => iteT ?A) (fun k1 => ⟨_, rfl, wd, _, rfl, dg_at S1.hd, _, rfl, wd, _, rfl, dg_most S1.hd, _, _, rfl, rfl, _, rfl, ite2 (fun k2 => ?A2) (fun k2 => ?B)⟩)⟩
    case A => exact ⟨by show 3 ≤ sizeLine; decide, fun u hu' => ⟨_, rfl, _, _, rfl, rfl, ⟨by decide, by decide⟩, .inl ⟨_, rfl, _, _, rfl, rfl, (by show (0 : Int) < 3; decide), u, _, _, _, rfl, rfl, SqL.of upd_same, hy3, small y3 j3 _ (Sm.new hu') dy3 (gy3 n)⟩⟩⟩
    case A2 => exact ⟨by show 3 ≤ sizeLine; decide, fun u hu' => ⟨_, rfl, _, _, rfl, rfl, ⟨by decide, by decide⟩, .inl ⟨_, rfl, _, _, rfl, rfl, (by show (0 : Int) < 3; decide), u, _, _, _, rfl, rfl, SqL.of upd_same, hy3, small y3 j3 _ (Sm.new hu') dy3 (gy3 n)⟩⟩⟩
    refine ⟨_, rfl, _, _, rfl, rfl, _, rfl, ite2 (fun k3 => ?_) (fun k3 => ?_)⟩
    · have e1 : 0 ≤ z / 9 % 2001 := Int.emod_nonneg _ (by decide)
      have e2 : z / 9 % 2001 < 2001 := Int.emod_lt_of_pos _ (by decide)
      have e3 : 0 ≤ z / 9 % 1000000000000000000000000000000 := Int.emod_nonneg _ (by decide)
      have e4 : z / 9 % 1000000000000000000000000000000 < 1000000000000000000000000000000 := Int.emod_lt_of_pos _ (by decide)
      refine ⟨_, rfl, _, _, rfl, rfl, ⟨by decide, by decide⟩, _, _, rfl, rfl, (by show (0 : Int) < 3; decide), _, _, rfl, rfl, _, rfl, ite2 (fun k4 => ?_) (fun k4 => ?_)⟩
      · refine ⟨_, rfl, _, _, rfl, rfl, ⟨by decide, by decide⟩, .inl ⟨_, rfl, _, _, rfl, rfl, (by show (0 : Int) < 2001; decide), _, _, rfl, rfl, ?_⟩⟩
        exact small _ (.nu (z / 9 % 2001 - 1000)) _ (Same.refl _) (fun G => by simp only [encJ]; exact .int _) (good_nu (by omega))
      · refine ⟨_, rfl, _, _, rfl, rfl, ⟨by decide, by decide⟩, .inl ⟨_, rfl, _, _, rfl, rfl, (by show (0 : Int) < 1000000000000000000000000000000; decide), ?_⟩⟩
        exact small _ (.nu (z / 9 % 1000000000000000000000000000000)) _ (Same.refl _) (fun G => by simp only [encJ]; exact .int _) (good_nu (by omega))
    refine ⟨_, rfl, _, _, rfl, rfl, _, rfl, ite2 (fun k4 => iteT ?A3) (fun k4 => ⟨_, rfl, _, _, rfl, rfl, _, rfl, ite2 (fun k5 => ?A4) (fun k5 => ?B2)⟩)⟩
    case A3 => exact ⟨_, rfl, _, _, rfl, rfl, ⟨by decide, by decide⟩, _, rfl, fun l H' hl s' => small _ (.tx l) _ s' (fun G => by simp only [encJ]; exact .str _) (good_txt hl)⟩
    case A4 => exact ⟨_, rfl, _, _, rfl, rfl, ⟨by decide, by decide⟩, _, rfl, fun l H' hl s' => small _ (.tx l) _ s' (fun G => by simp only [encJ]; exact .str _) (good_txt hl)⟩
    have d5 : d < 5 := by
      have : ¬ (5 ≤ d) := fun z => k5 (decide_eq_true z)
      omega
    obtain ⟨m, rfl⟩ : ∃ m, n = m + 1 := ⟨n - 1, by omega⟩
    have e := hsp m rfl
    subst e
    have r0 : 0 ≤ z / 9 % 4 := Int.emod_nonneg _ (by decide)
    have r1 : z / 9 % 4 < 4 := Int.emod_lt_of_pos _ (by decide)
    refine ⟨_, rfl, _, _, rfl, rfl, ⟨by decide, by decide⟩, .inl ⟨_, rfl, _, _, rfl, rfl, (by show (0 : Int) < 4; decide), ?_⟩⟩
    refine ⟨_, rfl, _, _, rfl, rfl, _, rfl, ite2 (fun k6 => ?_) (fun k6 => ?_)⟩
    · refine ⟨_, rfl, _, rfl, by omega, by omega, fun D hD => ?_⟩
      have S2 := S1.add (o := .lst []) hD
      refine lc_it (walk_range (lo := 0) (n := (z / 9 % 4).toNat)) (fun i H' => ∃ (G1 : Hp) (a1 : Int) (xs : List V) (js : List Jv), Sb G1 H' ((D, .lst xs) :: (wd, .dK (wK2 a1 b)) :: M) ∧ Same G G1 ∧ DqAll G1 xs (encJs js) ∧ (∀ j ∈ js, GoodJ m j) ∧ js.length = i) ⟨G, _, [], [], S2, Same.refl _, by simp only [encJs]; exact .nil, (fun _ h => nomatch h), rfl⟩ (fun i H' _ z => trivial) ?_ ?_
      · rintro i x H3 H4 hi ⟨G1, a1, xs, js, S3, g3, da, gj, jl⟩ ⟨rfl, rfl⟩
        refine ⟨rfl, ?_⟩
        refine ⟨_, rfl, _, rfl, _, rfl, _, _, rfl, rfl, rl, wd, d + 1, zs, G1, (D, .lst xs) :: M, a1, b, rfl, by omega, S3.swap, g3 _ _ hrl, zl, fun v j G5 H5 a5 S5 g5 dv gv5 => ?_⟩
        have S5 := S5.swap
        have xl := da.len
        rw [encJs_len] at xl
        refine ⟨xs, S5.hd, by omega, G5, a5, xs ++ [v], js ++ [j], S5.put, Same.trans g3 g5, ?_, fun y hy => ?_, by simp [jl]⟩
        · rw [encJs_app]
          exact dqAll_ap (da.same g5) (by simp only [encJs]; exact .cons dv .nil)
        · rcases List.mem_append.mp hy with hy | hy
          · exact gj y hy
          · rw [List.mem_singleton.mp hy]; exact gv5
      · rintro H3 ⟨G1, a1, xs, js, S3, g3, da, gj, jl⟩
        obtain ⟨S4, g4⟩ := S3.drop
        refine q (.ref D) (.li js) _ H3 a1 S4 (Same.trans g3 g4) ?_ (good_li gj (by omega))
        simp only [encJ]
        exact .lst upd_same (da.same g4)
    · refine fun D hD => ?_
      have S2 := S1.add (o := .dK []) hD
      refine ⟨_, rfl, _, rfl, by omega, by omega, ?_⟩
      refine for_it (walk_range (lo := 0) (n := (z / 9 % 4).toNat)) (fun i σ H' => ∃ (G1 : Hp) (a1 : Int) (kvs : List (Key × V)) (ks : List (List Nat)) (js : List Jv) (y : Option V), Sb G1 H' ((D, .dK kvs) :: (wd, .dK (wK2 a1 b)) :: M) ∧ Same G G1 ∧ RecB m i G1 kvs ks js ∧ σ = [some (.ref rl), some (.ref wd), some (.int d), some (.int z), some (.int (z % 9)), some (.int (z / 9 % 4)), y, some (.ref D)]) ⟨G, _, [], [], [], none, S2, Same.refl _, ⟨rfl, List.nodup_nil, (fun _ h => nomatch h), by simp only [encJs]; exact .nil, (fun _ h => nomatch h), Nat.le_refl _⟩, rfl⟩ (fun _ _ _ _ _ => trivial) ?_ ?_
      · rintro i x σ H3 H4 hi ⟨G1, a1, kvs, ks, js, y, S3, g3, RB, rfl⟩ ⟨rfl, rfl⟩
        refine ⟨_, rfl, _, rfl, _, rfl, _, _, rfl, rfl, rl, wd, d + 1, zs, G1, (D, .dK kvs) :: M, a1, b, rfl, by omega, S3.swap, g3 _ _ hrl, zl, fun v j G5 H5 a5 S5 g5 dv gv5 => ?_⟩
        have S5 := S5.swap
        have hrl5 := S5.s _ _ (g5 _ _ (g3 _ _ hrl))
        obtain ⟨z5, hz5⟩ := draw (a5 + (0 + (i : Int)))
        refine ⟨_, rfl, _, rfl, _, rfl, wd, _, rfl, dg_at S5.hd2, _, rfl, _, _, rfl, rfl, _, rfl, rl, _, rfl, .inl (SqL.of hrl5), _, _, rfl, rfl, L0, rl, _, _, _, rfl, rfl, SqL.of hrl5, hz5, _, _, rfl, rfl, ⟨by decide, by decide⟩, _, rfl, fun l H6 hl s6 => ?_⟩
        obtain ⟨G6, S6, g6⟩ := S5.more s6
        have rb : RecB m i G6 kvs ks js := ⟨RB.k, RB.nd, RB.ok, RB.d.same (Same.trans g5 g6), RB.g, RB.l⟩
        obtain ⟨ks', js', rb'⟩ := rb.put hl (dv.same g6) gv5
        have kl : kvs.length ≤ 3 := by
          have h1 := congrArg List.length RB.k
          rw [List.length_map, List.length_map, RB.kl] at h1
          have := RB.l
          omega
        refine ⟨D, _, rfl, DPut.k (k := .inr (TX l)) S6.hd (by omega), G6, a5, _, ks', js', _, S6.put, Same.trans g3 (Same.trans g5 g6), rb', rfl⟩
      · rintro σ H3 ⟨G1, a1, kvs, ks, js, y, S3, g3, RB, rfl⟩
        obtain ⟨S4, g4⟩ := S3.drop
        have kn : (kvs.map (·.1)).Nodup := by
          rw [RB.k]
          have key : ∀ l : List (List Nat), l.Nodup → (l.map fun k => (Sum.inr (TX k) : Key)).Nodup := by
            intro l
            induction l with
            | nil => intro _; exact List.nodup_nil
            | cons x l ih =>
              intro h
              rw [List.nodup_cons] at h
              rw [List.map_cons, List.nodup_cons]
              refine ⟨fun z => ?_, ih h.2⟩
              obtain ⟨y, hy, e⟩ := List.mem_map.mp z
              exact h.1 (by rw [← TX_inj (Sum.inr.inj e)]; exact hy)
          exact key ks RB.nd
        refine ⟨_, rfl, q (.ref D) (.re ks js) _ H3 a1 S4 (Same.trans g3 g4) (rec_to (tks := kvs) ⟨upd_same, kn, RB.k, RB.d.same g4⟩) (good_re RB.ok RB.nd RB.kl RB.g (by have := RB.l; omega))⟩
theorem lv_N (T : Txt K w mg C) : ∀ n : Nat, Cal P w K mg base (n + 3) "_law_value" (spLVal n)
  | 0 => lv_S T (n := 0) (sp := spFalse) (fun m h => by omega) (lv_0 T)
  | n + 1 => lv_S T (n := n + 1) (sp := spLVal n) (fun m h => by rw [Nat.succ.inj h]) (lv_N T n)
theorem sc__law_values : FnScope ["rows", "at", "many", "world", "j"] ["rows", "at", "many"] (defScope s__law_values) := ⟨rfl, rfl, rfl, by decide +kernel, rfl, by decide +kernel, by decide +kernel⟩
def spLVals : Sp := fun vs H Q _ => ∃ (rl : Addr) (zs : List Int) (a m : Int) (G : Hp) (M : List (Addr × HO)), vs = [.ref rl, .int a, .int m] ∧ Sb G H M ∧ G rl = some (.lst (zs.map V.int)) ∧ 0 < zs.length ∧ 0 ≤ m ∧ m ≤ 4 ∧
  ∀ p js G' H', Sb G' H' M → Same G G' → Dq G' (.ref p) (.list (encJs js)) → (∀ j ∈ js, GoodJ 5 j) → (js.length : Int) ≤ m → Q (.ref p) H'
theorem ok_lvs (T : Txt K w mg C) : Cal P w K mg base 9 "_law_values" spLVals := by
  have G_law_value := lv_N (P := P) (base := base) T 5
  refine cal_of T.d__law_values sc__law_values (fun vs H Q E h => ?_) (fun f cdv A outer s H vs Q E hr h => ?_)
  · obtain ⟨rl, zs, a, m, G, M, rfl, _⟩ := h
    rfl
  · obtain ⟨rl, zs, a, m, G, M, rfl, S0, hrl, zl, m0, m4, q⟩ := h
    have big : 100000 < sizeLine := by decide
    refine ⟨_, (pss_cons (ps_set (i := 3) sc__law_values.nd rfl (Or.inr rfl) (pe_disp (pps_cons pe_str (pv 1) (pps_cons pe_str (pe_op op_add (pv 1) pe_int) pps_nil)) (by rfl) (by rfl) (fun z => by cases z) (by decide))) (pss_one (ps_ret (pe_lc (own := [("j", 4)]) (g := gName 4) (tt := tYes) rfl sc__law_values.nd (pi_range1 (by rfl) T.z_range (pa_cons (pv 2) pa_nil)) (blkOk_by (N := ["rows", "at", "many", "world", "j"]) (sc := (defScope s__law_values)) (by decide +kernel)) (fun _ _ _ _ _ => pg_name (i := 4) sc__law_values.nd rfl (Or.inl rfl)) (fun _ _ _ _ _ => pts_nil) (fun _ _ _ _ _ => (pe_c G_law_value hr (by decide) (by rfl) (pa_cons (pv 0) (pa_cons (pv 3) (pa_cons pe_int pa_nil))))))))), ?_⟩
    refine fun d hd => ?_
    refine ⟨_, rfl, _, rfl, _, _, rfl, rfl, upd_same, [(.inr "at", .int a), (.inr "most", .int (a + 25))], rfl, (by show 2 ≤ 15; decide), ?_⟩
    have e : mergeK [] [(.inr "at", .int a), (.inr "most", .int (a + 25))] = wK2 a (a + 25) := rfl
    rw [e]
    have S := S0.add (o := .dK (wK2 a (a + 25))) hd
    have eu : upd (upd H d (.dK [])) d (.dK (wK2 a (a + 25))) = upd H d (.dK (wK2 a (a + 25))) := by
      funext b
      by_cases z : b = d
      · subst z; rw [upd_same, upd_same]
      · rw [upd_ne z, upd_ne z, upd_ne z]
    rw [eu]
    refine ⟨_, rfl, _, rfl, by omega, by omega, fun D hD => ?_⟩
    have S2 := S.add (o := .lst []) hD
    refine lc_it (walk_range (lo := 0) (n := m.toNat)) (fun i H' => ∃ (G1 : Hp) (a1 : Int) (xs : List V) (js : List Jv), Sb G1 H' ((D, .lst xs) :: (d, .dK (wK2 a1 (a + 25))) :: M) ∧ Same G G1 ∧ DqAll G1 xs (encJs js) ∧ (∀ j ∈ js, GoodJ 5 j) ∧ js.length = i) ⟨G, _, [], [], S2, Same.refl _, by simp only [encJs]; exact .nil, (fun _ h => nomatch h), rfl⟩ (fun i H' _ z => trivial) ?_ ?_
    · rintro i x H3 H4 hi ⟨G1, a1, xs, js, S3, g3, da, gj, jl⟩ ⟨rfl, rfl⟩
      refine ⟨rfl, ?_⟩
      refine ⟨_, rfl, _, rfl, rl, d, 0, zs, G1, (D, .lst xs) :: M, a1, a + 25, rfl, by decide, S3.swap, g3 _ _ hrl, zl, fun v j G5 H5 a5 S5 g5 dv gv5 => ?_⟩
      have S5 := S5.swap
      have xl := da.len
      rw [encJs_len] at xl
      refine ⟨xs, S5.hd, by omega, G5, a5, xs ++ [v], js ++ [j], S5.put, Same.trans g3 g5, ?_, fun y hy => ?_, by simp [jl]⟩
      · rw [encJs_app]
        exact dqAll_ap (da.same g5) (by simp only [encJs]; exact .cons dv .nil)
      · rcases List.mem_append.mp hy with hy | hy
        · exact gj y hy
        · rw [List.mem_singleton.mp hy]; exact gv5
    · rintro H3 ⟨G1, a1, xs, js, S3, g3, da, gj, jl⟩
      obtain ⟨S4, g4⟩ := S3.drop
      obtain ⟨S5, g5⟩ := S4.drop
      exact q D js _ H3 S5 (Same.trans g3 (Same.trans g4 g5)) (.lst (g5 _ _ upd_same) (da.same (Same.trans g4 g5))) gj (by omega)
end
end VL

set_option Elab.async false
set_option linter.all false
set_option pp.maxSteps 700
set_option maxRecDepth 100000
set_option maxHeartbeats 4000000
namespace VL
open PySem PySem.Spec PyProof.Rows L2 NdefX
/-! ### recordings -/
abbrev CallM := Option (List Nat × List Jv)
abbrev root_ : List Nat := [114, 111, 111, 116]
theorem k_root : ("root" : Str) = TX root_ := rfl
def beg : CallM → Bool
  | some (n, [.tx _, .re _ _]) => decide (n = root_)
  | _ => false
def okE (k : Nat) (c : CallM) : Bool := if k = 0 then beg c else match c with
  | none => false
  | some (n, _) => !decide (n = root_)
def fw : Nat → List CallM → Option Nat
  | _, [] => none
  | k, c :: cs => if okE k c then fw (k + 1) cs else some k
def rrOut (cs : List CallM) : Option Nat := if cs = [] then some 0 else fw 0 cs
theorem fw_app : ∀ (j : Nat) (a b : List CallM), fw j (a ++ b) = match fw j a with
    | some k => some k
    | none => fw (j + a.length) b
  | j, [], b => rfl
  | j, c :: a, b => by
    show (if okE j c then fw (j + 1) (a ++ b) else some j) = match (if okE j c then fw (j + 1) a else some j) with
      | some k => some k
      | none => fw (j + (a.length + 1)) b
    cases okE j c with
    | true =>
      rw [if_pos rfl, if_pos rfl, fw_app (j + 1) a b, show j + 1 + a.length = j + (a.length + 1) by omega]
    | false =>
      rw [if_neg (by decide), if_neg (by decide)]
theorem fw_one (j : Nat) (a : List CallM) (c : CallM) : fw j (a ++ [c]) = match fw j a with
    | some k => some k
    | none => if okE (j + a.length) c then none else some (j + a.length) := by
  rw [fw_app]
  cases fw j a <;> rfl
/-- a call or None, as read -/
def CallV (H : Hp) : V → CallM → Prop
  | v, none => v = .non
  | v, some (n, js) => ∃ t a, v = .ref t ∧ H t = some (.tup [.str (TX n), .ref a]) ∧ Dq H (.ref a) (.list (encJs js))
theorem CallV.same {H H' : Hp} {v : V} {c : CallM} (h : CallV H v c) (s : Same H H') : CallV H' v c := by
  cases c with
  | none => exact h
  | some c =>
    obtain ⟨t, a, e, h1, h2⟩ := h
    exact ⟨t, a, e, s _ _ h1, h2.same s⟩
structure CallsV (H : Hp) (us : List V) (cs : List CallM) : Prop where
  len : us.length = cs.length
  each : ∀ (i : Nat) (u : V) (c : CallM), us[i]? = some u → cs[i]? = some c → CallV H u c
theorem CallsV.nil {H : Hp} : CallsV H [] [] := ⟨rfl, fun i u c h => by simp at h⟩
theorem CallsV.same {H H' : Hp} {us : List V} {cs : List CallM} (h : CallsV H us cs) (s : Same H H') : CallsV H' us cs := ⟨h.len, fun i u c h1 h2 => (h.each i u c h1 h2).same s⟩
theorem CallsV.snoc {H : Hp} {us : List V} {cs : List CallM} {u : V} {c : CallM} (h : CallsV H us cs) (hu : CallV H u c) : CallsV H (us ++ [u]) (cs ++ [c]) := by
  refine ⟨by rw [List.length_append, List.length_append, h.len]; rfl, fun i v d h1 h2 => ?_⟩
  by_cases e : i < us.length
  · rw [List.getElem?_append_left e] at h1
    rw [List.getElem?_append_left (by rw [← h.len]; exact e)] at h2
    exact h.each i v d h1 h2
  · have l1 := (List.getElem?_eq_some_iff.mp h1).1
    rw [List.length_append, List.length_singleton] at l1
    have : i = us.length := by omega
    subst this
    rw [List.getElem?_append_right (Nat.le_refl _), Nat.sub_self] at h1
    rw [List.getElem?_append_right (by rw [h.len]; exact Nat.le_refl _), h.len, Nat.sub_self] at h2
    cases h1
    cases h2
    exact hu
abbrev fsI (i : Nat) : List (Str × V) := [("index", .int (i : Int))]
def spIRInit (D : Addr) : Sp := fun vs H Q _ => ∃ (a : Addr) (i : Nat), vs = [.ref a, .int (i : Int)] ∧ H a = some (exo a D none) ∧ i ≤ 1000000 ∧
  ∀ dx H', H dx = none → dx ≠ a → H' a = some (exo a D (some dx)) → H' dx = some (exd dx (fsI i)) → (∀ b o, H b = some o → b ≠ a → H' b = some o) → Q .non H'
def spBeg : Sp := fun vs H Q _ => ∃ (v : V) (c : CallM), vs = [v] ∧ CallV H v c ∧ Q (.bl (beg c)) H
def ErrI (D : Addr) (E : XK) (H : Hp) (i : Nat) : Prop := ∀ d H', Same H H' → H' d = some (.xd (fsI i)) → E (.ref D) (some d) H'
def spRR (D : Addr) : Sp := fun vs H Q E => ∃ (p : Addr) (Ts : List (List Nat)), vs = [.ref p] ∧ H p = some (.lst (Ts.map fun R => .str (TX R))) ∧ (∀ R ∈ Ts, R.length ≤ 1000000) ∧ Ts.length ≤ 100 ∧
  (rrOut (Ts.map readC) = none → ∀ q us H', Same H H' → H' q = some (.lst us) → CallsV H' us (Ts.map readC) → Q (.ref q) H') ∧ (∀ i, rrOut (Ts.map readC) = some i → ErrI D E H i)
theorem len_appI (a b : Str) : (a ++ b).length = a.length + b.length := by
  obtain ⟨a⟩ := a
  obtain ⟨b⟩ := b
  show (a ++ b).size = a.size + b.size
  exact Array.size_append
theorem log6 {n : Nat} (h : n ≤ 1000000) : (n : Int).natAbs.log2 < 1920 := by
  rw [Int.natAbs_natCast]
  by_cases e : n = 0
  · rw [e]
    decide
  · exact Nat.lt_of_lt_of_le ((Nat.log2_lt e).mpr (Nat.lt_of_le_of_lt h (by decide : 1000000 < 2 ^ 20))) (by decide)
theorem dec6 {n : Nat} (h : n ≤ 1000000) : (Str.ofString (toString (n : Int))).length ≤ 7 := by
  rw [SX.num_S n]
  show (TX (TL.numL n)).length ≤ 7
  rw [TX_len]
  exact TL.numL_len (by decide) (Nat.lt_of_le_of_lt h (by decide))
section
variable {P : Program} {w : World} {K : PySem.W.Frag} {mg : Str → Option Value} {base : Heap} {C : Ad}
theorem scIR : NScope ["self", "index", "__class__"] ["self", "index"] ["__class__"] (defScope s_InvalidRecording___init__) := nscope_by (by decide +kernel)
theorem ok_IRInit (TE : TxtE P K w mg C) : ∃ (fI : Addr) (fd : FuncData), FnOk P w K mg base CX0 1 fI fd ["self", "index"] (spIRInit C.InvalidRecording) ∧ PySem.W.findIn K (.ref C.InvalidRecording) "__init__" = some (some (.ref fI)) ∧ PySem.W.typeIn K (.ref fI) = some (.type "function") ∧ Binds K fd ["self", "index"] [] := by
  have TI := TE.xi_InvalidRecording
  obtain ⟨fI, cc, cda, kV, doc, pm, ct, an, S, h1, h2, hb⟩ := TI.init
  have na := TI.na "index" (by simp)
  refine ⟨fI, _, ?_, h1, h2, hb⟩
  refine fn_sup S TI.o rfl scIR (by rfl) rfl (by rfl) (fun _ => rfl) (fun _ => rfl) (fun _ => ⟨_, _, rfl⟩) (fun _ => rfl) (fun vs H Q E h => ?_) (fun A outer s H vs Q E hr h => ?_)
  · obtain ⟨a, i, rfl, _⟩ := h
    rfl
  · obtain ⟨a, i, rfl, ha, hi, k⟩ := h
    refine ⟨_, _, pa_cons (pe_joined (.cons pe_str (.cons (pe_fmt (pv 1)) .nil))) pa_nil, pss_one (ps_ost (pv 0) (pv 1)), a, _, rfl, ha, ?_⟩
    have big : ∀ {n : Nat}, n ≤ 5000 → n ≤ sizeLine := fun h => Nat.le_trans h (by decide)
    have l1 := dec6 hi
    have e1 : (Str.ofString "wrong entry ").length = 12 := by decide +kernel
    have e0 : (Str.empty).length = 0 := by decide +kernel
    refine ⟨_, rfl, (by rw [len_appI]; exact big (by omega)), _, rfl, .inr ⟨_, rfl, log6 hi, _, rfl, (by rw [len_appI, len_appI]; exact big (by omega)), ?_⟩⟩
    refine ⟨by show 1 ≤ 1000; decide, ha, ?_⟩
    refine ⟨_, rfl, _, rfl, a, C.InvalidRecording, rfl, TI.o, na, .inl ⟨ha, fun dx hdx nda => ?_⟩⟩
    refine k dx _ hdx nda upd_same (by rw [upd_ne nda, upd_same]) fun b o e n => ?_
    have nbd : b ≠ dx := ne_of_none e hdx
    rw [upd_ne n, upd_ne nbd]
    exact e
theorem sc_is_beginning : FnScope ["call", "name", "values"] ["call"] (defScope s_is_beginning) := ⟨rfl, rfl, rfl, by decide +kernel, rfl, by decide +kernel, by decide +kernel⟩
theorem ok_beg (T : Txt K w mg C) : Cal P w K mg base 2 "is_beginning" spBeg := by
  have Gis_text := ok_is_text (P := P) (base := base) T
  have Gis_record := ok_is_record (P := P) (base := base) T
  refine cal_of T.d_is_beginning sc_is_beginning (fun vs H Q E h => ?_) (fun f cdv A outer s H vs Q E hr h => ?_)
  · obtain ⟨v, c, rfl, _⟩ := h
    rfl
  · obtain ⟨v, c, rfl, hc, q⟩ := h
    refine ⟨_, (pss_cons (ps_if (pt_cmp (pc_isN (pv 0))) (pss_one (ps_ret pe_bl)) pss_nil) (pss_cons (ps_asg (pv 0) (pg_tup rfl (pgs_cons (pg_name (i := 1) sc_is_beginning.nd rfl (Or.inl rfl)) (pgs_cons (pg_name (i := 2) sc_is_beginning.nd rfl (Or.inl rfl)) pgs_nil)))) (pss_one (ps_ret (pe_and (pe_cmpR op_eq (pv 1) pe_str (nomark _)) (pe_and (pe_cmpR op_eq (pe_callB call_len_seq (by rfl) T.z_len PySem.boot_len (pa_cons (pv 2) pa_nil)) pe_int (nomark _)) (pe_and (pe_c Gis_text hr (by decide) (by rfl) (pa_cons (pe_ix ix_list (pv 2) pe_int (fun _ _ => rfl)) pa_nil)) (pe_one (pe_c Gis_record hr (by decide) (by rfl) (pa_cons (pe_ix ix_list (pv 2) pe_int (fun _ _ => rfl)) pa_nil)))))))))), ?_⟩
    cases c with
    | none =>
      have hc : v = .non := hc
      subst hc
      exact ⟨_, rfl, true, rfl, iteT q⟩
    | some c =>
      obtain ⟨n, js⟩ := c
      obtain ⟨t, a, rfl, ht, da⟩ := hc
      obtain ⟨b, xs, e, hb, dx⟩ := dq_list da
      cases e
      refine ⟨_, rfl, false, rfl, iteF ?_⟩
      refine ⟨_, rfl, t, _, rfl, SqT.of ht, rfl, _, _, rfl, _, _, rfl, rfl, ?_⟩
      refine ⟨_, rfl, rfl, _, rfl, ?_⟩
      rw [k_root, vstr_TX]
      by_cases en : n = root_
      · rw [decide_eq_true en]
        refine iteT ?_
        have xl := dx.len
        rw [encJs_len] at xl
        refine ⟨_, rfl, a, xs, rfl, .inl (SqL.of hb), rfl, _, rfl, ?_⟩
        match js, dx, xl, q with
        | [], dx, xl, q => rw [xl]; exact iteF q
        | [j0], dx, xl, q =>
          have eb : beg (some (n, [j0])) = false := by cases j0 <;> rfl
          rw [eb] at q
          rw [xl]
          exact iteF q
        | j0 :: j1 :: j2 :: r, dx, xl, q =>
          have eb : beg (some (n, j0 :: j1 :: j2 :: r)) = false := by cases j0 <;> first | rfl | (cases j1 <;> rfl)
          rw [eb] at q
          refine ite2 (fun c => absurd (of_decide_eq_true c) ?_) (fun _ => ?_)
          · rw [xl]
            simp only [List.length_cons, V.int.injEq]
            omega
          · exact q
        | [j0, j1], dx, xl, q =>
          simp only [encJs] at dx
          cases dx with
          | @cons v0 xs1 _ _ d0 dr =>
            cases dr with
            | @cons v1 xs2 _ _ d1 dr2 =>
              cases dr2
              rw [xl]
              refine iteT ?_
              refine ⟨_, rfl, a, _, _, _, rfl, rfl, SqL.of hb, rfl, v0, j0, rfl, d0, _, rfl, ?_⟩
              cases j0 with
              | nul => exact iteF q
              | bo b => exact iteF q
              | nu i => exact iteF q
              | li vs => exact iteF q
              | re ks vs => exact iteF q
              | tx l =>
                refine iteT ⟨_, rfl, a, _, _, _, rfl, rfl, SqL.of hb, rfl, v1, j1, rfl, d1, ?_⟩
                cases j1 with
                | nul => exact q
                | bo b => exact q
                | nu i => exact q
                | tx l => exact q
                | li vs => exact q
                | re ks vs =>
                  have : beg (some (n, [.tx l, .re ks vs])) = true := decide_eq_true en
                  rw [this] at q
                  exact q
      · rw [decide_eq_false en]
        refine iteF ?_
        have : beg (some (n, js)) = false := by
          unfold beg
          split
          · rename_i e
            simp only [Option.some.injEq, Prod.mk.injEq] at e
            rw [← e.1]
            exact decide_eq_false en
          · rfl
        rw [this] at q
        exact q
end
end VL

set_option Elab.async false
set_option linter.all false
set_option pp.maxSteps 700
set_option maxRecDepth 100000
set_option maxHeartbeats 4000000
namespace VL
open PySem PySem.Spec PyProof.Rows L2
theorem fw_take {cs : List CallM} {i : Nat} {c : CallM} (h : fw 0 (cs.take i) = none) (hc : cs[i]? = some c) : (okE i c = true → fw 0 (cs.take (i + 1)) = none) ∧ (okE i c = false → fw 0 cs = some i) := by
  have hi := (List.getElem?_eq_some_iff.mp hc).1
  have tk : cs.take (i + 1) = cs.take i ++ [c] := by rw [List.take_add_one, hc]; rfl
  have ll : (cs.take i).length = i := by rw [List.length_take]; omega
  have f1 := fw_one 0 (cs.take i) c
  rw [h, ← tk, ll] at f1
  refine ⟨fun e => by rw [f1]; simp [e], fun e => ?_⟩
  have f2 := fw_app 0 (cs.take (i + 1)) (cs.drop (i + 1))
  rw [List.take_append_drop, f1] at f2
  rw [f2]
  simp [e]
section
variable {P : Program} {w : World} {K : PySem.W.Frag} {mg : Str → Option Value} {base : Heap} {C : Ad}
theorem sc_read_recording : FnScope ["texts", "calls", "index", "call", "text"] ["texts"] (defScope s_read_recording) := ⟨rfl, rfl, rfl, by decide +kernel, rfl, by decide +kernel, by decide +kernel⟩
theorem ok_rr (TE : TxtE P K w mg C) : CalX P w K mg base 70 "read_recording" (spRR C.InvalidRecording) := by
  have T := TE.t
  have Gread_call := ok_rc (P := P) (base := base) T
  have Gis_beginning := ok_beg (P := P) (base := base) T
  obtain ⟨fI, fd, FI, iI, tI, bI⟩ := ok_IRInit (w := w) (base := base) TE
  have IO := TE.xi_InvalidRecording.o
  have gI := TE.xi_InvalidRecording.g
  refine calX_of T.d_read_recording sc_read_recording (fun vs H Q E h => ?_) (fun f cdv A outer s H vs Q E hr h => ?_)
  · obtain ⟨p, Ts, rfl, _⟩ := h
    rfl
  · obtain ⟨p, Ts, rfl, hp, hT, hl, k1, k2⟩ := h
    have big : 10000000 < sizeLine := by decide
    have key : ∀ (H1 : Hp) (a d : Addr) (H' : Hp) (i : Nat), Same H H1 → H1 a = none → H1 d = none → d ≠ a → (∀ b o, (upd H1 a (exo a C.InvalidRecording none)) b = some o → b ≠ a → H' b = some o) → rrOut (Ts.map readC) = some i → E (.ref C.InvalidRecording) (some d) (upd (del H' a) d (.xd (fsI i))) := fun H1 a d H' i s1 ha hd nda kp ho => by
      refine k2 i ho d _ (fun b o e => ?_) upd_same
      have e1 := s1 _ _ e
      have nba : b ≠ a := ne_of_none e1 ha
      have e2 := kp b o (by rw [upd_ne nba]; exact e1) nba
      rw [upd_ne (ne_of_none e1 hd), del_ne nba]
      exact e2
    refine ⟨_, (pss_cons (ps_setLc (i := 1) (own := [("text", 4)]) (g := gName 4) (tt := tYes) rfl sc_read_recording.nd rfl rfl (sw_true rfl rfl rfl (by decide +kernel)) (pi_list (pv 0)) (blkOk_by (N := ["texts", "calls", "index", "call", "text"]) (sc := (defScope s_read_recording)) (by decide +kernel)) (fun _ _ _ _ _ => pg_name (i := 4) sc_read_recording.nd rfl (Or.inl rfl)) (fun _ _ _ _ _ => pts_nil) (fun _ _ _ _ _ => (pe_c Gread_call hr (by decide) (by rfl) (pa_cons (pv 4) pa_nil)))) (pss_cons (ps_if (PW.pt (pw_or (pt_not (pt_truth (pv 1) (fun _ => rfl))) (pw_or1 (pt_not (pt_val (pe_c Gis_beginning hr (by decide) (by rfl) (pa_cons (pe_ix ix_list (pv 1) pe_int (fun _ _ => rfl)) pa_nil))))))) (pss_one (ps_raise rfl takeX (pmk_oex IO iI tI FI (hr.mono (by decide)) bI .nil pass0 rfl gI (pa_cons pe_int pa_nil)))) pss_nil) (pss_cons (ps_for (passes_of rfl) rfl (pi_enum (by rfl) T.z_enumerate (pa_cons (pv 1) pa_nil)) (pg_tup rfl (pgs_cons (pg_name (i := 2) sc_read_recording.nd rfl (Or.inl rfl)) (pgs_cons (pg_name (i := 3) sc_read_recording.nd rfl (Or.inl rfl)) pgs_nil))) (pss_one (ps_if (PW.pt (pw_or (pt_cmp (pc_isN (pv 3))) (pw_or1 (PW.pt (pw_and (pt_cmpR op_gt (pv 2) pe_int (nomark _)) (pw_and1 (pt_cmpR op_eq (pe_ix ix_tup (pv 3) pe_int (fun _ _ => rfl)) pe_str (nomark _)))))))) (pss_one (ps_raise rfl takeX (pmk_oex IO iI tI FI (hr.mono (by decide)) bI .nil pass0 rfl gI (pa_cons (pv 2) pa_nil)))) pss_nil))) (pss_one (ps_ret (pv 1)))))), ?_⟩
    refine ⟨_, rfl, p, rfl, ⟨_, SqL.of hp⟩, fun D hD => ?_⟩
    refine lc_it (walk_list (K := K) (a := p) (xs := Ts.map fun R => V.str (TX R))) (fun i H' => ∃ (G : Hp) (us : List V), Sb G H' [(D, .lst us)] ∧ Same H G ∧ CallsV G us ((Ts.take i).map readC)) ⟨H, [], (Sb.nil (H := H)).add hD, Same.refl _, by rw [List.take_zero]; exact CallsV.nil⟩ (fun i H' _ ⟨G, us, S, s1, _⟩ => SqL.of (S.s _ _ (s1 _ _ hp))) ?_ ?_
    · rintro i x H1 H2 hi ⟨G, us, S, s1, cv⟩ ⟨rfl, hx⟩
      rw [List.length_map] at hi
      have hTi := List.getElem?_eq_getElem hi
      rw [List.getElem?_map, hTi] at hx
      cases hx
      have hm : Ts[i] ∈ Ts := List.getElem_mem hi
      have tk : (Ts.take (i + 1)).map readC = (Ts.take i).map readC ++ [readC Ts[i]] := by rw [List.take_add_one, hTi, List.map_append]; rfl
      have ul := cv.len
      rw [List.length_map, List.length_take] at ul
      refine ⟨rfl, ?_⟩
      refine ⟨_, rfl, Ts[i], G, [(D, .lst us)], rfl, S, hT _ hm, fun n js e t a G3 H3 S3 g3 ht da => ?_, fun e G3 H3 S3 g3 => ?_⟩
      · exact ⟨us, S3.hd, by omega, G3, us ++ [.ref t], S3.put, Same.trans s1 g3, by rw [tk]; exact (cv.same g3).snoc (by rw [e]; exact ⟨t, a, rfl, ht, da⟩)⟩
      · exact ⟨us, S3.hd, by omega, G3, us ++ [.non], S3.put, Same.trans s1 g3, by rw [tk]; exact (cv.same g3).snoc (by rw [e]; rfl)⟩
    · rintro H1 ⟨G, us, S, s1, cv⟩
      rw [List.length_map, List.take_length] at cv
      have hD1 := S.hd
      have sA := Same.trans s1 S.s
      have cv1 := cv.same S.s
      have ul := cv.len
      rw [List.length_map] at ul
      cases us with
      | nil =>
        have e0 : Ts = [] := List.length_eq_zero_iff.mp ul.symm
        refine ⟨_, rfl, false, .inl ⟨[], SqL.of hD1, rfl⟩, iteT ?_⟩
        refine ⟨by show 1 ≤ 1000; decide, fun a ha => ?_⟩
        refine ⟨a, 0, rfl, upd_same, by decide, fun d H' hd nda e1 e2 kp => ?_⟩
        have hda : H1 d = none := by rw [upd_ne nda] at hd; exact hd
        exact ⟨rfl, d, _, e1, e2, hda, key _ a d H' 0 sA ha hda nda kp (by rw [e0]; rfl)⟩
      | cons u us =>
        obtain ⟨c0, cs, hcs⟩ : ∃ c0 cs, Ts.map readC = c0 :: cs := by
          cases Ts with
          | nil => simp at ul
          | cons R r => exact ⟨_, _, rfl⟩
        have hro : rrOut (Ts.map readC) = fw 0 (c0 :: cs) := by rw [hcs]; rfl
        have cl : (c0 :: cs).length = (u :: us).length := by rw [← hcs]; exact cv1.len.symm
        rw [hcs] at cv1
        refine ⟨_, rfl, true, .inl ⟨_, SqL.of hD1, rfl⟩, iteF ?_⟩
        refine ⟨_, rfl, D, _, _, _, rfl, rfl, SqL.of hD1, atI_hd u us, u, c0, rfl, cv1.each 0 u c0 rfl rfl, _, rfl, ?_⟩
        cases hb : beg c0 with
        | false =>
          refine iteT ?_
          refine ⟨by show 1 ≤ 1000; decide, fun a ha => ?_⟩
          refine ⟨a, 0, rfl, upd_same, by decide, fun d H' hd nda e1 e2 kp => ?_⟩
          have hda : H1 d = none := by rw [upd_ne nda] at hd; exact hd
          exact ⟨rfl, d, _, e1, e2, hda, key _ a d H' 0 sA ha hda nda kp (by
            rw [hro]
            show (if okE 0 c0 then _ else _) = _
            have : okE 0 c0 = false := hb
            rw [this]
            rfl)⟩
        | true =>
          refine iteF ?_
          refine ⟨_, rfl, D, _, rfl, SqL.of hD1, ?_⟩
          refine for_it (walk_enum (K := K) (a := D) (xs := u :: us)) (fun i σ H' => Same H1 H' ∧ fw 0 ((c0 :: cs).take i) = none ∧ ∃ y2 y3 : Option V, σ = [some (.ref p), some (.ref D), y2, y3, none]) ⟨Same.refl _, rfl, _, _, rfl⟩ (fun i σ H' _ z => SqL.of (z.1 _ _ hD1)) ?_ ?_
          · rintro i x σ H2 H3 hi ⟨s2, fwi, y2, y3, rfl⟩ ⟨t, x1, x2, rfl, ht, rfl, e1, e2⟩
            obtain rfl := Option.some.inj e1
            have s3 := Sm.new (o := .tup [.int (i : Nat), x2]) ht
            have hci := List.getElem?_eq_getElem (show i < (c0 :: cs).length by rw [cl]; exact hi)
            have cvi := ((cv1.each i x2 _ e2 hci).same s2).same s3
            obtain ⟨ft, ff⟩ := fw_take fwi hci
            have hil : i ≤ 1000000 := by
              have h1 : i < (u :: us).length := hi
              rw [← cl, ← hcs, List.length_map] at h1
              omega
            generalize (c0 :: cs)[i]'(by rw [cl]; exact hi) = ci at hci cvi ft ff
            refine ⟨t, _, rfl, SqT.of upd_same, rfl, _, _, rfl, _, _, rfl, rfl, ?_⟩
            cases ci with
            | none =>
              have cvi : x2 = .non := cvi
              subst cvi
              refine ⟨_, rfl, true, rfl, iteT ?_⟩
              refine ⟨_, rfl, by show 1 ≤ 1000; decide, fun a ha => ?_⟩
              refine ⟨a, i, rfl, upd_same, hil, fun d H' hd nda e1 e2 kp => ?_⟩
              have hda : (upd H2 t (.tup [.int (i : Nat), .non])) d = none := by rw [upd_ne nda] at hd; exact hd
              exact ⟨rfl, d, _, e1, e2, hda, key _ a d H' i (Same.trans sA (Same.trans s2 s3)) ha hda nda kp (by rw [hro]; exact ff (by unfold okE; split <;> rfl))⟩
            | some c =>
              obtain ⟨n, js⟩ := c
              obtain ⟨tt, aa, rfl, htt, daa⟩ := cvi
              refine ⟨_, rfl, false, rfl, iteF ?_⟩
              refine ⟨_, rfl, _, _, rfl, rfl, _, rfl, ite2 (fun k3 => ?_) (fun k3 => ?_)⟩
              · have i0 : i ≠ 0 := by
                  have := of_decide_eq_true k3
                  omega
                refine ⟨_, rfl, tt, _, _, _, rfl, rfl, SqT.of htt, rfl, rfl, _, rfl, ?_⟩
                rw [k_root, vstr_TX]
                by_cases en : n = root_
                · rw [decide_eq_true en]
                  refine iteT ?_
                  refine ⟨_, rfl, by show 1 ≤ 1000; decide, fun a ha => ?_⟩
                  refine ⟨a, i, rfl, upd_same, hil, fun d H' hd nda e1 e2 kp => ?_⟩
                  have hda : (upd H2 t (.tup [.int (i : Nat), .ref tt])) d = none := by rw [upd_ne nda] at hd; exact hd
                  exact ⟨rfl, d, _, e1, e2, hda, key _ a d H' i (Same.trans sA (Same.trans s2 s3)) ha hda nda kp (by
                    rw [hro]
                    refine ff ?_
                    unfold okE
                    rw [if_neg i0]
                    simp [en])⟩
                · rw [decide_eq_false en]
                  refine iteF ?_
                  refine ⟨Same.trans s2 s3, ft ?_, _, _, rfl⟩
                  unfold okE
                  rw [if_neg i0]
                  simp [en]
              · have i0 : i = 0 := by
                  have : ¬ (0 : Int) < (i : Nat) := fun z => k3 (decide_eq_true z)
                  omega
                subst i0
                refine ⟨Same.trans s2 s3, ft ?_, _, _, rfl⟩
                have : c0 = some (n, js) := Option.some.inj hci
                rw [← this]
                exact hb
          · rintro σ H2 ⟨s2, fwi, y2, y3, rfl⟩
            rw [← cl, List.take_length] at fwi
            exact ⟨_, rfl, k1 (by rw [hro]; exact fwi) D (u :: us) H2 (Same.trans sA s2) (s2 _ _ hD1) (by rw [hcs]; exact cv1.same s2)⟩
end
end VL

set_option Elab.async false
set_option linter.all false
set_option pp.maxSteps 700
set_option maxRecDepth 100000
set_option maxHeartbeats 4000000
namespace VL
open PySem PySem.Spec PyProof.Rows L2
abbrev app_ : List Nat := [65, 112, 112]
theorem k_app : ("App" : Str) = TX app_ := rfl
abbrev jsA : List Jv := [.tx app_, .re [[97]] [.nu 1]]
theorem call_len2 {nm : List Nat} {js : List Jv} (hn : nm.length ≤ 20) (h : ∀ j ∈ js, (wr j).length ≤ 50000) (hl : js.length ≤ 4) : (wr (.li (.tx nm :: js))).length ≤ 300000 := by
  have e := eTx_le nm
  have a : ∀ l ∈ wrs (.tx nm :: js), l.length ≤ 50000 := fun l hl => by
    simp only [wrs] at hl
    rcases List.mem_cons.mp hl with hl | hl
    · subst hl
      simp only [wr, qT, List.length_cons, List.length_append, List.length_nil]
      omega
    · rw [wrs_map] at hl
      obtain ⟨j, hj, rfl⟩ := List.mem_map.mp hl
      exact h j hj
  have f := flat_le a
  rw [wrs_map, List.length_map, List.length_cons] at f
  have := Nat.mul_le_mul_right 50001 (show js.length + 1 ≤ 5 by omega)
  rw [← wrs_map] at f
  have e1 : wr (.li (.tx nm :: js)) = 91 :: (sepJ (wrs (.tx nm :: js)) ++ [93]) := by simp only [wr]
  rw [e1]
  simp only [List.length_cons, List.length_append, List.length_nil]
  omega
def spFirst : Sp := fun vs H Q _ => ∃ (row : Int) (p : Addr) (js : List Jv), vs = [.int row, .ref p] ∧ Dq H (.ref p) (.list (encJs js)) ∧ (∀ j ∈ js, GoodJ 5 j) ∧ js.length ≤ 2 ∧
  ∀ t R b H', Same H H' → H' t = some (.tup [.str (TX R), .bl b]) → R.length ≤ 300000 → b = okE 0 (readC R) → (b = true → readC R = some (root_, jsA)) → Q (.ref t) H'
theorem rd_sp : readC [91, 34, 114, 111, 111, 116, 34, 44, 34, 65, 112, 112, 34, 44, 123, 125, 32, 93] = none := rfl
theorem k_sp : ("[\"root\",\"App\",{} ]" : Str) = TX [91, 34, 114, 111, 111, 116, 34, 44, 34, 65, 112, 112, 34, 44, 123, 125, 32, 93] := rfl
theorem k_work : ("work" : Str) = TX [119, 111, 114, 107] := rfl
theorem gjA : gvs jsA := by
  simp only [gvs, gv]
  exact ⟨trivial, ⟨rfl, by decide, by decide +kernel, trivial⟩, trivial⟩
theorem gj0 {r : List Jv} (h : gvs r) : gvs (.tx app_ :: .re [] [] :: r) := by
  simp only [gvs, gv]
  exact ⟨trivial, ⟨rfl, List.nodup_nil, trivial⟩, h⟩
theorem dq0 {H : Hp} {d : Addr} (h : H d = some (.dK [])) : Dq H (.ref d) (encJ (.re [] [])) := rec_to (tks := []) ⟨h, List.nodup_nil, rfl, by simp only [encJs]; exact .nil⟩
theorem dqA {H : Hp} {d : Addr} (h : H d = some (.dK [(.inr "a", .int 1)])) : Dq H (.ref d) (encJ (.re [[97]] [.nu 1])) := rec_to (tks := [(.inr "a", .int 1)]) ⟨h, by simp, rfl, by simp only [encJs, encJ]; exact .cons (.int 1) .nil⟩
section
variable {P : Program} {w : World} {K : PySem.W.Frag} {mg : Str → Option Value} {base : Heap} {C : Ad}
theorem sc__law_first : FnScope ["row", "values", "kind"] ["row", "values"] (defScope s__law_first) := ⟨rfl, rfl, rfl, by decide +kernel, rfl, by decide +kernel, by decide +kernel⟩
theorem ok_first (T : Txt K w mg C) : Cal P w K mg base 14 "_law_first" spFirst := by
  have Gwrite_call := ok_wc (P := P) (base := base) T 7
  refine cal_of T.d__law_first sc__law_first (fun vs H Q E h => ?_) (fun f cdv A outer s H vs Q E hr h => ?_)
  · obtain ⟨row, p, js, rfl, _⟩ := h
    rfl
  · obtain ⟨row, p, js, rfl, dq, gj, jl, q⟩ := h
    have big : 10000000 < sizeLine := by decide
    have gjs : gvs js := gvs_of fun j hj => (gj j hj).g
    have djs : dvs js ≤ 5 := dvs_of fun j hj => (gj j hj).d
    have gli := good_li gj (by omega)
    refine ⟨_, (pss_cons (ps_set (i := 2) sc__law_first.nd rfl (Or.inl rfl) (pe_op op_mod (pe_callTy call_int1 (by rfl) T.z_int (by decide +kernel) (pa_cons (pv 0) pa_nil)) pe_int)) (pss_cons (ps_if (pt_cmpR op_le (pv 2) pe_int (nomark _)) (pss_one (ps_ret (pe_tup (pa_cons (pe_c Gwrite_call hr (by decide) (by rfl) (pa_cons pe_str (pa_cons (pe_lst (pa_cons pe_str (pa_cons (pe_disp (pps_cons pe_str pe_int pps_nil) (by rfl) (by rfl) (fun z => by cases z) (by decide)) pa_nil))) pa_nil))) (pa_cons pe_bl pa_nil))))) pss_nil) (pss_cons (ps_if (pt_cmpR op_eq (pv 2) pe_int (nomark _)) (pss_one (ps_ret (pe_tup (pa_cons (pe_c Gwrite_call hr (by decide) (by rfl) (pa_cons pe_str (pa_cons (pe_lst (pa_cons pe_str (pa_cons (pv 1) pa_nil))) pa_nil))) (pa_cons pe_bl pa_nil))))) pss_nil) (pss_cons (ps_if (pt_cmpR op_eq (pv 2) pe_int (nomark _)) (pss_one (ps_ret (pe_tup (pa_cons (pe_c Gwrite_call hr (by decide) (by rfl) (pa_cons pe_str (pa_cons (pe_lst (pa_cons pe_str (pa_cons pe_dnewK (pa_cons pe_int pa_nil)))) pa_nil))) (pa_cons pe_bl pa_nil))))) pss_nil) (pss_cons (ps_if (pt_cmpR op_eq (pv 2) pe_int (nomark _)) (pss_one (ps_ret (pe_tup (pa_cons (pe_c Gwrite_call hr (by decide) (by rfl) (pa_cons pe_str (pa_cons (pe_lst (pa_cons pe_str (pa_cons pe_dnewK pa_nil))) pa_nil))) (pa_cons pe_bl pa_nil))))) pss_nil) (pss_one (ps_ret (pe_tup (pa_cons pe_str (pa_cons pe_bl pa_nil)))))))))), ?_⟩
    refine ⟨_, rfl, .inl ⟨_, rfl, _, _, rfl, rfl, (by show (0 : Int) < 7; decide), ?_⟩⟩
    refine ⟨_, rfl, _, _, rfl, rfl, _, rfl, ite2 (fun k1 => ?_) (fun k1 => ?_)⟩
    · refine fun d hd => ?_
      refine ⟨upd_same, [(.inr "a", .int 1)], rfl, (by show 1 ≤ 15; decide), ?_⟩
      have e : mergeK [] [(.inr "a", .int 1)] = [(.inr "a", .int 1)] := rfl
      rw [e]
      refine ⟨by show 2 ≤ sizeLine; decide, fun u hu => ?_⟩
      have sd : Same H (upd (upd H d (.dK [])) d (.dK [(.inr "a", .int 1)])) := fun b o eb => by
        have := ne_of_none eb hd
        rw [upd_ne this, upd_ne this]
        exact eb
      have su := Sm.new (o := .lst [V.str "App", .ref d]) hu
      have cl := call_len2 (nm := root_) (js := jsA) (by decide) (by decide +kernel) (by decide)
      have rd := readC_read (n := root_) (vs := jsA) (List.cons_ne_nil _ _) gjA (by decide +kernel)
      refine ⟨u, root_, jsA, rfl, ?_, gjA, by decide +kernel, by omega, fun H' s' => ?_⟩
      · simp only [encJs]
        refine .lst upd_same (.cons (by simp only [encJ]; exact .str _) (.cons ?_ .nil))
        exact dqA (su _ _ upd_same)
      · refine ⟨by show 2 ≤ sizeLine; decide, fun t ht => ?_⟩
        exact q t _ true _ (Same.trans sd (Same.trans su (Same.trans s' (Sm.new ht)))) upd_same cl (by rw [rd]; rfl) (fun _ => rd)
    refine ⟨_, rfl, rfl, _, rfl, ite2 (fun k2 => ?_) (fun k2 => ?_)⟩
    · refine ⟨_, rfl, by show 2 ≤ sizeLine; decide, fun u hu => ?_⟩
      have su := Sm.new (o := .lst [V.str "App", .ref p]) hu
      have g : gvs [.tx app_, .li js] := by
        simp only [gvs, gv]
        exact ⟨trivial, gjs, trivial⟩
      have dd : dvs [.tx app_, .li js] ≤ 6 := by
        simp only [dvs, dv]
        omega
      have cl := call_len2 (nm := root_) (js := [.tx app_, .li js]) (by decide) (fun j hj => by
        simp only [List.mem_cons, List.not_mem_nil, or_false] at hj
        rcases hj with rfl | rfl
        · decide +kernel
        · exact Nat.le_trans gli.l (by decide +kernel)) (by simp)
      have rd := readC_read (n := root_) (vs := [.tx app_, .li js]) (List.cons_ne_nil _ _) g (by omega)
      refine ⟨u, root_, [.tx app_, .li js], rfl, ?_, g, by omega, by omega, fun H' s' => ?_⟩
      · simp only [encJs]
        refine .lst upd_same (.cons (by simp only [encJ]; exact .str _) (.cons ?_ .nil))
        simp only [encJ]
        exact dq.same su
      · refine ⟨by show 2 ≤ sizeLine; decide, fun t ht => ?_⟩
        exact q t _ false _ (Same.trans su (Same.trans s' (Sm.new ht))) upd_same cl (by rw [rd]; rfl) (fun z => nomatch z)
    refine ⟨_, rfl, rfl, _, rfl, ite2 (fun k3 => ?_) (fun k3 => ?_)⟩
    · refine fun d hd => ?_
      have sd := Sm.new (o := .dK []) hd
      refine ⟨by show 3 ≤ sizeLine; decide, fun u hu => ?_⟩
      have su := Sm.new (o := .lst [V.str "App", .ref d, .int 1]) hu
      have g : gvs [.tx app_, .re [] [], .nu 1] := gj0 (by simp only [gvs, gv]; exact ⟨by decide +kernel, trivial⟩)
      have cl := call_len2 (nm := root_) (js := [.tx app_, .re [] [], .nu 1]) (by decide) (by decide +kernel) (by decide)
      have rd := readC_read (n := root_) (vs := [.tx app_, .re [] [], .nu 1]) (List.cons_ne_nil _ _) g (by decide +kernel)
      refine ⟨u, root_, [.tx app_, .re [] [], .nu 1], rfl, ?_, g, by decide +kernel, by omega, fun H' s' => ?_⟩
      · simp only [encJs]
        refine .lst upd_same (.cons (by simp only [encJ]; exact .str _) (.cons (dq0 (su _ _ upd_same)) (.cons (by simp only [encJ]; exact .int 1) .nil)))
      · refine ⟨by show 2 ≤ sizeLine; decide, fun t ht => ?_⟩
        exact q t _ false _ (Same.trans sd (Same.trans su (Same.trans s' (Sm.new ht)))) upd_same cl (by rw [rd]; rfl) (fun z => nomatch z)
    refine ⟨_, rfl, rfl, _, rfl, ite2 (fun k4 => ?_) (fun k4 => ?_)⟩
    · refine fun d hd => ?_
      have sd := Sm.new (o := .dK []) hd
      refine ⟨by show 2 ≤ sizeLine; decide, fun u hu => ?_⟩
      have su := Sm.new (o := .lst [V.str "App", .ref d]) hu
      have g : gvs [.tx app_, .re [] []] := gj0 trivial
      have cl := call_len2 (nm := [119, 111, 114, 107]) (js := [.tx app_, .re [] []]) (by decide) (by decide +kernel) (by decide)
      have rd := readC_read (n := [119, 111, 114, 107]) (vs := [.tx app_, .re [] []]) (List.cons_ne_nil _ _) g (by decide +kernel)
      refine ⟨u, [119, 111, 114, 107], [.tx app_, .re [] []], rfl, ?_, g, by decide +kernel, by omega, fun H' s' => ?_⟩
      · simp only [encJs]
        refine .lst upd_same (.cons (by simp only [encJ]; exact .str _) (.cons (dq0 (su _ _ upd_same)) .nil))
      · refine ⟨by show 2 ≤ sizeLine; decide, fun t ht => ?_⟩
        exact q t _ false _ (Same.trans sd (Same.trans su (Same.trans s' (Sm.new ht)))) upd_same cl (by rw [rd]; rfl) (fun z => nomatch z)
    · refine ⟨by show 2 ≤ sizeLine; decide, fun t ht => ?_⟩
      exact q t [91, 34, 114, 111, 111, 116, 34, 44, 34, 65, 112, 112, 34, 44, 123, 125, 32, 93] false _ (Sm.new ht) upd_same (by decide) (by rw [rd_sp]; rfl) (fun z => nomatch z)
end
end VL

set_option Elab.async false
set_option linter.all false
set_option pp.maxSteps 700
set_option maxRecDepth 100000
set_option maxHeartbeats 4000000
namespace VL
open PySem PySem.Spec PyProof.Rows L2
def encC (c : List Nat × List Jv) : PyData := .tuple [.str (TX c.1), .list (encJs c.2)]
abbrev SmC (c : List Nat × List Jv) : Prop := Small 2000000 8 (encC c)
theorem smC {n : List Nat} {js : List Jv} (hn : okL 20 n) (h : Small 940000 7 (.list (encJs js))) : SmC (n, js) := (small_tup (n := 2) (c := 940000) (k := 7) (fun d hd => by
  simp only [List.mem_cons, List.not_mem_nil, or_false] at hd
  rcases hd with rfl | rfl
  · exact (small_tx hn).mono (by omega) (Nat.zero_le _)
  · exact h) (Nat.le_refl _)).mono (by omega) (Nat.le_refl _)
theorem smJs {js : List Jv} (h : ∀ j ∈ js, GoodJ 5 j) (hl : js.length ≤ 2) : Small 940000 7 (.list (encJs js)) := (small_list (n := 2) (c := vP 5) (k := 5) (fun d hd => by
  rw [encJs_map] at hd
  obtain ⟨j, hj, rfl⟩ := List.mem_map.mp hd
  exact (h j hj).s) (by rw [encJs_len]; exact hl)).mono (by decide) (by omega)
theorem smA : SmC (root_, jsA) := smC ⟨by decide, by decide⟩ ⟨by decide +kernel, by decide +kernel, by decide +kernel⟩
theorem smAll {Cs : List (List Nat × List Jv)} (h : ∀ c ∈ Cs, SmC c) (hl : Cs.length ≤ 8) : Small 16000018 9 (.list (Cs.map encC)) := (small_list (n := 8) (c := 2000000) (k := 8) (fun d hd => by
  obtain ⟨c, hc, rfl⟩ := List.mem_map.mp hd
  exact h c hc) (by rw [List.length_map]; exact hl)).mono (by omega) (Nat.le_refl _)
def wrV (many : Int) (cs : List CallM) : V := if many = 0 then .int 0 else match fw 0 cs with
  | none => .non
  | some k => .int (k : Nat)
structure Rel (i : Nat) (G : Hp) (Ts : List (List Nat)) (us : List V) (Cs : List (List Nat × List Jv)) : Prop where
  tl : Ts.length = i
  cl : Cs.length = i
  tb : ∀ R ∈ Ts, R.length ≤ 1000000
  d : DqAll G us (Cs.map encC)
  sm : ∀ c ∈ Cs, SmC c
  eq : ∀ (j : Nat) (R : List Nat) (c : List Nat × List Jv), Ts[j]? = some R → Cs[j]? = some c → okE j (readC R) = true → readC R = some c
theorem Rel.snoc {i : Nat} {G : Hp} {Ts : List (List Nat)} {us : List V} {Cs : List (List Nat × List Jv)} (h : Rel i G Ts us Cs) {R : List Nat} {u : V} {c : List Nat × List Jv} (hR : R.length ≤ 1000000) (hu : Dq G u (encC c)) (hs : SmC c) (he : okE i (readC R) = true → readC R = some c) : Rel (i + 1) G (Ts ++ [R]) (us ++ [u]) (Cs ++ [c]) := by
  refine ⟨by simp [h.tl], by simp [h.cl], fun x hx => ?_, ?_, fun x hx => ?_, fun j R' c' h1 h2 h3 => ?_⟩
  · rcases List.mem_append.mp hx with hx | hx
    · exact h.tb x hx
    · rw [List.mem_singleton.mp hx]; exact hR
  · rw [List.map_append]
    exact dqAll_ap h.d (.cons hu .nil)
  · rcases List.mem_append.mp hx with hx | hx
    · exact h.sm x hx
    · rw [List.mem_singleton.mp hx]; exact hs
  · by_cases e : j < i
    · rw [List.getElem?_append_left (by rw [h.tl]; exact e)] at h1
      rw [List.getElem?_append_left (by rw [h.cl]; exact e)] at h2
      exact h.eq j R' c' h1 h2 h3
    · have l1 := (List.getElem?_eq_some_iff.mp h1).1
      rw [List.length_append, h.tl, List.length_singleton] at l1
      have : j = i := by omega
      subst this
      rw [List.getElem?_append_right (by rw [h.tl]; exact Nat.le_refl _), h.tl, Nat.sub_self] at h1
      rw [List.getElem?_append_right (by rw [h.cl]; exact Nat.le_refl _), h.cl, Nat.sub_self] at h2
      cases h1
      cases h2
      exact he h3
theorem Rel.same {i : Nat} {G G' : Hp} {Ts : List (List Nat)} {us : List V} {Cs : List (List Nat × List Jv)} (h : Rel i G Ts us Cs) (s : Same G G') : Rel i G' Ts us Cs := ⟨h.tl, h.cl, h.tb, h.d.same s, h.sm, h.eq⟩
/-- all of a right recording are the calls that were meant -/
theorem fw_none : ∀ (j : Nat) (cs : List CallM), fw j cs = none → ∀ k c, cs[k]? = some c → okE (j + k) c = true
  | j, [], _, k, c, h => by simp at h
  | j, c0 :: cs, h, k, c, hk => by
    have h : (if okE j c0 then fw (j + 1) cs else some j) = none := h
    cases e : okE j c0 with
    | false => rw [e, if_neg (by decide)] at h; cases h
    | true =>
      rw [e, if_pos rfl] at h
      cases k with
      | zero => cases hk; exact e
      | succ k =>
        have := fw_none (j + 1) cs h k c hk
        rw [show j + (k + 1) = j + 1 + k by omega]
        exact this
theorem read_sp {nm : List Nat} {js : List Jv} : readC (wr (.li (.tx nm :: js)) ++ [32]) = none := by
  cases e : readC (wr (.li (.tx nm :: js)) ++ [32]) with
  | none => rfl
  | some p =>
    obtain ⟨n, vs⟩ := p
    have h := (readC_back e).1
    have h1 : (wr (.li (.tx n :: vs))).getLast? = some 93 := by
      have : wr (.li (.tx n :: vs)) = (91 :: sepJ (wrs (.tx n :: vs))) ++ [93] := by simp only [wr]; rfl
      rw [this, List.getLast?_append]
      rfl
    rw [← h, List.getLast?_append] at h1
    cases h1
end VL

set_option Elab.async false
set_option linter.all false
set_option pp.maxSteps 700
set_option maxRecDepth 100000
set_option maxHeartbeats 4000000
namespace VL
open PySem PySem.Spec PyProof.Rows L2
def spLaw (K : PySem.W.Frag) : Sp := fun vs H Q _ => ∃ (a : Addr) (ns : List Int), vs = [.ref a] ∧ SqL K H a (ns.map V.int) ∧ ns.length ≤ 63 ∧ ∀ H', Q (.bl true) H'
theorem mapTX (Ts : List (List Nat)) : (Ts.map fun R => V.str (TX R)) = (Ts.map TX).map V.str := by rw [List.map_map]; rfl
section
variable {P : Program} {w : World} {K : PySem.W.Frag} {mg : Str → Option Value} {base : Heap} {C : Ad}
theorem k_do : ("do" : Str) = TX [100, 111] := rfl
theorem k_sp1 : (" " : Str) = TX [32] := rfl
theorem sc_law : FnScope ["script", "rows", "many", "texts", "calls", "wrong", "k", "values", "text", "right", "call", "kind", "kept", "told", "error"] ["script"] (defScope s_law) := ⟨rfl, rfl, rfl, by decide +kernel, rfl, by decide +kernel, by decide +kernel⟩
theorem ok_law {f : Addr} {fd : FuncData} (F : Fun K "law" "law" s_law f fd) (TE : TxtE P K w mg C) : FnG P w K mg base 80 f fd ["script"] (spLaw K) := by
  have T := TE.t
  have G_law_rows := ok_rows (P := P) (base := base) T
  have G_law_first := ok_first (P := P) (base := base) T
  have G_law_values := ok_lvs (P := P) (base := base) T
  have Gwrite_call := ok_wc (P := P) (base := base) T 7
  have Xread_recording := ok_rr (base := base) TE
  refine fnG_of F sc_law (fun vs H Q E h => ?_) (fun cdv A outer s H vs Q E gd hr h => ?_)
  · obtain ⟨a, ns, rfl, _⟩ := h
    rfl
  · obtain ⟨sa, ns, rfl, hS, hlen, k⟩ := h
    have big : 16000018 < sizeLine := by decide
    refine ⟨_, (pss_cons (ps_set (i := 1) sc_law.nd rfl (Or.inl rfl) (pe_c G_law_rows hr (by decide) (by rfl) (pa_cons (pv 0) (pa_cons pe_int pa_nil)))) (pss_cons (ps_set (i := 2) sc_law.nd rfl (Or.inl rfl) (pe_op op_mod (pe_callTy call_int1 (by rfl) T.z_int (by decide +kernel) (pa_cons (pe_ix ix_list (pv 1) pe_int (fun _ _ => rfl)) pa_nil)) pe_int)) (pss_cons (ps_set (i := 3) sc_law.nd rfl (Or.inl rfl) (pe_lst pa_nil)) (pss_cons (ps_set (i := 4) sc_law.nd rfl (Or.inl rfl) (pe_lst pa_nil)) (pss_cons (ps_set (i := 5) sc_law.nd rfl (Or.inl rfl) pe_non) (C8.pss_cut (ps_if (pt_cmpR op_eq (pv 2) pe_int (nomark _)) (pss_one (ps_set (i := 5) sc_law.nd rfl (Or.inl rfl) pe_int)) pss_nil) (pss_cons (ps_for PassesOwn.never rfl (pi_range1 (by rfl) T.z_range (pa_cons (pv 2) pa_nil)) (pg_name (i := 6) sc_law.nd rfl (Or.inl rfl)) (pss_cons (ps_set (i := 7) sc_law.nd rfl (Or.inl rfl) (pe_c G_law_values hr (by decide) (by rfl) (pa_cons (pv 1) (pa_cons (pe_op op_add pe_int (pe_op op_mul pe_int (pv 6))) (pa_cons (pe_op op_mod (pe_callTy call_int1 (by rfl) T.z_int (by decide +kernel) (pa_cons (pe_op op_fdiv (pe_ix ix_list (pv 1) (pv 6) (fun _ _ => rfl)) pe_int) pa_nil)) pe_int) pa_nil))))) (C8.pss_cut (ps_if (pt_cmpR op_eq (pv 6) pe_int (nomark _)) (pss_cons (ps_asg (pe_c G_law_first hr (by decide) (by rfl) (pa_cons (pe_ix ix_list (pv 1) pe_int (fun _ _ => rfl)) (pa_cons (pv 7) pa_nil))) (pg_tup rfl (pgs_cons (pg_name (i := 8) sc_law.nd rfl (Or.inl rfl)) (pgs_cons (pg_name (i := 9) sc_law.nd rfl (Or.inl rfl)) pgs_nil)))) (pss_one (ps_set (i := 10) sc_law.nd rfl (Or.inl rfl) (pe_tup (pa_cons pe_str (pa_cons (pe_lst (pa_cons pe_str (pa_cons (pe_disp (pps_cons pe_str pe_int pps_nil) (by rfl) (by rfl) (fun z => by cases z) (by decide)) pa_nil))) pa_nil)))))) (pss_cons (ps_set (i := 11) sc_law.nd rfl (Or.inl rfl) (pe_op op_mod (pe_callTy call_int1 (by rfl) T.z_int (by decide +kernel) (pa_cons (pe_ix ix_list (pv 1) (pe_op op_add (pv 6) pe_int) (fun _ _ => rfl)) pa_nil)) pe_int)) (pss_cons (ps_set (i := 10) sc_law.nd rfl (Or.inl rfl) (pe_tup (pa_cons (pe_op op_add_str pe_str (pe_callTy call_str_int (by rfl) T.z_str (by decide +kernel) (pa_cons (pv 6) pa_nil))) (pa_cons (pv 7) pa_nil)))) (pss_cons (ps_set (i := 8) sc_law.nd rfl (Or.inl rfl) (pe_c Gwrite_call hr (by decide) (by rfl) (pa_cons (pe_ix ix_tup (pv 10) pe_int (fun _ _ => rfl)) (pa_cons (pv 7) pa_nil)))) (pss_cons (ps_set (i := 9) sc_law.nd rfl (Or.inl rfl) pe_bl) (pss_one (ps_if (pt_cmpR op_eq (pv 11) pe_int (nomark _)) (pss_cons (ps_set (i := 8) sc_law.nd rfl (Or.inl rfl) (pe_op op_add_str (pv 8) pe_str)) (pss_one (ps_set (i := 9) sc_law.nd rfl (Or.inl rfl) pe_bl))) (pss_one (ps_if (pt_cmpR op_eq (pv 11) pe_int (nomark _)) (pss_cons (ps_set (i := 8) sc_law.nd rfl (Or.inl rfl) (pe_c Gwrite_call hr (by decide) (by rfl) (pa_cons pe_str (pa_cons (pe_lst (pa_cons pe_str (pa_cons pe_dnewK pa_nil))) pa_nil)))) (pss_one (ps_set (i := 9) sc_law.nd rfl (Or.inl rfl) pe_bl))) pss_nil))))))))) (pss_cons (ps_expr (pe_bm PySem.F.plainAttrs_list PySem.F.slot_list_append PySem.F.type_list_append mt_append (pv 3) (pa_cons (pv 8) pa_nil))) (pss_cons (ps_expr (pe_bm PySem.F.plainAttrs_list PySem.F.slot_list_append PySem.F.type_list_append mt_append (pv 4) (pa_cons (pv 10) pa_nil))) (pss_one (ps_if (PW.pt (pw_and (pt_not (pt_val (pv 9))) (pw_and1 (pt_cmp (pc_isN (pv 5)))))) (pss_one (ps_set (i := 5) sc_law.nd rfl (Or.inl rfl) (pv 6))) pss_nil))))))) (pss_cons (ps_set (i := 12) sc_law.nd rfl (Or.inl rfl) (pe_callTy call_list_of (by rfl) T.z_list (by decide +kernel) (pa_cons (pv 3) pa_nil))) (pss_cons (ps_try_as (i := 14) rfl rfl sc_law.nd rfl rfl ⟨rfl, by decide, .inl TE.xi_InvalidRecording.g⟩ takes0 (fun W pn xe tk _ => (pss_one (ps_set (i := 13) sc_law.nd rfl (Or.inl rfl) (pe_cXS Xread_recording hr (by decide) (by rfl) (fun σ => passAt tk σ) (pa_cons (pv 3) pa_nil))))) (fun a oe cls d pn hz hf => (pss_one (ps_ret (pe_and (pe_cmp (pc_notN (pv 5))) (pe_and (pe_cmpR op_eq (pe_xf TE.xi_InvalidRecording.xf (TE.xi_InvalidRecording.na _ (by simp)) hz hf (pv 14)) (pv 5) (nomark _)) (pe_and (pe_callB (call_isED TE.xi_InvalidRecording.ec hz hf) (by rfl) T.z_isinstance (by decide +kernel) (pa_cons (pv 14) (pa_cons (C8.pe_gc (by rfl) T.gx_ViewError) pa_nil))) (pe_one (pe_cmpR (op_eqP (K := K) rfl hr.units) (pv 3) (pv 12) (nomark _)))))))))) (pss_cons (ps_if (PW.pt (pw_or (pt_cmp (pc_notN (pv 5))) (pw_or (pt_not (pt_val (pe_callB call_isi (by rfl) T.z_isinstance (by decide +kernel) (pa_cons (pv 13) (pa_cons (pe_bltn (v := .ty "list") (by rfl) T.z_list (by decide +kernel) rfl) pa_nil))))) (pw_or1 (pt_cmpR (op_neP hr.units) (pv 3) (pv 12) (nomark _)))))) (pss_one (ps_ret pe_bl)) pss_nil) (pss_one (ps_ret (pe_cmpR op_eq (pe_callB (call_repQ gd hr.units) (by rfl) T.z_repr (by decide +kernel) (pa_cons (pe_lc (own := [("call", 10)]) (g := gName 10) (tt := tYes) rfl sc_law.nd (pi_list (pv 13)) (blkOk_by (N := ["script", "rows", "many", "texts", "calls", "wrong", "k", "values", "text", "right", "call", "kind", "kept", "told", "error"]) (sc := (defScope s_law)) (by decide +kernel)) (fun _ _ _ _ _ => pg_name (i := 10) sc_law.nd rfl (Or.inl rfl)) (fun _ _ _ _ _ => pts_nil) (fun _ _ _ _ _ => (pe_tup (pa_cons (pe_ix (ix_tupS (K := K) rfl) (pv 10) pe_int (fun _ _ => rfl)) (pa_cons (pe_callTy (call_list_ofS (K := K) rfl) (by rfl) T.z_list (by decide +kernel) (pa_cons (pe_ix (ix_tupS (K := K) rfl) (pv 10) pe_int (fun _ _ => rfl)) pa_nil)) pa_nil))))) pa_nil)) (pe_callB (call_repQ gd hr.units) (by rfl) T.z_repr (by decide +kernel) (pa_cons (pv 4) pa_nil)) (nomark _)))))))))))))), ?_⟩
    refine ⟨_, rfl, sa, ns, 50, rfl, hS, hlen, by decide, fun rl zs H1 s1 hrl hr1 zl => ?_⟩
    have draw : ∀ j : Int, 0 ≤ j → j < 50 → ∃ z, atI (zs.map V.int) j = some (.int z) := fun j h0 h1 => map_int_atR h0 (by omega)
    obtain ⟨z0, hz0⟩ := draw 0 (by decide) (by decide)
    obtain ⟨z1, hz1⟩ := draw 1 (by decide) (by decide)
    refine ⟨_, rfl, rl, _, _, _, rfl, rfl, SqL.of hr1, hz0, .inl ⟨_, rfl, _, _, rfl, rfl, (by show (0 : Int) < 9; decide), ?_⟩⟩
    have m0 : 0 ≤ z0 % 9 := Int.emod_nonneg _ (by decide)
    have m1 : z0 % 9 < 9 := Int.emod_lt_of_pos _ (by decide)
    refine ⟨by show 0 ≤ sizeLine; decide, fun ta hta => ?_⟩
    have S1 := (Sb.nil (H := H1)).add (o := .lst []) hta
    refine ⟨by show 0 ≤ sizeLine; decide, fun ca hca => ?_⟩
    have S2 := S1.add (o := .lst []) hca
    refine ⟨fun σ' H' => H' = upd (upd H1 ta (.lst [])) ca (.lst []) ∧ σ' = [some (.ref sa), some (.ref rl), some (.int (z0 % 9)), some (.ref ta), some (.ref ca), some (wrV (z0 % 9) []), none, none, none, none, none, none, none, none, none], ?_, ?_⟩
    · refine ⟨_, rfl, rfl, _, rfl, ?_⟩
      refine ite2 (fun k1 => ?_) (fun k1 => ?_)
      · have e : (z0 % 9) = 0 := by simpa using k1
        refine ⟨rfl, ?_⟩
        unfold wrV
        rw [if_pos e]
        rfl
      · have e : ¬ (z0 % 9) = 0 := by simpa using k1
        refine ⟨rfl, ?_⟩
        unfold wrV
        rw [if_neg e]
        rfl
    rintro σ0 H2 ⟨rfl, rfl⟩
    generalize upd (upd H1 ta (.lst [])) ca (.lst []) = H2 at S2 ⊢
    refine ⟨_, rfl, _, rfl, by omega, by omega, ?_⟩
    refine for_it (walk_range (lo := 0) (n := (z0 % 9).toNat)) (fun i σ H' => ∃ (G : Hp) (Ts : List (List Nat)) (us : List V) (Cs : List (List Nat × List Jv)) (y6 y7 y8 y9 y10 y11 : Option V), Sb G H' [(ca, .lst us), (ta, .lst (Ts.map fun R => V.str (TX R)))] ∧ Same H1 G ∧ Rel i G Ts us Cs ∧ σ = [some (.ref sa), some (.ref rl), some (.int (z0 % 9)), some (.ref ta), some (.ref ca), some (wrV (z0 % 9) (Ts.map readC)), y6, y7, y8, y9, y10, y11, none, none, none]) ⟨H1, [], [], [], none, none, none, none, none, none, S2, Same.refl _, ⟨rfl, rfl, (fun _ h => nomatch h), .nil, (fun _ h => nomatch h), fun j R c h => by simp at h⟩, rfl⟩ (fun _ _ _ _ _ => trivial) ?_ ?_
    · rintro i x σ H3 H4 hi ⟨G, Ts, us, Cs, y6, y7, y8, y9, y10, y11, S3, g3, RL, rfl⟩ ⟨rfl, rfl⟩
      have hi8 : i < 8 := by omega
      have mny0 : (z0 % 9) ≠ 0 := by omega
      have hrG := g3 _ _ hr1
      have hr3 := S3.s _ _ hrG
      obtain ⟨z2, hz2⟩ := draw (0 + (i : Int)) (by omega) (by omega)
      obtain ⟨z3, hz3⟩ := draw (0 + (i : Int) + 1) (by omega) (by omega)
      refine ⟨_, rfl, _, rfl, _, _, rfl, rfl, .inl ⟨by decide, by decide⟩, _, _, rfl, rfl, ?_⟩
      refine ⟨_, rfl, _, rfl, rl, _, _, _, rfl, rfl, SqL.of hr3, hz2, _, _, rfl, rfl, ⟨by decide, by decide⟩, .inl ⟨_, rfl, _, _, rfl, rfl, (by show (0 : Int) < 3; decide), ?_⟩⟩
      have n0 : 0 ≤ z2 / 9 % 3 := Int.emod_nonneg _ (by decide)
      have n1 : z2 / 9 % 3 < 3 := Int.emod_lt_of_pos _ (by decide)
      refine ⟨rl, zs, _, _, G, _, rfl, S3, hrG, by omega, n0, by omega, fun p js G4 H4 S4 g4 dq gj jl => ?_⟩
      have jl2 : js.length ≤ 2 := by omega
      have cg := gvs_of fun j hj => (gj j hj).g
      have cd : dvs js ≤ 5 := dvs_of fun j hj => (gj j hj).d
      have hr4 := S4.s _ _ (g4 _ _ hrG)
      have dqH := dq.same S4.s
      refine ⟨fun σ' H' => ∃ (G5 : Hp) (R : List Nat) (b : Bool) (c : List Nat × List Jv) (q : Addr) (y11 : Option V), Sb G5 H' [(ca, .lst us), (ta, .lst (Ts.map fun R => V.str (TX R)))] ∧ Same G4 G5 ∧ R.length ≤ 1000000 ∧ b = okE i (readC R) ∧ (b = true → readC R = some c) ∧ Dq G5 (.ref q) (encC c) ∧ SmC c ∧
        σ' = [some (.ref sa), some (.ref rl), some (.int (z0 % 9)), some (.ref ta), some (.ref ca), some (wrV (z0 % 9) (Ts.map readC)), some (.int (0 + (i : Int))), some (.ref p), some (.str (TX R)), some (.bl b), some (.ref q), y11, none, none, none], ?_, ?_⟩
      · refine ⟨_, rfl, rfl, _, rfl, ite2 (fun k1 => ?_) (fun k1 => ?_)⟩
        · have i0 : i = 0 := by
            have : (0 : Int) + (i : Int) = 0 := by simpa using k1
            omega
          subst i0
          refine ⟨_, rfl, rl, _, _, _, rfl, rfl, SqL.of hr4, hz1, _, rfl, z1, p, js, rfl, dqH, gj, jl2, fun t R b H5 s5 ht hR hb hrd => ?_⟩
          refine ⟨t, _, rfl, SqT.of ht, rfl, _, _, rfl, _, _, rfl, rfl, ?_⟩
          obtain ⟨G5, S5, g5⟩ := S4.more s5
          refine fun d hd => ?_
          refine ⟨upd_same, [(.inr "a", .int 1)], rfl, (by show 1 ≤ 15; decide), ?_⟩
          have e : mergeK [] [(.inr "a", .int 1)] = [(.inr "a", .int 1)] := rfl
          rw [e, upd_upd]
          have S6 := S5.alloc (o := .dK [(.inr "a", .int 1)]) hd
          have g6 := S5.grow (o := .dK [(.inr "a", .int 1)]) hd
          refine ⟨by show 2 ≤ sizeLine; decide, fun u hu => ?_⟩
          have S7 := S6.alloc (o := .lst [V.str "App", .ref d]) hu
          have g7 := S6.grow (o := .lst [V.str "App", .ref d]) hu
          refine ⟨by show 2 ≤ sizeLine; decide, fun q hq => ?_⟩
          have S8 := S7.alloc (o := .tup [V.str "root", .ref u]) hq
          have g8 := S7.grow (o := .tup [V.str "root", .ref u]) hq
          refine ⟨_, R, b, (root_, jsA), q, _, S8, Same.trans g5 (Same.trans g6 (Same.trans g7 g8)), by omega, hb, hrd, ?_, smA, rfl⟩
          refine .tup upd_same (.cons (.str _) (.cons (.lst (g8 _ _ upd_same) ?_) .nil))
          simp only [encJs]
          exact .cons (by simp only [encJ]; exact .str _) (.cons ((dqA (g7 _ _ upd_same)).same g8) .nil)
        · have i0 : i ≠ 0 := by
            intro z
            subst z
            exact k1 (by simp)
          refine ⟨_, rfl, _, rfl, _, _, rfl, rfl, rl, _, _, _, rfl, rfl, SqL.of hr4, hz3, .inl ⟨_, rfl, _, _, rfl, rfl, (by show (0 : Int) < 11; decide), ?_⟩⟩
          have ld := nuT_len (i := 0 + (i : Int)) (by omega)
          refine ⟨_, rfl, _, rfl, log_ok (by omega), _, _, rfl, rfl, ?_, ?_⟩
          · rw [nuT_TX, k_do, TX_len, TX_len]
            simp only [List.length_cons, List.length_nil]
            omega
          rw [nuT_TX, k_do, TX_cat]
          obtain ⟨nm, hnm⟩ : ∃ nm, nm = [100, 111] ++ nuT (0 + (i : Int)) := ⟨_, rfl⟩
          rw [← hnm]
          have nne : nm ≠ [] := by rw [hnm]; exact List.cons_ne_nil _ _
          have nroot : nm ≠ root_ := by
            rw [hnm]
            intro z
            cases z
          have nok : okL 20 nm := by
            have e9 : nuT (0 + (i : Int)) = TL.numL i := by rw [Int.zero_add]; rfl
            rw [hnm, e9]
            refine ⟨?_, fun c hc => ?_⟩
            · have := TL.numL_len (n := i) (k := 2) (by decide) (Nat.lt_of_lt_of_le hi8 (by decide))
              simp only [List.length_append, List.length_cons, List.length_nil]
              omega
            · rcases List.mem_append.mp hc with hc | hc
              · exact (by decide : ∀ c ∈ [100, 111], c < 200) c hc
              · have := num_dg i c hc
                unfold isDg at this
                simp only [Bool.and_eq_true, decide_eq_true_eq] at this
                omega
          refine ⟨_, rfl, by show 2 ≤ sizeLine; decide, fun q hq => ?_⟩
          have S5 := S4.alloc (o := .tup [V.str (TX nm), .ref p]) hq
          have g5 := S4.grow (o := .tup [V.str (TX nm), .ref p]) hq
          have hqq : (upd H4 q (.tup [V.str (TX nm), .ref p])) q = some (.tup [V.str (TX nm), .ref p]) := upd_same
          have dqc : Dq (upd G4 q (.tup [V.str (TX nm), .ref p])) (.ref q) (encC (nm, js)) := .tup upd_same (.cons (.str _) (.cons (dq.same g5) .nil))
          have sc := smC nok (smJs gj jl2)
          have cl := call_len2 (nm := nm) (js := js) nok.1 (fun j hj => Nat.le_trans (gj j hj).l (by decide +kernel)) (by omega)
          have rd := readC_read nne cg (Nat.le_trans cd (by decide))
          refine ⟨_, rfl, q, _, _, _, rfl, rfl, SqT.of hqq, rfl, _, rfl, p, nm, js, rfl, (dq.same g5).same S5.s, cg, by omega, by omega, fun H6 s6 => ?_⟩
          obtain ⟨G6, S6, g6⟩ := S5.more s6
          have g56 := Same.trans g5 g6
          have ok0 : okE i none = false := by unfold okE; rw [if_neg i0]
          refine ⟨_, rfl, rfl, _, rfl, ite2 (fun k3 => ?_) (fun k3 => ?_)⟩
          · refine ⟨_, rfl, _, _, rfl, rfl, by rw [k_sp1, TX_len, TX_len]; simp only [List.length_cons, List.length_nil]; omega, ?_⟩
            rw [k_sp1, TX_cat]
            exact ⟨G6, _, false, (nm, js), q, _, S6, g56, by rw [List.length_append]; simp only [List.length_cons, List.length_nil]; omega, by rw [read_sp]; exact ok0.symm, (fun z => nomatch z), dqc.same g6, sc, rfl⟩
          refine ⟨_, rfl, rfl, _, rfl, ite2 (fun k5 => ?_) (fun k5 => ?_)⟩
          · refine fun d hd => ?_
            have S7 := S6.alloc (o := .dK []) hd
            have g7 := S6.grow (o := .dK []) hd
            refine ⟨by show 2 ≤ sizeLine; decide, fun u hu => ?_⟩
            have S8 := S7.alloc (o := .lst [V.str "App", .ref d]) hu
            have g8 := S7.grow (o := .lst [V.str "App", .ref d]) hu
            have gg : gvs [.tx app_, .re [] []] := gj0 trivial
            have cl2 := call_len2 (nm := root_) (js := [.tx app_, .re [] []]) (by decide) (by decide +kernel) (by decide)
            have rd2 := readC_read (n := root_) (vs := [.tx app_, .re [] []]) (List.cons_ne_nil _ _) gg (by decide +kernel)
            refine ⟨u, root_, [.tx app_, .re [] []], rfl, ?_, gg, by decide +kernel, by omega, fun H9 s9 => ?_⟩
            · refine Dq.same ?_ S8.s
              simp only [encJs]
              exact .lst upd_same (.cons (by simp only [encJ]; exact .str _) (.cons (dq0 (g8 _ _ upd_same)) .nil))
            · obtain ⟨G9, S9, g9⟩ := S8.more s9
              have g79 := Same.trans g7 (Same.trans g8 g9)
              exact ⟨G9, _, false, (nm, js), q, _, S9, Same.trans g56 g79, by omega, by rw [rd2]; unfold okE; rw [if_neg i0]; rfl, (fun z => nomatch z), dqc.same (Same.trans g6 g79), sc, rfl⟩
          · exact ⟨G6, _, true, (nm, js), q, _, S6, g56, by omega, by rw [rd]; unfold okE; rw [if_neg i0]; show true = !decide (nm = root_); rw [decide_eq_false nroot]; rfl, (fun _ => rd), dqc.same g6, sc, rfl⟩
      · rintro σ5 H5 ⟨G5, R, b, c, q, y12, S5, g5, hR, hb, hrd, dqc, sc, rfl⟩
        have ul := RL.d.len
        rw [List.length_map, RL.cl] at ul
        refine ⟨_, rfl, .inl ⟨rfl, _, SqL.of S5.hd2⟩, _, rfl, ta, _, _, rfl, rfl, S5.hd2, by rw [List.length_map, RL.tl]; omega, ?_⟩
        have S6 := S5.put2 (u := .lst ((Ts.map fun R => V.str (TX R)) ++ [.str (TX R)]))
        refine ⟨_, rfl, .inl ⟨rfl, _, SqL.of S6.hd⟩, _, rfl, ca, _, _, rfl, rfl, S6.hd, by rw [ul]; omega, ?_⟩
        have S7 := S6.put (u := .lst (us ++ [.ref q]))
        have R2 : Rel (i + 1) G5 (Ts ++ [R]) (us ++ [.ref q]) (Cs ++ [c]) := (RL.same (Same.trans g4 g5)).snoc hR dqc sc (fun e => hrd (hb.trans e))
        have mp : ((Ts ++ [R]).map fun R => V.str (TX R)) = (Ts.map fun R => V.str (TX R)) ++ [.str (TX R)] := by simp
        have g15 := Same.trans g3 (Same.trans g4 g5)
        have w0 : wrV (z0 % 9) (Ts.map readC) = match fw 0 (Ts.map readC) with | none => .non | some k => .int (k : Nat) := by
          unfold wrV
          rw [if_neg mny0] <;> (cases fw 0 (Ts.map readC) <;> rfl)
        have w1 : wrV (z0 % 9) ((Ts ++ [R]).map readC) = match fw 0 (Ts.map readC) with | none => (if b = true then .non else .int (i : Nat)) | some k => .int (k : Nat) := by
          unfold wrV
          rw [if_neg mny0, List.map_append]
          show (match fw 0 (Ts.map readC ++ [readC R]) with | none => V.non | some k => V.int (k : Nat)) = _
          rw [fw_one, List.length_map, RL.tl, Nat.zero_add, ← hb]
          cases fw 0 (Ts.map readC) with
          | none => cases b <;> rfl
          | some k => rfl
        cases b with
        | true =>
          refine ⟨_, rfl, true, rfl, ite2 (fun c => nomatch c) (fun _ => ?_)⟩
          refine ⟨G5, Ts ++ [R], us ++ [.ref q], Cs ++ [c], some (.int (0 + (i : Int))), some (.ref p), some (.str (TX R)), some (.bl true), some (.ref q), y12, by rw [mp]; exact S7, g15, R2, ?_⟩
          have : wrV (z0 % 9) (Ts.map readC) = wrV (z0 % 9) ((Ts ++ [R]).map readC) := by
            rw [w0, w1]
            cases fw 0 (Ts.map readC) <;> rfl
          rw [← this] <;> rfl
        | false =>
          refine ⟨_, rfl, false, rfl, ite2 (fun _ => ?_) (fun c => absurd rfl c)⟩
          cases hf : fw 0 (Ts.map readC) with
          | none =>
            rw [hf] at w0 w1
            refine ⟨_, rfl, true, congrArg V.bl (decide_eq_true w0), iteT ?_⟩
            refine ⟨_, rfl, G5, Ts ++ [R], us ++ [.ref q], Cs ++ [c], some (.int (0 + (i : Int))), some (.ref p), some (.str (TX R)), some (.bl false), some (.ref q), y12, by rw [mp]; exact S7, g15, R2, ?_⟩
            have w2 : wrV (z0 % 9) ((Ts ++ [R]).map readC) = .int (0 + (i : Int)) := by rw [w1, Int.zero_add] <;> rfl
            rw [w2] <;> rfl
          | some k =>
            rw [hf] at w0 w1
            refine ⟨_, rfl, false, congrArg V.bl (decide_eq_false (by rw [w0]; exact fun z => nomatch z)), iteF ?_⟩
            refine ⟨G5, Ts ++ [R], us ++ [.ref q], Cs ++ [c], some (.int (0 + (i : Int))), some (.ref p), some (.str (TX R)), some (.bl false), some (.ref q), y12, by rw [mp]; exact S7, g15, R2, ?_⟩
            rw [w1, ← w0] <;> rfl
    · rintro σ H3 ⟨G, Ts, us, Cs, y6, y7, y8, y9, y10, y11, S3, g3, RL, rfl⟩
      have hta3 := S3.hd2
      have hca3 := S3.hd
      refine ⟨_, rfl, ta, _, rfl, .inl (SqL.of hta3), fun kp hkp => ?_⟩
      have s4 := Sm.new (o := .lst (Ts.map fun R => V.str (TX R))) hkp
      have hkp4 : (upd H3 kp (.lst (Ts.map fun R => V.str (TX R)))) kp = some (.lst (Ts.map fun R => V.str (TX R))) := upd_same
      generalize upd H3 kp (.lst (Ts.map fun R => V.str (TX R))) = H4 at s4 hkp4 ⊢
      have hta4 := s4 _ _ hta3
      have tl := RL.tl
      refine ⟨_, rfl, ta, Ts, rfl, hta4, RL.tb, by omega, fun ho q us2 H5 s5 hq cv => ?ok, fun i2 ho d H5 s5 hd => ?bad⟩
      case bad =>
        have wI : wrV (z0 % 9) (Ts.map readC) = .int (i2 : Nat) := by
          unfold rrOut at ho
          unfold wrV
          by_cases e : Ts.map readC = []
          · rw [if_pos e] at ho
            cases ho
            have e2 : Ts = [] := List.map_eq_nil_iff.mp e
            rw [e2] at tl
            have e3 : z0 % 9 = 0 := by
              simp only [List.length_nil] at tl
              omega
            rw [if_pos e3]
            rfl
          · rw [if_neg e] at ho
            have e3 : z0 % 9 ≠ 0 := fun z => e (by
              rw [z] at tl
              have : Ts = [] := List.length_eq_zero_iff.mp tl
              rw [this]
              rfl)
            rw [if_neg e3, ho]
        rw [wI]
        refine ⟨true, TE.xi_InvalidRecording.exm, fun _ a' ha => ?_, fun q => nomatch q⟩
        refine ⟨_, rfl, true, rfl, iteT ?_⟩
        refine ⟨_, rfl, rfl, rfl, d, fsI i2, _, rfl, hd, by rfl, _, rfl, rfl, true, (by simp), iteT ?_⟩
        refine ⟨_, rfl, rfl, d, fsI i2, .ref C.ViewError, .ref C.ViewError, true, rfl, hd, rfl, (fun u h => h), T.k_InvalidRecording_ViewError, true, rfl, iteT ?_⟩
        refine ⟨_, rfl, _, rfl, .list ((Ts.map TX).map PyData.str), .list ((Ts.map TX).map PyData.str), .lst (SqL.of (s5 _ _ hta4)) (by rw [mapTX]; exact dpAll_strT _), .lst (SqL.of (s5 _ _ hkp4)) (by rw [mapTX]; exact dpAll_strT _), plain_strs _, plain_strs _, (by rw [depth_strs]; decide), ?_⟩
        rw [SeqAt.eqv_refl_plain _ (plain_strs _)]
        exact k _
      have cne : Ts.map readC ≠ [] := fun z => by
        rw [rrOut, if_pos z] at ho
        cases ho
      have fwn : fw 0 (Ts.map readC) = none := by
        rw [rrOut, if_neg cne] at ho
        exact ho
      have e3 : z0 % 9 ≠ 0 := fun z => cne (by
        rw [z] at tl
        have : Ts = [] := List.length_eq_zero_iff.mp tl
        rw [this]
        rfl)
      have wN : wrV (z0 % 9) (Ts.map readC) = .non := by
        unfold wrV
        rw [if_neg e3, fwn]
      rw [wN]
      have cl := RL.cl
      have u2 := cv.len
      rw [List.length_map] at u2
      have sm := smAll RL.sm (by omega)
      refine ⟨_, rfl, false, rfl, iteF ?_⟩
      refine ⟨_, rfl, .ref q, .ty "list", _, _, true, rfl, .ty _, .base (.lst hq), kit_ty (by decide +kernel), true, rfl, ite2 (fun c => nomatch c) (fun _ => ?_)⟩
      refine ⟨_, rfl, _, rfl, .list ((Ts.map TX).map PyData.str), .list ((Ts.map TX).map PyData.str), .lst (SqL.of (s5 _ _ hta4)) (by rw [mapTX]; exact dpAll_strT _), .lst (SqL.of (s5 _ _ hkp4)) (by rw [mapTX]; exact dpAll_strT _), plain_strs _, plain_strs _, (by rw [depth_strs]; decide), ?_⟩
      rw [SeqAt.eqv_refl_plain _ (plain_strs _)]
      refine ⟨_, rfl, ite2 (fun c => nomatch c) (fun _ => ?_)⟩
      refine ⟨_, rfl, q, rfl, ⟨_, SqL.of hq⟩, fun D hD => ?_⟩
      refine lc_it (walk_list (K := K) (a := q) (xs := us2)) (fun i H' => ∃ (G' : Hp) (vs : List V), Sb G' H' [(D, .lst vs)] ∧ Same H5 G' ∧ DqAll G' vs ((Cs.take i).map encC)) ⟨H5, [], (Sb.nil (H := H5)).add hD, Same.refl _, by rw [List.take_zero]; exact .nil⟩ (fun i H' _ ⟨G', vs, S, g, _⟩ => SqL.of (S.s _ _ (g _ _ hq))) ?_ ?_
      · rintro i x H6 H7 hi ⟨G', vs, S6, g6, dv⟩ ⟨rfl, hx⟩
        have hTi := List.getElem?_eq_getElem (show i < Ts.length by omega)
        have hCi := List.getElem?_eq_getElem (show i < Cs.length by omega)
        have hRi : (Ts.map readC)[i]? = some (readC (Ts[i]'(by omega))) := by rw [List.getElem?_map, hTi]; rfl
        have okI := fw_none 0 _ fwn i _ hRi
        rw [Nat.zero_add] at okI
        have rdI := RL.eq i _ _ hTi hCi okI
        have cvi := cv.each i x _ hx hRi
        rw [rdI] at cvi
        have tk : (Cs.take (i + 1)).map encC = (Cs.take i).map encC ++ [encC (Cs[i]'(by omega))] := by rw [List.take_add_one, hCi, List.map_append]; rfl
        have vl := dv.len
        rw [List.length_map, List.length_take] at vl
        generalize Cs[i]'(by omega) = c at cvi tk
        obtain ⟨n, js⟩ := c
        obtain ⟨t, a, rfl, ht, da⟩ := cvi
        obtain ⟨a', xs, e, haG, dxs⟩ := dq_list (da.same g6)
        cases e
        have htH := S6.s _ _ (g6 _ _ ht)
        refine ⟨rfl, ?_⟩
        refine ⟨_, rfl, t, _, _, _, rfl, rfl, SqT.of htH, rfl, _, rfl, t, _, _, _, rfl, rfl, SqT.of htH, rfl, a, xs, rfl, .inl (SqL.of (S6.s _ _ haG)), fun l hl => ⟨by show 2 ≤ sizeLine; decide, fun tt htt => ?_⟩⟩
        have S7 := S6.alloc (o := .lst xs) hl
        have g7 := S6.grow (o := .lst xs) hl
        have S8 := S7.alloc (o := .tup [.str (TX n), .ref l]) htt
        have g8 := S7.grow (o := .tup [.str (TX n), .ref l]) htt
        refine ⟨vs, S8.hd, by omega, _, vs ++ [.ref tt], S8.put, Same.trans g6 (Same.trans g7 g8), ?_⟩
        rw [tk]
        exact dqAll_ap (dv.same (Same.trans g7 g8)) (.cons (.tup upd_same (.cons (.str _) (.cons (.lst (g8 _ _ upd_same) (dxs.same (Same.trans g7 g8))) .nil))) .nil)
      · rintro H6 ⟨G', vs, S6, g6, dv⟩
        rw [show us2.length = Cs.length by omega, List.take_length] at dv
        refine ⟨D, .list (Cs.map encC), rfl, .lst S6.hd (dv.same S6.s), sm.sh, Nat.le_trans sm.dp (by decide), Nat.le_trans sm.ln (by omega), ?_⟩
        have s36 := Same.trans s4 (Same.trans s5 (Same.trans g6 S6.s))
        refine ⟨_, rfl, ca, .list (Cs.map encC), rfl, .lst (s36 _ _ hca3) (RL.d.same (Same.trans S3.s s36)), sm.sh, Nat.le_trans sm.dp (by decide), Nat.le_trans sm.ln (by omega), rfl, ?_⟩
        simpa using k _
end
end VL

set_option Elab.async false
set_option linter.all false
set_option maxRecDepth 100000
set_option maxHeartbeats 4000000
namespace VL
open PySem PySem.Spec PyProof.Rows L2
theorem all_mk {l : PySem.W.OpenLaw} {w : World} {K : PySem.W.Frag} {h : Heap} {mg : Str → Option Value} {fa aCallReader t_WORDS t_WORDS_0 t_WORDS_1 t_WORDS_2 aK_ESCAPES aInvalidCall aInvalidRecording fI_InvalidRecording cc_InvalidRecording cda_InvalidRecording ND_InvalidRecording aViewError f1 f2 f3 f4 f5 f6 f7 f8 f9 f10 f11 f12 f13 f14 f15 f16 f17 f18 f19 f20 f21 f22 f23 f24 f25 f26 f27 : Addr} (X : K.In h) (G : h.Ns mainGlobals mg) (hfa : mg "law" = some (.ref fa))
    {odI_InvalidRecording anI_InvalidRecording odC_InvalidRecording odD_InvalidRecording ddD_InvalidRecording od1 an1 od2 an2 od3 an3 od4 an4 od5 an5 od6 an6 od7 an7 od8 an8 od9 an9 od10 an10 od11 an11 od12 an12 od13 an13 od14 an14 od15 an15 od16 an16 od17 an17 od18 an18 od19 an19 od20 an20 od21 an21 od22 an22 od23 an23 od24 an24 od25 an25 od26 an26 od27 an27 : Option Addr} {ts_WORDS ts_WORDS_0 ts_WORDS_1 ts_WORDS_2 slI_InvalidRecording slC_InvalidRecording slD_InvalidRecording sl1 sl2 sl3 sl4 sl5 sl6 sl7 sl8 sl9 sl10 sl11 sl12 sl13 sl14 sl15 sl16 sl17 sl18 sl19 sl20 sl21 sl22 sl23 sl24 sl25 sl26 sl27 : Array (Option Value)} {v_LARGEST_NUMBER v_LOWEST_LEVEL v_MOST_DIGITS uK_ESCAPES_0 uK_ESCAPES_1 uK_ESCAPES_2 ocI_InvalidRecording kVI_InvalidRecording dcI_InvalidRecording pmI_InvalidRecording ctI_InvalidRecording ocC_InvalidRecording ocD_InvalidRecording oc1 kV1 dc1 pm1 cd1 ct1 oc2 kV2 dc2 pm2 cd2 ct2 oc3 kV3 dc3 pm3 cd3 ct3 oc4 kV4 dc4 pm4 cd4 ct4 oc5 kV5 dc5 pm5 cd5 ct5 oc6 kV6 dc6 pm6 cd6 ct6 oc7 kV7 dc7 pm7 cd7 ct7 oc8 kV8 dc8 pm8 cd8 ct8 oc9 kV9 dc9 pm9 cd9 ct9 oc10 kV10 dc10 pm10 cd10 ct10 oc11 kV11 dc11 pm11 cd11 ct11 oc12 kV12 dc12 pm12 cd12 ct12 oc13 kV13 dc13 pm13 cd13 ct13 oc14 kV14 dc14 pm14 cd14 ct14 oc15 kV15 dc15 pm15 cd15 ct15 oc16 kV16 dc16 pm16 cd16 ct16 oc17 kV17 dc17 pm17 cd17 ct17 oc18 kV18 dc18 pm18 cd18 ct18 oc19 kV19 dc19 pm19 cd19 ct19 oc20 kV20 dc20 pm20 cd20 ct20 oc21 kV21 dc21 pm21 cd21 ct21 oc22 kV22 dc22 pm22 cd22 ct22 oc23 kV23 dc23 pm23 cd23 ct23 oc24 kV24 dc24 pm24 cd24 ct24 oc25 kV25 dc25 pm25 cd25 ct25 oc26 kV26 dc26 pm26 cd26 ct26 oc27 kV27 dc27 pm27 cd27 ct27 : Value} {ti_WORDS ti_WORDS_0 ti_WORDS_1 ti_WORDS_2 vsD_InvalidRecording : Array Value} {tn_WORDS tn_WORDS_0 tn_WORDS_1 tn_WORDS_2 nK_ESCAPES : Nat} {bsD_InvalidRecording bmD_InvalidRecording subD_InvalidRecording : List Value} {es_ESCAPES : Array DictEntry} {file_InvalidRecording nmD_InvalidRecording qD_InvalidRecording : Str} {tf_InvalidRecording : Tok} {cdD_InvalidRecording : ClassData} {snD_InvalidRecording : List Str} {abD_InvalidRecording : Bool} {colD_InvalidRecording : Option Bool} {e0_InvalidRecording e1_InvalidRecording e2_InvalidRecording e3_InvalidRecording e5_InvalidRecording : Option Value}
    (q_CallReader : PySem.W.nsIn K mainGlobals "CallReader" = some (some (.ref aCallReader)))
    (pg_CallReader : PySem.W.plainGet K aCallReader Str.empty = true)
    (hd_CallReader : PySem.W.hasDictIn K aCallReader = true)
    (po_CallReader : PySem.W.plainOver K aCallReader = true)
    (sa_CallReader : PySem.W.findIn K (.ref aCallReader) "__setattr__" = some (some (.builtin "object.__setattr__")))
    (mk_CallReader : PySem.W.makesIn K aCallReader = true)
    (kc_CallReader : PySem.W.keepIn K (.ref aCallReader) = true)
    (n_CallReader_text : PySem.W.findIn K (.ref aCallReader) "text" = some none)
    (n_CallReader_at : PySem.W.findIn K (.ref aCallReader) "at" = some none)
    (z_dict : PySem.W.nsIn K mainGlobals "dict" = some none)
    (z_enumerate : PySem.W.nsIn K mainGlobals "enumerate" = some none)
    (z_int : PySem.W.nsIn K mainGlobals "int" = some none)
    (z_isinstance : PySem.W.nsIn K mainGlobals "isinstance" = some none)
    (z_len : PySem.W.nsIn K mainGlobals "len" = some none)
    (z_list : PySem.W.nsIn K mainGlobals "list" = some none)
    (z_range : PySem.W.nsIn K mainGlobals "range" = some none)
    (z_repr : PySem.W.nsIn K mainGlobals "repr" = some none)
    (z_str : PySem.W.nsIn K mainGlobals "str" = some none)
    (g_LARGEST_NUMBER : PySem.W.nsIn K mainGlobals "LARGEST_NUMBER" = some (some v_LARGEST_NUMBER))
    (r_LARGEST_NUMBER : RelV (V.int 1000000000000000000000000000000) v_LARGEST_NUMBER)
    (g_LOWEST_LEVEL : PySem.W.nsIn K mainGlobals "LOWEST_LEVEL" = some (some v_LOWEST_LEVEL))
    (r_LOWEST_LEVEL : RelV (V.int 20) v_LOWEST_LEVEL)
    (g_MOST_DIGITS : PySem.W.nsIn K mainGlobals "MOST_DIGITS" = some (some v_MOST_DIGITS))
    (r_MOST_DIGITS : RelV (V.int 31) v_MOST_DIGITS)
    (g_WORDS : PySem.W.nsIn K mainGlobals "WORDS" = some (some (.ref t_WORDS)))
    (tl_WORDS : K.lookup t_WORDS = some ⟨.type "tuple", none, .seq ti_WORDS tn_WORDS, ts_WORDS⟩)
    (tz_WORDS : ti_WORDS.size ≤ sizeLine)
    (tv_WORDS : Vals [V.ref t_WORDS_0, V.ref t_WORDS_1, V.ref t_WORDS_2] ti_WORDS.toList)
    (tl_WORDS_0 : K.lookup t_WORDS_0 = some ⟨.type "tuple", none, .seq ti_WORDS_0 tn_WORDS_0, ts_WORDS_0⟩)
    (tz_WORDS_0 : ti_WORDS_0.size ≤ sizeLine)
    (tv_WORDS_0 : Vals [(V.str "null"), V.non] ti_WORDS_0.toList)
    (tl_WORDS_1 : K.lookup t_WORDS_1 = some ⟨.type "tuple", none, .seq ti_WORDS_1 tn_WORDS_1, ts_WORDS_1⟩)
    (tz_WORDS_1 : ti_WORDS_1.size ≤ sizeLine)
    (tv_WORDS_1 : Vals [(V.str "true"), (V.bl true)] ti_WORDS_1.toList)
    (tl_WORDS_2 : K.lookup t_WORDS_2 = some ⟨.type "tuple", none, .seq ti_WORDS_2 tn_WORDS_2, ts_WORDS_2⟩)
    (tz_WORDS_2 : ti_WORDS_2.size ≤ sizeLine)
    (tv_WORDS_2 : Vals [(V.str "false"), (V.bl false)] ti_WORDS_2.toList)
    (gK_ESCAPES : PySem.W.nsIn K mainGlobals "ESCAPES" = some (some (.ref aK_ESCAPES)))
    (lK_ESCAPES : K.lookup aK_ESCAPES = some ⟨.type "dict", none, .dict es_ESCAPES nK_ESCAPES, #[]⟩)
    (tK_ESCAPES : PySem.W.KeysLit w.params es_ESCAPES.toList)
    (sK_ESCAPES : (aK_ESCAPES == sysModules) = false)
    (yK_ESCAPES : keysT es_ESCAPES = (["\"", "\\", "n"] : List Str))
    (eK_ESCAPES_0 : PySem.W.nsIn K aK_ESCAPES "\"" = some (some uK_ESCAPES_0))
    (rK_ESCAPES_0 : RelV (V.str "\"") uK_ESCAPES_0)
    (eK_ESCAPES_1 : PySem.W.nsIn K aK_ESCAPES "\\" = some (some uK_ESCAPES_1))
    (rK_ESCAPES_1 : RelV (V.str "\\") uK_ESCAPES_1)
    (eK_ESCAPES_2 : PySem.W.nsIn K aK_ESCAPES "n" = some (some uK_ESCAPES_2))
    (rK_ESCAPES_2 : RelV (V.str "\n") uK_ESCAPES_2)
    (q_InvalidCall : PySem.W.nsIn K mainGlobals "InvalidCall" = some (some (.ref aInvalidCall)))
    (xx_InvalidCall : PySem.W.excIn K aInvalidCall [.type "ValueError", .type "Exception", .type "BaseException", .type "object"] "ValueError.__new__" = true)
    (xk_InvalidCall : PySem.W.keepIn K (.ref aInvalidCall) = true)
    (xb_InvalidCall : PySem.W.subIn K (.ref aInvalidCall) (.type "BaseException") = some true)
    (xt_InvalidCall : PySem.W.typeIn K (.ref aInvalidCall) = some (.type "type"))
    (xs_InvalidCall : PySem.W.subIn K (.ref aInvalidCall) (.ref aInvalidCall) = some true)
    (xg_InvalidCall : PySem.W.findIn K (.ref aInvalidCall) "__getattribute__" = some (some (.builtin "BaseException.__getattribute__")))
    (xh_InvalidCall : PySem.W.findIn K (.ref aInvalidCall) "__getattr__" = some none)
    (xd_InvalidCall : PySem.W.hasDictIn K aInvalidCall = true)
    (xc_InvalidCall : PySem.W.findIn K (.ref aInvalidCall) "__class__" = some (some (.builtin "object.__class__")))
    (xp_InvalidCall : PySem.W.specialIn K (.builtin "object.__class__") "__get__" = some (some (.builtin "getset_descriptor.__get__")))
    (xq_InvalidCall : PySem.W.takesIn K (.builtin "object.__class__") = some true)
    (xm_InvalidCall : PySem.W.mroIn K aInvalidCall (.type "object") = some true)
    (z_super : PySem.W.nsIn K mainGlobals "super" = some none)
    (q_InvalidRecording : PySem.W.nsIn K mainGlobals "InvalidRecording" = some (some (.ref aInvalidRecording)))
    (iI_InvalidRecording : PySem.W.findIn K (.ref aInvalidRecording) "__init__" = some (some (.ref fI_InvalidRecording)))
    (tI_InvalidRecording : PySem.W.typeIn K (.ref fI_InvalidRecording) = some (.type "function"))
    (lI_InvalidRecording : K.lookup fI_InvalidRecording = some ⟨ocI_InvalidRecording, odI_InvalidRecording, .func (exFd "InvalidRecording.__init__" s_InvalidRecording___init__ cc_InvalidRecording cda_InvalidRecording kVI_InvalidRecording dcI_InvalidRecording pmI_InvalidRecording anI_InvalidRecording ctI_InvalidRecording), slI_InvalidRecording⟩)
    (cI_InvalidRecording : PySem.W.codeIn K (.ref cda_InvalidRecording) "InvalidRecording.__init__" = true)
    (ceI_InvalidRecording : K.lookup cc_InvalidRecording = some ⟨ocC_InvalidRecording, odC_InvalidRecording, .cell (some (.ref aInvalidRecording)), slC_InvalidRecording⟩)
    (coI_InvalidRecording : K.lookup cda_InvalidRecording = some ⟨ocD_InvalidRecording, odD_InvalidRecording, .fields vsD_InvalidRecording, slD_InvalidRecording⟩)
    (vsI_InvalidRecording : vsD_InvalidRecording[2]? = some (.str file_InvalidRecording tf_InvalidRecording))
    (fiI_InvalidRecording : ((l.prog.main.file : Str) == file_InvalidRecording) = true)
    (clI_InvalidRecording : PySem.W.clsIn K aInvalidRecording = some cdD_InvalidRecording)
    (sbI_InvalidRecording : PySem.W.mroIn K aInvalidRecording (.ref aInvalidRecording) = some true)
    (opI_InvalidRecording : PySem.W.nsIn K cStatics "thirdparty.any" = some none)
    (alI_InvalidRecording : PySem.W.ks_superIn K aInvalidRecording aInvalidRecording "__init__" = some (some (.builtin "ValueError.__init__")))
    (svI_InvalidRecording : PySem.W.subIn K (.ref aInvalidRecording) (.type "ValueError") = some true)
    (tpI_InvalidRecording : (l.prog.main.scope.names.lookup ("super" : Str)).isSome = false)
    (lD_InvalidRecording : K.lookup aInvalidRecording = some (excClassObj nmD_InvalidRecording qD_InvalidRecording aInvalidRecording ND_InvalidRecording bsD_InvalidRecording bmD_InvalidRecording true snD_InvalidRecording subD_InvalidRecording abD_InvalidRecording colD_InvalidRecording ddD_InvalidRecording e0_InvalidRecording e1_InvalidRecording e2_InvalidRecording e3_InvalidRecording e5_InvalidRecording "ValueError.__new__"))
    (bmR_InvalidRecording : PySem.HandSPX.refsVE bmD_InvalidRecording = true)
    (saD_InvalidRecording : PySem.W.findIn K (.ref aInvalidRecording) "__setattr__" = some (some (.builtin "object.__setattr__")))
    (exD_InvalidRecording : PySem.W.subIn K (.ref aInvalidRecording) (.type "BaseException") = some true)
    (tyD_InvalidRecording : PySem.W.typeIn K (.ref aInvalidRecording) = some (.type "type"))
    (kD_InvalidRecording : PySem.W.keepIn K (.ref aInvalidRecording) = true)
    (m_InvalidRecording_index : PySem.W.findIn K (.ref aInvalidRecording) "index" = some none)
    (ssD_InvalidRecording : PySem.W.subIn K (.ref aInvalidRecording) (.ref aInvalidRecording) = some true)
    (gaD_InvalidRecording : PySem.W.findIn K (.ref aInvalidRecording) "__getattribute__" = some (some (.builtin "BaseException.__getattribute__")))
    (ggD_InvalidRecording : PySem.W.findIn K (.ref aInvalidRecording) "__getattr__" = some none)
    (hdD_InvalidRecording : PySem.W.hasDictIn K aInvalidRecording = true)
    (caD_InvalidRecording : PySem.W.findIn K (.ref aInvalidRecording) "__class__" = some (some (.builtin "object.__class__")))
    (spD_InvalidRecording : PySem.W.specialIn K (.builtin "object.__class__") "__get__" = some (some (.builtin "getset_descriptor.__get__")))
    (tkD_InvalidRecording : PySem.W.takesIn K (.builtin "object.__class__") = some true)
    (mrD_InvalidRecording : PySem.W.mroIn K aInvalidRecording (.type "object") = some true)
    (q_ViewError : PySem.W.nsIn K mainGlobals "ViewError" = some (some (.ref aViewError)))
    (ki_InvalidCall_ViewError : PySem.W.kitOne K (.ref aInvalidCall) (.ref aViewError) = some true)
    (ki_InvalidRecording_ViewError : PySem.W.kitOne K (.ref aInvalidRecording) (.ref aViewError) = some true)
    (a1 : PySem.W.nsIn K mainGlobals "is_text" = some (some (.ref f1)))
    (l1 : K.lookup f1 = some ⟨oc1, od1, .func (PySem.W.fnOf "is_text" "is_text" (defArgs s_is_text) (defBody s_is_text) (defScope s_is_text) .none kV1 dc1 pm1 an1 cd1 ct1), sl1⟩)
    (c1 : PySem.W.codeIn K cd1 "is_text" = true)
    (k1 : PySem.W.keepIn K (.ref f1) = true)
    (a2 : PySem.W.nsIn K mainGlobals "is_list" = some (some (.ref f2)))
    (l2 : K.lookup f2 = some ⟨oc2, od2, .func (PySem.W.fnOf "is_list" "is_list" (defArgs s_is_list) (defBody s_is_list) (defScope s_is_list) .none kV2 dc2 pm2 an2 cd2 ct2), sl2⟩)
    (c2 : PySem.W.codeIn K cd2 "is_list" = true)
    (k2 : PySem.W.keepIn K (.ref f2) = true)
    (a3 : PySem.W.nsIn K mainGlobals "is_record" = some (some (.ref f3)))
    (l3 : K.lookup f3 = some ⟨oc3, od3, .func (PySem.W.fnOf "is_record" "is_record" (defArgs s_is_record) (defBody s_is_record) (defScope s_is_record) .none kV3 dc3 pm3 an3 cd3 ct3), sl3⟩)
    (c3 : PySem.W.codeIn K cd3 "is_record" = true)
    (k3 : PySem.W.keepIn K (.ref f3) = true)
    (a4 : PySem.W.nsIn K mainGlobals "is_digit" = some (some (.ref f4)))
    (l4 : K.lookup f4 = some ⟨oc4, od4, .func (PySem.W.fnOf "is_digit" "is_digit" (defArgs s_is_digit) (defBody s_is_digit) (defScope s_is_digit) .none kV4 dc4 pm4 an4 cd4 ct4), sl4⟩)
    (c4 : PySem.W.codeIn K cd4 "is_digit" = true)
    (k4 : PySem.W.keepIn K (.ref f4) = true)
    (a5 : PySem.W.nsIn K mainGlobals "quoted" = some (some (.ref f5)))
    (l5 : K.lookup f5 = some ⟨oc5, od5, .func (PySem.W.fnOf "quoted" "quoted" (defArgs s_quoted) (defBody s_quoted) (defScope s_quoted) .none kV5 dc5 pm5 an5 cd5 ct5), sl5⟩)
    (c5 : PySem.W.codeIn K cd5 "quoted" = true)
    (k5 : PySem.W.keepIn K (.ref f5) = true)
    (a6 : PySem.W.nsIn K mainGlobals "write_call" = some (some (.ref f6)))
    (l6 : K.lookup f6 = some ⟨oc6, od6, .func (PySem.W.fnOf "write_call" "write_call" (defArgs s_write_call) (defBody s_write_call) (defScope s_write_call) .none kV6 dc6 pm6 an6 cd6 ct6), sl6⟩)
    (c6 : PySem.W.codeIn K cd6 "write_call" = true)
    (k6 : PySem.W.keepIn K (.ref f6) = true)
    (a7 : PySem.W.nsIn K mainGlobals "value_text" = some (some (.ref f7)))
    (l7 : K.lookup f7 = some ⟨oc7, od7, .func (PySem.W.fnOf "value_text" "value_text" (defArgs s_value_text) (defBody s_value_text) (defScope s_value_text) .none kV7 dc7 pm7 an7 cd7 ct7), sl7⟩)
    (c7 : PySem.W.codeIn K cd7 "value_text" = true)
    (k7 : PySem.W.keepIn K (.ref f7) = true)
    (a8 : PySem.W.nsIn K mainGlobals "read_call" = some (some (.ref f8)))
    (l8 : K.lookup f8 = some ⟨oc8, od8, .func (PySem.W.fnOf "read_call" "read_call" (defArgs s_read_call) (defBody s_read_call) (defScope s_read_call) .none kV8 dc8 pm8 an8 cd8 ct8), sl8⟩)
    (c8 : PySem.W.codeIn K cd8 "read_call" = true)
    (k8 : PySem.W.keepIn K (.ref f8) = true)
    (a9 : PySem.W.findIn K (.ref aCallReader) "__init__" = some (some (.ref f9)))
    (i9 : PySem.W.isFn K (.ref f9) = true)
    (l9 : K.lookup f9 = some ⟨oc9, od9, .func (PySem.W.fnOf "__init__" "CallReader.__init__" (defArgs s_CallReader___init__) (defBody s_CallReader___init__) (defScope s_CallReader___init__) .none kV9 dc9 pm9 an9 cd9 ct9), sl9⟩)
    (c9 : PySem.W.codeIn K cd9 "CallReader.__init__" = true)
    (k9 : PySem.W.keepIn K (.ref f9) = true)
    (a10 : PySem.W.findIn K (.ref aCallReader) "sign" = some (some (.ref f10)))
    (i10 : PySem.W.isFn K (.ref f10) = true)
    (l10 : K.lookup f10 = some ⟨oc10, od10, .func (PySem.W.fnOf "sign" "CallReader.sign" (defArgs s_CallReader_sign) (defBody s_CallReader_sign) (defScope s_CallReader_sign) .none kV10 dc10 pm10 an10 cd10 ct10), sl10⟩)
    (c10 : PySem.W.codeIn K cd10 "CallReader.sign" = true)
    (k10 : PySem.W.keepIn K (.ref f10) = true)
    (a11 : PySem.W.findIn K (.ref aCallReader) "has" = some (some (.ref f11)))
    (i11 : PySem.W.isFn K (.ref f11) = true)
    (l11 : K.lookup f11 = some ⟨oc11, od11, .func (PySem.W.fnOf "has" "CallReader.has" (defArgs s_CallReader_has) (defBody s_CallReader_has) (defScope s_CallReader_has) .none kV11 dc11 pm11 an11 cd11 ct11), sl11⟩)
    (c11 : PySem.W.codeIn K cd11 "CallReader.has" = true)
    (k11 : PySem.W.keepIn K (.ref f11) = true)
    (a12 : PySem.W.findIn K (.ref aCallReader) "need" = some (some (.ref f12)))
    (i12 : PySem.W.isFn K (.ref f12) = true)
    (l12 : K.lookup f12 = some ⟨oc12, od12, .func (PySem.W.fnOf "need" "CallReader.need" (defArgs s_CallReader_need) (defBody s_CallReader_need) (defScope s_CallReader_need) .none kV12 dc12 pm12 an12 cd12 ct12), sl12⟩)
    (c12 : PySem.W.codeIn K cd12 "CallReader.need" = true)
    (k12 : PySem.W.keepIn K (.ref f12) = true)
    (a13 : PySem.W.findIn K (.ref aCallReader) "take_value" = some (some (.ref f13)))
    (i13 : PySem.W.isFn K (.ref f13) = true)
    (l13 : K.lookup f13 = some ⟨oc13, od13, .func (PySem.W.fnOf "take_value" "CallReader.take_value" (defArgs s_CallReader_take_value) (defBody s_CallReader_take_value) (defScope s_CallReader_take_value) .none kV13 dc13 pm13 an13 cd13 ct13), sl13⟩)
    (c13 : PySem.W.codeIn K cd13 "CallReader.take_value" = true)
    (k13 : PySem.W.keepIn K (.ref f13) = true)
    (a14 : PySem.W.findIn K (.ref aCallReader) "take_list" = some (some (.ref f14)))
    (i14 : PySem.W.isFn K (.ref f14) = true)
    (l14 : K.lookup f14 = some ⟨oc14, od14, .func (PySem.W.fnOf "take_list" "CallReader.take_list" (defArgs s_CallReader_take_list) (defBody s_CallReader_take_list) (defScope s_CallReader_take_list) .none kV14 dc14 pm14 an14 cd14 ct14), sl14⟩)
    (c14 : PySem.W.codeIn K cd14 "CallReader.take_list" = true)
    (k14 : PySem.W.keepIn K (.ref f14) = true)
    (a15 : PySem.W.findIn K (.ref aCallReader) "take_record" = some (some (.ref f15)))
    (i15 : PySem.W.isFn K (.ref f15) = true)
    (l15 : K.lookup f15 = some ⟨oc15, od15, .func (PySem.W.fnOf "take_record" "CallReader.take_record" (defArgs s_CallReader_take_record) (defBody s_CallReader_take_record) (defScope s_CallReader_take_record) .none kV15 dc15 pm15 an15 cd15 ct15), sl15⟩)
    (c15 : PySem.W.codeIn K cd15 "CallReader.take_record" = true)
    (k15 : PySem.W.keepIn K (.ref f15) = true)
    (a16 : PySem.W.findIn K (.ref aCallReader) "take_field" = some (some (.ref f16)))
    (i16 : PySem.W.isFn K (.ref f16) = true)
    (l16 : K.lookup f16 = some ⟨oc16, od16, .func (PySem.W.fnOf "take_field" "CallReader.take_field" (defArgs s_CallReader_take_field) (defBody s_CallReader_take_field) (defScope s_CallReader_take_field) .none kV16 dc16 pm16 an16 cd16 ct16), sl16⟩)
    (c16 : PySem.W.codeIn K cd16 "CallReader.take_field" = true)
    (k16 : PySem.W.keepIn K (.ref f16) = true)
    (a17 : PySem.W.findIn K (.ref aCallReader) "take_text" = some (some (.ref f17)))
    (i17 : PySem.W.isFn K (.ref f17) = true)
    (l17 : K.lookup f17 = some ⟨oc17, od17, .func (PySem.W.fnOf "take_text" "CallReader.take_text" (defArgs s_CallReader_take_text) (defBody s_CallReader_take_text) (defScope s_CallReader_take_text) .none kV17 dc17 pm17 an17 cd17 ct17), sl17⟩)
    (c17 : PySem.W.codeIn K cd17 "CallReader.take_text" = true)
    (k17 : PySem.W.keepIn K (.ref f17) = true)
    (a18 : PySem.W.findIn K (.ref aCallReader) "take_escaped" = some (some (.ref f18)))
    (i18 : PySem.W.isFn K (.ref f18) = true)
    (l18 : K.lookup f18 = some ⟨oc18, od18, .func (PySem.W.fnOf "take_escaped" "CallReader.take_escaped" (defArgs s_CallReader_take_escaped) (defBody s_CallReader_take_escaped) (defScope s_CallReader_take_escaped) .none kV18 dc18 pm18 an18 cd18 ct18), sl18⟩)
    (c18 : PySem.W.codeIn K cd18 "CallReader.take_escaped" = true)
    (k18 : PySem.W.keepIn K (.ref f18) = true)
    (a19 : PySem.W.findIn K (.ref aCallReader) "take_number" = some (some (.ref f19)))
    (i19 : PySem.W.isFn K (.ref f19) = true)
    (l19 : K.lookup f19 = some ⟨oc19, od19, .func (PySem.W.fnOf "take_number" "CallReader.take_number" (defArgs s_CallReader_take_number) (defBody s_CallReader_take_number) (defScope s_CallReader_take_number) .none kV19 dc19 pm19 an19 cd19 ct19), sl19⟩)
    (c19 : PySem.W.codeIn K cd19 "CallReader.take_number" = true)
    (k19 : PySem.W.keepIn K (.ref f19) = true)
    (a20 : PySem.W.nsIn K mainGlobals "read_recording" = some (some (.ref f20)))
    (l20 : K.lookup f20 = some ⟨oc20, od20, .func (PySem.W.fnOf "read_recording" "read_recording" (defArgs s_read_recording) (defBody s_read_recording) (defScope s_read_recording) .none kV20 dc20 pm20 an20 cd20 ct20), sl20⟩)
    (c20 : PySem.W.codeIn K cd20 "read_recording" = true)
    (k20 : PySem.W.keepIn K (.ref f20) = true)
    (a21 : PySem.W.nsIn K mainGlobals "is_beginning" = some (some (.ref f21)))
    (l21 : K.lookup f21 = some ⟨oc21, od21, .func (PySem.W.fnOf "is_beginning" "is_beginning" (defArgs s_is_beginning) (defBody s_is_beginning) (defScope s_is_beginning) .none kV21 dc21 pm21 an21 cd21 ct21), sl21⟩)
    (c21 : PySem.W.codeIn K cd21 "is_beginning" = true)
    (k21 : PySem.W.keepIn K (.ref f21) = true)
    (a22 : PySem.W.nsIn K mainGlobals "_law_rows" = some (some (.ref f22)))
    (l22 : K.lookup f22 = some ⟨oc22, od22, .func (PySem.W.fnOf "_law_rows" "_law_rows" (defArgs s__law_rows) (defBody s__law_rows) (defScope s__law_rows) .none kV22 dc22 pm22 an22 cd22 ct22), sl22⟩)
    (c22 : PySem.W.codeIn K cd22 "_law_rows" = true)
    (k22 : PySem.W.keepIn K (.ref f22) = true)
    (a23 : PySem.W.nsIn K mainGlobals "_law_text" = some (some (.ref f23)))
    (l23 : K.lookup f23 = some ⟨oc23, od23, .func (PySem.W.fnOf "_law_text" "_law_text" (defArgs s__law_text) (defBody s__law_text) (defScope s__law_text) .none kV23 dc23 pm23 an23 cd23 ct23), sl23⟩)
    (c23 : PySem.W.codeIn K cd23 "_law_text" = true)
    (k23 : PySem.W.keepIn K (.ref f23) = true)
    (a24 : PySem.W.nsIn K mainGlobals "_law_value" = some (some (.ref f24)))
    (l24 : K.lookup f24 = some ⟨oc24, od24, .func (PySem.W.fnOf "_law_value" "_law_value" (defArgs s__law_value) (defBody s__law_value) (defScope s__law_value) .none kV24 dc24 pm24 an24 cd24 ct24), sl24⟩)
    (c24 : PySem.W.codeIn K cd24 "_law_value" = true)
    (k24 : PySem.W.keepIn K (.ref f24) = true)
    (a25 : PySem.W.nsIn K mainGlobals "_law_values" = some (some (.ref f25)))
    (l25 : K.lookup f25 = some ⟨oc25, od25, .func (PySem.W.fnOf "_law_values" "_law_values" (defArgs s__law_values) (defBody s__law_values) (defScope s__law_values) .none kV25 dc25 pm25 an25 cd25 ct25), sl25⟩)
    (c25 : PySem.W.codeIn K cd25 "_law_values" = true)
    (k25 : PySem.W.keepIn K (.ref f25) = true)
    (a26 : PySem.W.nsIn K mainGlobals "_law_first" = some (some (.ref f26)))
    (l26 : K.lookup f26 = some ⟨oc26, od26, .func (PySem.W.fnOf "_law_first" "_law_first" (defArgs s__law_first) (defBody s__law_first) (defScope s__law_first) .none kV26 dc26 pm26 an26 cd26 ct26), sl26⟩)
    (c26 : PySem.W.codeIn K cd26 "_law_first" = true)
    (k26 : PySem.W.keepIn K (.ref f26) = true)
    (a27 : PySem.W.nsIn K mainGlobals "law" = some (some (.ref f27)))
    (l27 : K.lookup f27 = some ⟨oc27, od27, .func (PySem.W.fnOf "law" "law" (defArgs s_law) (defBody s_law) (defScope s_law) .none kV27 dc27 pm27 an27 cd27 ct27), sl27⟩)
    (c27 : PySem.W.codeIn K cd27 "law" = true)
    (k27 : PySem.W.keepIn K (.ref f27) = true)
    : ∃ fd : FuncData, (∀ (s : Shared) (v : Value), BindsTo s fd ⟨[v], []⟩ [("script", v)]) ∧ ∀ base : Heap, K.In base → base.Ns mainGlobals mg → FnG l.prog w K mg base 80 fa fd ["script"] (spLaw K) := by
  have e := hfa.symm.trans (PySem.W.mg_of X G a27)
  cases e
  have F1 := fun_mk (st := s_is_text) l1 c1 k1
  have b1 := F1.binds (ps := ["value"]) fun _ _ _ _ _ _ us hl => match us, hl with | [_], _ => rfl
  have F2 := fun_mk (st := s_is_list) l2 c2 k2
  have b2 := F2.binds (ps := ["value"]) fun _ _ _ _ _ _ us hl => match us, hl with | [_], _ => rfl
  have F3 := fun_mk (st := s_is_record) l3 c3 k3
  have b3 := F3.binds (ps := ["value"]) fun _ _ _ _ _ _ us hl => match us, hl with | [_], _ => rfl
  have F4 := fun_mk (st := s_is_digit) l4 c4 k4
  have b4 := F4.binds (ps := ["sign"]) fun _ _ _ _ _ _ us hl => match us, hl with | [_], _ => rfl
  have F5 := fun_mk (st := s_quoted) l5 c5 k5
  have b5 := F5.binds (ps := ["text"]) fun _ _ _ _ _ _ us hl => match us, hl with | [_], _ => rfl
  have F6 := fun_mk (st := s_write_call) l6 c6 k6
  have b6 := F6.binds (ps := ["name", "values"]) fun _ _ _ _ _ _ us hl => match us, hl with | [_, _], _ => rfl
  have F7 := fun_mk (st := s_value_text) l7 c7 k7
  have b7 := F7.binds (ps := ["value"]) fun _ _ _ _ _ _ us hl => match us, hl with | [_], _ => rfl
  have F8 := fun_mk (st := s_read_call) l8 c8 k8
  have b8 := F8.binds (ps := ["text"]) fun _ _ _ _ _ _ us hl => match us, hl with | [_], _ => rfl
  have F9 := fun_mk (st := s_CallReader___init__) l9 c9 k9
  have b9 := F9.binds (ps := ["self", "text"]) fun _ _ _ _ _ _ us hl => match us, hl with | [_, _], _ => rfl
  have F10 := fun_mk (st := s_CallReader_sign) l10 c10 k10
  have b10 := F10.binds (ps := ["self"]) fun _ _ _ _ _ _ us hl => match us, hl with | [_], _ => rfl
  have F11 := fun_mk (st := s_CallReader_has) l11 c11 k11
  have b11 := F11.binds (ps := ["self", "mark"]) fun _ _ _ _ _ _ us hl => match us, hl with | [_, _], _ => rfl
  have F12 := fun_mk (st := s_CallReader_need) l12 c12 k12
  have b12 := F12.binds (ps := ["self", "mark"]) fun _ _ _ _ _ _ us hl => match us, hl with | [_, _], _ => rfl
  have F13 := fun_mk (st := s_CallReader_take_value) l13 c13 k13
  have b13 := F13.binds (ps := ["self", "level"]) fun _ _ _ _ _ _ us hl => match us, hl with | [_, _], _ => rfl
  have F14 := fun_mk (st := s_CallReader_take_list) l14 c14 k14
  have b14 := F14.binds (ps := ["self", "level"]) fun _ _ _ _ _ _ us hl => match us, hl with | [_, _], _ => rfl
  have F15 := fun_mk (st := s_CallReader_take_record) l15 c15 k15
  have b15 := F15.binds (ps := ["self", "level"]) fun _ _ _ _ _ _ us hl => match us, hl with | [_, _], _ => rfl
  have F16 := fun_mk (st := s_CallReader_take_field) l16 c16 k16
  have b16 := F16.binds (ps := ["self", "record", "level"]) fun _ _ _ _ _ _ us hl => match us, hl with | [_, _, _], _ => rfl
  have F17 := fun_mk (st := s_CallReader_take_text) l17 c17 k17
  have b17 := F17.binds (ps := ["self"]) fun _ _ _ _ _ _ us hl => match us, hl with | [_], _ => rfl
  have F18 := fun_mk (st := s_CallReader_take_escaped) l18 c18 k18
  have b18 := F18.binds (ps := ["self"]) fun _ _ _ _ _ _ us hl => match us, hl with | [_], _ => rfl
  have F19 := fun_mk (st := s_CallReader_take_number) l19 c19 k19
  have b19 := F19.binds (ps := ["self"]) fun _ _ _ _ _ _ us hl => match us, hl with | [_], _ => rfl
  have F20 := fun_mk (st := s_read_recording) l20 c20 k20
  have b20 := F20.binds (ps := ["texts"]) fun _ _ _ _ _ _ us hl => match us, hl with | [_], _ => rfl
  have F21 := fun_mk (st := s_is_beginning) l21 c21 k21
  have b21 := F21.binds (ps := ["call"]) fun _ _ _ _ _ _ us hl => match us, hl with | [_], _ => rfl
  have F22 := fun_mk (st := s__law_rows) l22 c22 k22
  have b22 := F22.binds (ps := ["script", "count"]) fun _ _ _ _ _ _ us hl => match us, hl with | [_, _], _ => rfl
  have F23 := fun_mk (st := s__law_text) l23 c23 k23
  have b23 := F23.binds (ps := ["row"]) fun _ _ _ _ _ _ us hl => match us, hl with | [_], _ => rfl
  have F24 := fun_mk (st := s__law_value) l24 c24 k24
  have b24 := F24.binds (ps := ["rows", "world", "depth"]) fun _ _ _ _ _ _ us hl => match us, hl with | [_, _, _], _ => rfl
  have F25 := fun_mk (st := s__law_values) l25 c25 k25
  have b25 := F25.binds (ps := ["rows", "at", "many"]) fun _ _ _ _ _ _ us hl => match us, hl with | [_, _, _], _ => rfl
  have F26 := fun_mk (st := s__law_first) l26 c26 k26
  have b26 := F26.binds (ps := ["row", "values"]) fun _ _ _ _ _ _ us hl => match us, hl with | [_, _], _ => rfl
  have T : Txt K w mg ⟨(), aCallReader, aInvalidCall, aInvalidRecording, aViewError⟩ := {
    g_CallReader := ⟨_, PySem.W.mg_of X G q_CallReader, rfl⟩,
    cl_CallReader := ⟨pg_CallReader, hd_CallReader, po_CallReader, sa_CallReader⟩,
    n_CallReader_text := n_CallReader_text,
    n_CallReader_at := n_CallReader_at,
    z_dict := PySem.W.mg_none_of X G z_dict,
    z_enumerate := PySem.W.mg_none_of X G z_enumerate,
    z_int := PySem.W.mg_none_of X G z_int,
    z_isinstance := PySem.W.mg_none_of X G z_isinstance,
    z_len := PySem.W.mg_none_of X G z_len,
    z_list := PySem.W.mg_none_of X G z_list,
    z_range := PySem.W.mg_none_of X G z_range,
    z_repr := PySem.W.mg_none_of X G z_repr,
    z_str := PySem.W.mg_none_of X G z_str,
    g_LARGEST_NUMBER := ⟨_, PySem.W.mg_of X G g_LARGEST_NUMBER, r_LARGEST_NUMBER⟩,
    g_LOWEST_LEVEL := ⟨_, PySem.W.mg_of X G g_LOWEST_LEVEL, r_LOWEST_LEVEL⟩,
    g_MOST_DIGITS := ⟨_, PySem.W.mg_of X G g_MOST_DIGITS, r_MOST_DIGITS⟩,
    g_WORDS := ⟨_, _, _, _, ⟨_, PySem.W.mg_of X G g_WORDS, rfl⟩, fun H => .inr ⟨_, _, _, tl_WORDS, rfl, rfl, tz_WORDS, tv_WORDS⟩, fun H => .inr ⟨_, _, _, tl_WORDS_0, rfl, rfl, tz_WORDS_0, tv_WORDS_0⟩, fun H => .inr ⟨_, _, _, tl_WORDS_1, rfl, rfl, tz_WORDS_1, tv_WORDS_1⟩, fun H => .inr ⟨_, _, _, tl_WORDS_2, rfl, rfl, tz_WORDS_2, tv_WORDS_2⟩⟩,
    k_ESCAPES := ⟨_, _, _, ⟨_, PySem.W.mg_of X G gK_ESCAPES, rfl⟩, ⟨⟨lK_ESCAPES, tK_ESCAPES, sK_ESCAPES⟩, yK_ESCAPES⟩, ⟨_, eK_ESCAPES_0, rK_ESCAPES_0⟩, ⟨_, eK_ESCAPES_1, rK_ESCAPES_1⟩, ⟨_, eK_ESCAPES_2, rK_ESCAPES_2⟩⟩,
    x_InvalidCall := ⟨PySem.W.mg_of X G q_InvalidCall, xx_InvalidCall, xk_InvalidCall, xb_InvalidCall, xt_InvalidCall, PySem.W.exm_ref xb_InvalidCall xd_InvalidCall xt_InvalidCall xs_InvalidCall, ⟨xg_InvalidCall, xh_InvalidCall, xb_InvalidCall, xd_InvalidCall, xc_InvalidCall, xp_InvalidCall, xq_InvalidCall, xm_InvalidCall⟩⟩,
    gx_ViewError := ⟨_, PySem.W.mg_of X G q_ViewError, rfl⟩,
    k_InvalidCall_ViewError := ki_InvalidCall_ViewError,
    k_InvalidRecording_ViewError := ki_InvalidRecording_ViewError,
    d_is_text := ⟨_, _, F1, PySem.W.mg_of X G a1, b1⟩,
    d_is_list := ⟨_, _, F2, PySem.W.mg_of X G a2, b2⟩,
    d_is_record := ⟨_, _, F3, PySem.W.mg_of X G a3, b3⟩,
    d_is_digit := ⟨_, _, F4, PySem.W.mg_of X G a4, b4⟩,
    d_quoted := ⟨_, _, F5, PySem.W.mg_of X G a5, b5⟩,
    d_write_call := ⟨_, _, F6, PySem.W.mg_of X G a6, b6⟩,
    d_value_text := ⟨_, _, F7, PySem.W.mg_of X G a7, b7⟩,
    d_read_call := ⟨_, _, F8, PySem.W.mg_of X G a8, b8⟩,
    i_CallReader := ⟨_, _, F9, ⟨mk_CallReader, a9, i9, kc_CallReader⟩, PySem.W.mg_of X G q_CallReader, b9⟩,
    m_CallReader_sign := ⟨_, _, F10, ⟨a10, i10, k10⟩, b10⟩,
    m_CallReader_has := ⟨_, _, F11, ⟨a11, i11, k11⟩, b11⟩,
    m_CallReader_need := ⟨_, _, F12, ⟨a12, i12, k12⟩, b12⟩,
    m_CallReader_take_value := ⟨_, _, F13, ⟨a13, i13, k13⟩, b13⟩,
    m_CallReader_take_list := ⟨_, _, F14, ⟨a14, i14, k14⟩, b14⟩,
    m_CallReader_take_record := ⟨_, _, F15, ⟨a15, i15, k15⟩, b15⟩,
    m_CallReader_take_field := ⟨_, _, F16, ⟨a16, i16, k16⟩, b16⟩,
    m_CallReader_take_text := ⟨_, _, F17, ⟨a17, i17, k17⟩, b17⟩,
    m_CallReader_take_escaped := ⟨_, _, F18, ⟨a18, i18, k18⟩, b18⟩,
    m_CallReader_take_number := ⟨_, _, F19, ⟨a19, i19, k19⟩, b19⟩,
    d_read_recording := ⟨_, _, F20, PySem.W.mg_of X G a20, b20⟩,
    d_is_beginning := ⟨_, _, F21, PySem.W.mg_of X G a21, b21⟩,
    d__law_rows := ⟨_, _, F22, PySem.W.mg_of X G a22, b22⟩,
    d__law_text := ⟨_, _, F23, PySem.W.mg_of X G a23, b23⟩,
    d__law_value := ⟨_, _, F24, PySem.W.mg_of X G a24, b24⟩,
    d__law_values := ⟨_, _, F25, PySem.W.mg_of X G a25, b25⟩,
    d__law_first := ⟨_, _, F26, PySem.W.mg_of X G a26, b26⟩ }
  have T : TxtE l.prog K w mg ⟨(), aCallReader, aInvalidCall, aInvalidRecording, aViewError⟩ := { t := T, xi_InvalidRecording := ⟨⟨fI_InvalidRecording, cc_InvalidRecording, cda_InvalidRecording, kVI_InvalidRecording, dcI_InvalidRecording, pmI_InvalidRecording, ctI_InvalidRecording, anI_InvalidRecording, ⟨⟨_, _, _, lI_InvalidRecording⟩, cI_InvalidRecording, ⟨_, _, _, ceI_InvalidRecording⟩, ⟨_, _, _, _, _, _, coI_InvalidRecording, vsI_InvalidRecording, fiI_InvalidRecording⟩, ⟨_, clI_InvalidRecording⟩, sbI_InvalidRecording, PySem.W.mg_none_of X G z_super, opI_InvalidRecording, alI_InvalidRecording, svI_InvalidRecording, tpI_InvalidRecording⟩, iI_InvalidRecording, tI_InvalidRecording, .all fun us hl => match us, hl with | [_, _], _ => rfl⟩, ⟨⟨_, _, _, _, _, _, _, _, _, _, _, _, _, _, _, lD_InvalidRecording, bmR_InvalidRecording⟩, saD_InvalidRecording, exD_InvalidRecording, tyD_InvalidRecording, kD_InvalidRecording⟩, List.forall_mem_cons.mpr ⟨m_InvalidRecording_index, fun _ h => nomatch h⟩, PySem.W.mg_of X G q_InvalidRecording, PySem.W.exm_ref exD_InvalidRecording hdD_InvalidRecording tyD_InvalidRecording ssD_InvalidRecording, ⟨gaD_InvalidRecording, ggD_InvalidRecording, exD_InvalidRecording, hdD_InvalidRecording⟩, ⟨gaD_InvalidRecording, ggD_InvalidRecording, exD_InvalidRecording, hdD_InvalidRecording, caD_InvalidRecording, spD_InvalidRecording, tkD_InvalidRecording, mrD_InvalidRecording⟩⟩ }
  exact ⟨_, fun s v => .of_eq rfl, fun base _ _ => ok_law (fun_mk (st := s_law) l27 c27 k27) T⟩
theorem walk {l : PySem.W.OpenLaw} {q : Program} {loose : List Str} {XP : (Str → Option Value) → Heap → Prop} {YP : World → Heap → Prop} {d : DefRec} {K : Params → PySem.W.Frag} (hn : l.most = some 63) (hdf : d.params.defaults = [])
    (hY : ∀ (w : World) (h : Heap), YP w h → (K w.params).In h)
    (F : ∀ (w : World) (mg : Str → Option Value) (fa : Addr) (h : Heap), (K w.params).In h → h.Ns mainGlobals mg → mg d.name = some (.ref fa) →
      ∃ fd : FuncData, (∀ (s : Shared) (u : Value), BindsTo s fd ⟨[u], []⟩ [("script", u)]) ∧ ∀ base : Heap, (K w.params).In base → base.Ns mainGlobals mg → FnG l.prog w (K w.params) mg base 80 fa fd ["script"] (spLaw (K w.params))) :
    PySem.W.WalkO q loose XP YP l.row.toRowW d [] (fun f vs => PySem.call f vs) :=
  walk_ofG (n := 63) (k := 80) (x := "script") (sp := fun w => spLaw (K w.params)) hn (by decide) hdf ⟨rfl, by decide, by decide⟩ hY F (fun _ _ a ns hl _ hS => ⟨a, ns, rfl, hS, hl, fun _ => rfl⟩)
end VL

open PySem PySem.W PyProof.Rows in
set_option maxRecDepth 100000 in
set_option maxHeartbeats 0 in
set_option pp.maxSteps 60 in
theorem PySem.Challenge.cw_viewloom_k74_recordings_are_read_holds : PySem.Challenge.rw_viewloom_k74_recordings_are_read.Holds := by
  w_on; o_law; k_head; (case hw => w_witness2)
  k_fill
  refine VL.walk (l := PySem.Challenge.rw_viewloom_k74_recordings_are_read) rfl rfl (fun w h Y => PySem.W.kIn_of Y) ?F
  case F =>
    intro w mg fa h KX G hmg
    refine' VL.all_mk KX G hmg ?q_CallReader ?pg_CallReader ?hd_CallReader ?po_CallReader ?sa_CallReader ?mk_CallReader ?kc_CallReader ?n_CallReader_text ?n_CallReader_at ?z_dict ?z_enumerate ?z_int ?z_isinstance ?z_len ?z_list ?z_range ?z_repr ?z_str ?g_LARGEST_NUMBER ?r_LARGEST_NUMBER ?g_LOWEST_LEVEL ?r_LOWEST_LEVEL ?g_MOST_DIGITS ?r_MOST_DIGITS ?g_WORDS ?tl_WORDS ?tz_WORDS ?tv_WORDS ?tl_WORDS_0 ?tz_WORDS_0 ?tv_WORDS_0 ?tl_WORDS_1 ?tz_WORDS_1 ?tv_WORDS_1 ?tl_WORDS_2 ?tz_WORDS_2 ?tv_WORDS_2 ?gK_ESCAPES ?lK_ESCAPES ?tK_ESCAPES ?sK_ESCAPES ?yK_ESCAPES ?eK_ESCAPES_0 ?rK_ESCAPES_0 ?eK_ESCAPES_1 ?rK_ESCAPES_1 ?eK_ESCAPES_2 ?rK_ESCAPES_2 ?q_InvalidCall ?xx_InvalidCall ?xk_InvalidCall ?xb_InvalidCall ?xt_InvalidCall ?xs_InvalidCall ?xg_InvalidCall ?xh_InvalidCall ?xd_InvalidCall ?xc_InvalidCall ?xp_InvalidCall ?xq_InvalidCall ?xm_InvalidCall ?z_super ?q_InvalidRecording ?iI_InvalidRecording ?tI_InvalidRecording ?lI_InvalidRecording ?cI_InvalidRecording ?ceI_InvalidRecording ?coI_InvalidRecording ?vsI_InvalidRecording ?fiI_InvalidRecording ?clI_InvalidRecording ?sbI_InvalidRecording ?opI_InvalidRecording ?alI_InvalidRecording ?svI_InvalidRecording ?tpI_InvalidRecording ?lD_InvalidRecording ?bmR_InvalidRecording ?saD_InvalidRecording ?exD_InvalidRecording ?tyD_InvalidRecording ?kD_InvalidRecording ?m_InvalidRecording_index ?ssD_InvalidRecording ?gaD_InvalidRecording ?ggD_InvalidRecording ?hdD_InvalidRecording ?caD_InvalidRecording ?spD_InvalidRecording ?tkD_InvalidRecording ?mrD_InvalidRecording ?q_ViewError ?ki_InvalidCall_ViewError ?ki_InvalidRecording_ViewError ?a1 ?l1 ?c1 ?k1 ?a2 ?l2 ?c2 ?k2 ?a3 ?l3 ?c3 ?k3 ?a4 ?l4 ?c4 ?k4 ?a5 ?l5 ?c5 ?k5 ?a6 ?l6 ?c6 ?k6 ?a7 ?l7 ?c7 ?k7 ?a8 ?l8 ?c8 ?k8 ?a9 ?i9 ?l9 ?c9 ?k9 ?a10 ?i10 ?l10 ?c10 ?k10 ?a11 ?i11 ?l11 ?c11 ?k11 ?a12 ?i12 ?l12 ?c12 ?k12 ?a13 ?i13 ?l13 ?c13 ?k13 ?a14 ?i14 ?l14 ?c14 ?k14 ?a15 ?i15 ?l15 ?c15 ?k15 ?a16 ?i16 ?l16 ?c16 ?k16 ?a17 ?i17 ?l17 ?c17 ?k17 ?a18 ?i18 ?l18 ?c18 ?k18 ?a19 ?i19 ?l19 ?c19 ?k19 ?a20 ?l20 ?c20 ?k20 ?a21 ?l21 ?c21 ?k21 ?a22 ?l22 ?c22 ?k22 ?a23 ?l23 ?c23 ?k23 ?a24 ?l24 ?c24 ?k24 ?a25 ?l25 ?c25 ?k25 ?a26 ?l26 ?c26 ?k26 ?a27 ?l27 ?c27 ?k27
    (case q_CallReader => k_is)
    (case pg_CallReader => k_is)
    (case hd_CallReader => k_is)
    (case po_CallReader => k_is)
    (case sa_CallReader => k_is)
    (case mk_CallReader => k_is)
    (case kc_CallReader => k_is)
    (case n_CallReader_text => k_is)
    (case n_CallReader_at => k_is)
    (case z_dict => k_is)
    (case z_enumerate => k_is)
    (case z_int => k_is)
    (case z_isinstance => k_is)
    (case z_len => k_is)
    (case z_list => k_is)
    (case z_range => k_is)
    (case z_repr => k_is)
    (case z_str => k_is)
    (case g_LARGEST_NUMBER => k_is)
    (case r_LARGEST_NUMBER => exact ⟨_, rfl⟩)
    (case g_LOWEST_LEVEL => k_is)
    (case r_LOWEST_LEVEL => exact ⟨_, rfl⟩)
    (case g_MOST_DIGITS => k_is)
    (case r_MOST_DIGITS => exact ⟨_, rfl⟩)
    (case g_WORDS => k_is)
    (case tl_WORDS => k_is)
    (case tz_WORDS => show 3 ≤ sizeLine; decide)
    (case tv_WORDS => exact (.cons rfl (.cons rfl (.cons rfl .nil))))
    (case tl_WORDS_0 => k_is)
    (case tz_WORDS_0 => show 2 ≤ sizeLine; decide)
    (case tv_WORDS_0 => exact (.cons ⟨_, rfl⟩ (.cons rfl .nil)))
    (case tl_WORDS_1 => k_is)
    (case tz_WORDS_1 => show 2 ≤ sizeLine; decide)
    (case tv_WORDS_1 => exact (.cons ⟨_, rfl⟩ (.cons rfl .nil)))
    (case tl_WORDS_2 => k_is)
    (case tz_WORDS_2 => show 2 ≤ sizeLine; decide)
    (case tv_WORDS_2 => exact (.cons ⟨_, rfl⟩ (.cons rfl .nil)))
    (case gK_ESCAPES => k_is)
    (case lK_ESCAPES => k_is)
    (case tK_ESCAPES => k_keys)
    (case sK_ESCAPES => first | rfl | decide +kernel)
    (case yK_ESCAPES => first | rfl | decide +kernel)
    (case eK_ESCAPES_0 => k_is)
    (case rK_ESCAPES_0 => exact ⟨_, rfl⟩)
    (case eK_ESCAPES_1 => k_is)
    (case rK_ESCAPES_1 => exact ⟨_, rfl⟩)
    (case eK_ESCAPES_2 => k_is)
    (case rK_ESCAPES_2 => exact ⟨_, rfl⟩)
    (case q_InvalidCall => k_is)
    (case xx_InvalidCall => k_exc)
    (case xk_InvalidCall => k_is)
    (case xb_InvalidCall => k_is)
    (case xt_InvalidCall => k_is)
    (case xs_InvalidCall => first | rfl | k_is)
    (case xg_InvalidCall => k_is)
    (case xh_InvalidCall => k_is)
    (case xd_InvalidCall => k_is)
    (case xc_InvalidCall => k_is)
    (case xp_InvalidCall => k_is)
    (case xq_InvalidCall => k_is)
    (case xm_InvalidCall => k_is)
    (case z_super => k_is)
    (case q_InvalidRecording => k_is)
    (case iI_InvalidRecording => k_is)
    (case tI_InvalidRecording => k_is)
    (case lI_InvalidRecording => k_is)
    (case cI_InvalidRecording => k_is)
    (case ceI_InvalidRecording => k_is)
    (case coI_InvalidRecording => k_is)
    (case vsI_InvalidRecording => rfl)
    (case fiI_InvalidRecording => first | rfl | decide +kernel)
    (case clI_InvalidRecording => k_is)
    (case sbI_InvalidRecording => k_is)
    (case opI_InvalidRecording => k_is)
    (case alI_InvalidRecording => ks_is)
    (case svI_InvalidRecording => k_is)
    (case tpI_InvalidRecording => first | rfl | decide +kernel)
    (case lD_InvalidRecording => k_is)
    (case bmR_InvalidRecording => first | rfl | decide +kernel)
    (case saD_InvalidRecording => k_is)
    (case exD_InvalidRecording => k_is)
    (case tyD_InvalidRecording => k_is)
    (case kD_InvalidRecording => k_is)
    (case m_InvalidRecording_index => k_is)
    (case ssD_InvalidRecording => first | rfl | k_is)
    (case gaD_InvalidRecording => k_is)
    (case ggD_InvalidRecording => k_is)
    (case hdD_InvalidRecording => k_is)
    (case caD_InvalidRecording => k_is)
    (case spD_InvalidRecording => k_is)
    (case tkD_InvalidRecording => k_is)
    (case mrD_InvalidRecording => k_is)
    (case q_ViewError => k_is)
    (case ki_InvalidCall_ViewError => kit_is)
    (case ki_InvalidRecording_ViewError => kit_is)
    (case a1 => k_is)
    (case l1 => k_is)
    (case c1 => k_is)
    (case k1 => k_is)
    (case a2 => k_is)
    (case l2 => k_is)
    (case c2 => k_is)
    (case k2 => k_is)
    (case a3 => k_is)
    (case l3 => k_is)
    (case c3 => k_is)
    (case k3 => k_is)
    (case a4 => k_is)
    (case l4 => k_is)
    (case c4 => k_is)
    (case k4 => k_is)
    (case a5 => k_is)
    (case l5 => k_is)
    (case c5 => k_is)
    (case k5 => k_is)
    (case a6 => k_is)
    (case l6 => k_is)
    (case c6 => k_is)
    (case k6 => k_is)
    (case a7 => k_is)
    (case l7 => k_is)
    (case c7 => k_is)
    (case k7 => k_is)
    (case a8 => k_is)
    (case l8 => k_is)
    (case c8 => k_is)
    (case k8 => k_is)
    (case a9 => k_is)
    (case i9 => k_is)
    (case l9 => k_is)
    (case c9 => k_is)
    (case k9 => k_is)
    (case a10 => k_is)
    (case i10 => k_is)
    (case l10 => k_is)
    (case c10 => k_is)
    (case k10 => k_is)
    (case a11 => k_is)
    (case i11 => k_is)
    (case l11 => k_is)
    (case c11 => k_is)
    (case k11 => k_is)
    (case a12 => k_is)
    (case i12 => k_is)
    (case l12 => k_is)
    (case c12 => k_is)
    (case k12 => k_is)
    (case a13 => k_is)
    (case i13 => k_is)
    (case l13 => k_is)
    (case c13 => k_is)
    (case k13 => k_is)
    (case a14 => k_is)
    (case i14 => k_is)
    (case l14 => k_is)
    (case c14 => k_is)
    (case k14 => k_is)
    (case a15 => k_is)
    (case i15 => k_is)
    (case l15 => k_is)
    (case c15 => k_is)
    (case k15 => k_is)
    (case a16 => k_is)
    (case i16 => k_is)
    (case l16 => k_is)
    (case c16 => k_is)
    (case k16 => k_is)
    (case a17 => k_is)
    (case i17 => k_is)
    (case l17 => k_is)
    (case c17 => k_is)
    (case k17 => k_is)
    (case a18 => k_is)
    (case i18 => k_is)
    (case l18 => k_is)
    (case c18 => k_is)
    (case k18 => k_is)
    (case a19 => k_is)
    (case i19 => k_is)
    (case l19 => k_is)
    (case c19 => k_is)
    (case k19 => k_is)
    (case a20 => k_is)
    (case l20 => k_is)
    (case c20 => k_is)
    (case k20 => k_is)
    (case a21 => k_is)
    (case l21 => k_is)
    (case c21 => k_is)
    (case k21 => k_is)
    (case a22 => k_is)
    (case l22 => k_is)
    (case c22 => k_is)
    (case k22 => k_is)
    (case a23 => k_is)
    (case l23 => k_is)
    (case c23 => k_is)
    (case k23 => k_is)
    (case a24 => k_is)
    (case l24 => k_is)
    (case c24 => k_is)
    (case k24 => k_is)
    (case a25 => k_is)
    (case l25 => k_is)
    (case c25 => k_is)
    (case k25 => k_is)
    (case a26 => k_is)
    (case l26 => k_is)
    (case c26 => k_is)
    (case k26 => k_is)
    (case a27 => k_is)
    (case l27 => k_is)
    (case c27 => k_is)
    (case k27 => k_is)
#print axioms PySem.Challenge.cw_viewloom_k74_recordings_are_read_holds
